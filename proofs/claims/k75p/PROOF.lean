import PyProof.Rows.All
import Wide.All
import OpenK.AllK
import Wide.FinOn
import Lean
import PyProof.EqAt
import PyProof.EqKinds
import PyProof.TupleCall
import PySem.Challenge.RW_neverwait_k75_waiting_told
set_option Elab.async false
set_option linter.all false
set_option maxRecDepth 100000
set_option maxHeartbeats 8000000
def aI:=@List.length_map
def bE:=@List.getD_eq_getElem?_getD
def bC:=@List.getElem?_eq_getElem
def aw:=@PySem.wpAny_bind
def bN:=@PySem.Heap.get?_push_of_some
def bV:=@List.mem_cons_of_mem
def bX:=@Nat.lt_of_lt_of_le
def di:=@List.getElem?_eq_some_iff
def b_:=@List.mem_cons_self
def bA:=@Option.some.inj
def aH:=@PySem.Heap.lt_size
def ai:=@if_neg
def au:=@PyProof.Rows.wpS_bind
def bh:=@List.getElem?_map
def aF:=@Nat.le_refl
def ak:=@if_pos
def aS:=@List.mem_cons
def aU:=@Nat.ne_of_lt
def bT:=@Bool.false_ne_true
def cm:=@PySem.Heap.get?_push_size
def cC:=@List.mem_of_getElem?
def aG:=@PyProof.Rows.wpS_pure
def bn:=@Nat.le_trans
def bK:=@decide_eq_true
def cw:=@List.size_toArray
def cx:=@List.append_assoc
def cN:=@List.mem_singleton
def cn:=@List.map_append
def cZ:=@Nat.lt_of_le_of_lt
def dv:=@Array.toList_append
def bQ:=@List.mem_map
def eM:=@PySem.F.type_list_append
def eN:=@PySem.F.slot_list_append
def eO:=@PySem.F.plainAttrs_list
def c_:=@List.length_cons
def cD:=@List.mem_range
def dC:=@Nat.lt_succ_of_lt
def dk:=@List.mem_append
def d6:=@PySem.W.mg_none_of
def fL:=@PyProof.Rows.boot_tuple
def cy:=@getElem?_pos
def dw:=@PySem.PassesOwn.never
def d7:=@List.take_add_one
def dQ:=@List.lookup_cons
def dD:=@decide_eq_false
def dE:=@PySem.boot_len
def cE:=@Nat.zero_le
def eE:=@List.not_mem_nil
def d8:=@List.mem_filter
def fk:=@List.length_append
def fm:=@of_decide_eq_true
def jN:=@Array.perm_iff_toList_perm
def g_:=@List.perm_append_comm
def hG:=@List.mem_append_right
def fq:=@List.filter_cons
def fN:=@List.length_range
def hU:=@PySem.mem_of_lookup
def fO:=@List.take_length
def fQ:=@Bool.and_eq_true
def lT:=@List.getElem?_append_left
def gQ:=@PySem.Heap.get?_push_ne
def dR:=@PyProof.Rows.wpS_forRange
def nq:=@PyProof.Rows.boot_isinstance
def fR:=@List.nodup_cons
def eQ:=@Nat.lt_irrefl
def eR:=@List.map_cons
def jO:=@List.length_filter_le
def jP:=@List.mem_append_left
def nu:=@List.getElem?_append_right
def i7:=@List.filter_append
def ft:=@PySem.W.mg_of
def gR:=@PySem.W.kia_one
def gT:=@Nat.not_lt_zero
def hV:=@List.all_eq_true
def jQ:=@List.map_congr_left
def lU:=@List.getElem?_eq_none
def lV:=@List.Perm.append_left
def hX:=@Bool.eq_iff_iff
def gU:=@PySem.Heap.size_push
def pz:=@PyProof.Rows.callWith_type1
def pA:=@List.nodup_iff_pairwise_ne
def fS:=@Int.zero_add
def i8:=@PySem.Heap.size_update
def nw:=@List.length_replicate
def eS:=@beq_iff_eq
def lW:=@PySem.F.called_set
def jR:=@Nat.lt_succ_self
def pB:=@Option.isSome_iff_exists
def gW:=@List.map_map
def ny:=@List.mem_of_mem_take
def lX:=@List.pairwise_map
def jS:=@Option.map_some
def fT:=@PySem.wpAny_field
def nA:=@beq_eq_false_iff_ne
def nB:=@Nat.mul_le_mul_left
def hZ:=@Nat.ne_of_gt
def pC:=@Nat.div_div_eq_div_mul
def lY:=@Nat.mod_eq_of_lt
def lZ:=@Nat.le_add_right
def l0:=@List.getElem_mem
def jg:=@List.mem_filterMap
def jh:=@Int.emod_lt_of_pos
def gf:=@Array.size_map
def kM:=@List.take_append_drop
def h9:=@Nat.div_add_mod
def h_:=@List.range_succ
def ji:=@PySem.wpAny_Call_Name_kw
def df:=@or_false
def eT:=@Nat.mul_add
def cG:=@PyProof.Rows.wpS_mono
def nC:=@Nat.lt_succ_iff_lt_or_eq
def kN:=@Array.length_toList
def jj:=@PySem.wpAny_truthy_bool
def jk:=@Option.getD_some
def fD:=@Nat.mul_one
def kO:=@decide_eq_true_iff
def nE:=@List.getElem?_set_self
def kP:=@Bool.false_eq_true
def ic:=@PySem.wpAny_seqItems
def nF:=@PySem.wpAny_callSpecial?_slot
def jl:=@List.length_set
def jm:=@List.append_nil
def jn:=@Int.emod_nonneg
def ie:=@List.any_cons
def ig:=@List.all_cons
def ii:=@Int.ofNat.inj
def nG:=@Array.getElem?_toList
def ei:=@PyProof.Rows.wpS_modify
def kQ:=@Array.toList_push
def qf:=@Array.getD_eq_getD_getElem?
def jo:=@PySem.wpAny_passesOwn
def ij:=@PySem.wpAny_holding
def ik:=@Nat.succ.inj
def kR:=@List.length_take
def qg:=@Classical.byContradiction
def uq:=@PyProof.Rows.F.plain_set_update_loop
def fE:=@PySem.wpAny_rule
def jp:=@Nat.mul_assoc
def kS:=@ne_of_beq_false
def kT:=@List.of_mem_zip
def kU:=@List.find?_cons
def kW:=@PySem.wpAny_call_entry
def il:=@List.map_id
def nI:=@PySem.Heap.get?_update_ne
def nJ:=@decide_eq_true_eq
def qh:=@PyProof.Rows.boot_list
def qi:=@Nat.lt_of_succ_lt_succ
def jq:=@Nat.le_of_lt
def qj:=@List.range_succ_eq_map
def nK:=@Int.toNat_natCast
def qk:=@Array.toList_filterMap
def nM:=@PySem.wpAny_setField_rec
def nQ:=@PySem.wpAny_pyIter_tuple
def im:=@PySem.sizeLine_eq
def ql:=@PyProof.Rows.boot_int
def nR:=@List.ext_getElem
def nU:=@List.countP_cons
def nV:=@Bool.not_eq_true
def kX:=@List.cons.inj
def jr:=@PySem.codeAny_mono
def js:=@Nat.mul_pos
def qm:=@List.mem_of_mem_drop
def qo:=@List.mem_iff_getElem
def qp:=@List.getElem?_set_ne
def qr:=@PySem.W.hideAll_get
def qt:=@List.getElem?_range
def io:=@PySem.wpAny_mono
def eU:=@Ne.symm
def kY:=@PySem.wpAny_standAt
def qu:=@PySem.W.callWith_K
def gg:=@Prod.ext
def jt:=@Nat.mod_lt
def qv:=@PySem.Heap.get?_none_of_le
def ur:=@List.drop_eq_getElem_cons
def ut:=@Array.getElem?_eq_getElem
def qw:=@List.reverse_perm
def nW:=@Nat.add_assoc
def ip:=@if_false
def uv:=@Nat.le_mul_of_pos_right
def qx:=@List.any_eq_true
def qy:=@Array.toList_map
def uw:=@List.Perm.append_right
def qz:=@PySem.wpAny_setState_of
def qA:=@PySem.wpAny_pyIter_list
def qB:=@PySem.wpAny_pyIter_enum
def qC:=@PySem.wpAny_newObj_type
def qD:=@List.forIn_cons
def qE:=@List.foldl_cons
def qF:=@List.Perm.of_eq
def eV:=@PyProof.Rows.wpS_get
def qG:=@PySem.wpAny_pyIter_zip
def nX:=@Nat.div_one
def ux:=@Nat.div_lt_of_lt_mul
def uy:=@List.replicate_succ'
def qH:=@List.nodup_nil
def uz:=@List.length_take_le'
def qI:=@List.forIn_nil
def uA:=@Array.toList_reverse
def uB:=@Array.toList_extract
def ju:=@PyProof.Rows.size_push'
def kZ:=@PySem.wpAny_call
def k4:=@PySem.wpAny_Name
def uC:=@PySem.W.plainGet_of
def y4:=@PyProof.Rows.F.entry_set_update_loop
def uD:=@List.filter_sublist
def uE:=@List.filterMap_cons
def uF:=@PySem.Heap.get?_update_other
def qJ:=@PySem.wpAny_execs_nil
def qK:=@PySem.codeAny_builtin
def qL:=@Bool.not_true
def uG:=@Nat.eq_zero_or_pos
def uH:=@Nat.add_sub_cancel
def uI:=@List.find?_eq_none
def uJ:=@PySem.Heap.get?_update_self
def uK:=@PySem.wpAny_loadName_local
def uL:=@PySem.codeAny_call_builtin
def qM:=@Nat.succ_pos
def qN:=@Nat.le_of_eq
def uM:=@List.nodup_append
def uN:=@List.ext_getElem?
def uO:=@List.any_eq_false
def uP:=@PySem.Calls.evalArgs_plain
def uQ:=@Bool.eq_false_iff
def uR:=@PySem.wpAny_loadName_free
def uS:=@Nat.succ_le_succ
def uT:=@Nat.div_eq_of_lt
def uU:=@List.zipIdx_cons
def uV:=@List.nodup_range
def uW:=@List.mem_flatMap
def qO:=@PySem.wpAny_attempt
def qP:=@Nat.one_mul
def y6:=@Int.mul_le_mul_of_nonneg_left
def y7:=@PySem.F.typeOf_object_class
def uX:=@PySem.wpAny_loadPart_at
def y8:=@PySem.F.excBase_ValueError
def y9:=@Nat.mul_lt_mul_of_pos_left
def uY:=@Nat.mul_le_mul
def y_:=@Int.fmod_eq_emod_of_nonneg
def zc:=@Int.fdiv_eq_ediv_of_nonneg
def zd:=@Array.toList_setIfInBounds
def ze:=@Array.getElem?_eq_some_iff
def jv:=@PyProof.Rows.wpS_lift
def uZ:=@PySem.wpAny_eqBool_int
def zf:=@PyProof.Rows.boot_sorted
def zg:=@List.length_erase_of_mem
def zh:=@List.getElem?_take_of_lt
def zi:=@List.filterMap_cons_some
def u3:=@Bool.and_true
namespace L2
open PySem PySem.Spec PyProof.Rows
abbrev gh:=Sum Int Str
def pD:gh->Value->Bool
 |.inl k,v=>Value.isInt k v
 |.inr x,v=>Value.isStrOf x v
def Nm(w:World):gh->Int
 |.inl k=>hashInt k
 |.inr x=>hashStr w x
theorem cf:∀ {k:gh} {v:Value},pD k v=true->(∃i t,k=Sum.inl i/\v=Value.int i t)\/(∃x t,k=Sum.inr x/\v=Value.str x t)
 |.inl i,v,h=>by
  obtain⟨t,e⟩:=Value.isInt_shape (k:=i) (v:=v) h;exact .inl ⟨i,t,rfl,e⟩
 |.inr x,v,h=>by
  obtain⟨t,e⟩:=Value.isStrOf_shape (x:=x) (v:=v) h;exact .inr ⟨x,t,rfl,e⟩
theorem xA(i:Int)(t:Tok):pD (.inl i) (.int i t)=true:=by simp[pD,Value.isInt]
theorem xB(x:Str)(t:Tok):pD (.inr x) (.str x t)=true:=by simp[pD,Value.isStrOf]
theorem Fl(a b:Int):decide ((Sum.inl a:gh)=Sum.inl b)=(a==b):=by
 by_cases e:a=b
 .subst e;simp
 .have h:¬ (Sum.inl a:gh)=Sum.inl b:=fun q=>e (Sum.inl.inj q);rw[dD h];exact(nA.mpr e).symm
theorem Fm(a b:Str):decide ((Sum.inr a:gh)=Sum.inr b)=decide (a=b):=by
 by_cases e:a=b
 .subst e;simp
 .have h:¬ (Sum.inr a:gh)=Sum.inr b:=fun q=>e (Sum.inr.inj q);rw[dD h,dD e]
theorem Fn(a:Int)(b:Str):decide ((Sum.inl a:gh)=Sum.inr b)=false:=dD (fun q=>nomatch q)
theorem Fo(a:Str)(b:Int):decide ((Sum.inr a:gh)=Sum.inl b)=false:=dD (fun q=>nomatch q)
def cH(prog:Program)(w:World):PySem.KeyKind prog w gh where
 is:=pD
 hash:=Nm w
 inj:=fun v a b ha hb=>by
  rcases cf ha with ⟨i,t,rfl,rfl⟩|⟨x,t,rfl,rfl⟩
  .rcases cf hb with ⟨j,u,rfl,e⟩|⟨y,u,rfl,e⟩
   .injection e with e1 _;rw[e1]
   .exact nomatch e
  .rcases cf hb with ⟨j,u,rfl,e⟩|⟨y,u,rfl,e⟩
   .exact nomatch e
   .injection e with e1 _;rw[e1]
 byValue:=fun k v h=>by
  rcases cf h with ⟨i,t,rfl,rfl⟩|⟨x,t,rfl,rfl⟩ <;> rfl
 pyHash:=fun hv h=>by
  rcases cf hv with ⟨i,t,rfl,rfl⟩|⟨x,t,rfl,rfl⟩
  .exact wpAny_pyHash_int h
  .exact wpAny_pyHash_str h
 eqBool:=fun hu hv h=>by
  rcases cf hu with ⟨i,t,rfl,rfl⟩|⟨x,t,rfl,rfl⟩
  .rcases cf hv with ⟨j,u,rfl,rfl⟩|⟨y,u,rfl,rfl⟩
   .rw[Fl] at h;exact uZ h
   .rw[Fn] at h;exact SeqAt.EqAt.int_str i t y u _ _ _ _ h
  .rcases cf hv with ⟨j,u,rfl,rfl⟩|⟨y,u,rfl,rfl⟩
   .rw[Fo] at h;exact SeqAt.EqAt.str_int x t j u _ _ _ _ h
   .rw[Fm] at h;exact wpAny_eqBool_str h
 «strs»:=fun k x t v h=>by
  rcases cf h with ⟨i,u,rfl,e⟩|⟨y,u,rfl,e⟩
  .exact nomatch e
  .injection e with e1 _
   subst e1
   cases v <;> rfl
theorem sf(prog:Program)(w:World)(i:Int)(t:Tok):(cH prog w).is (.inl i) (.int i t)=true:=xA i t
theorem sg(prog:Program)(w:World)(x:Str)(t:Tok):(cH prog w).is (.inr x) (.str x t)=true:=xB x t
inductive V where
 |bD|bl (b:Bool)|int (i:Int)|str (x:Str)|wa (b:Array UInt8)|Fp (b:UInt64)|ref (a:Addr)|ty (n:String)
 deriving DecidableEq
def bf:V->Value->Prop
 |.bD,u=>u=Value.none
 |.bl b,u=>u=Value.bool b
 |.int i,u=>∃t,u=Value.int i t
 |.str x,u=>∃t,u=Value.str x t
 |.wa b,u=>∃t,u=Value.bytes b t
 |.Fp b,u=>∃t,u=Value.float b t
 |.ref a,u=>u=Value.ref a
 |.ty n,u=>u=Value.type n
abbrev aZ:List V->List Value->Prop:=Paired bf
theorem aZ.length(r:aZ xs us):xs.length=us.length:=Paired.length r
theorem aZ.get:∀ {xs:List V} {us:List Value} {i:Nat} {x:V},aZ xs us->xs[i]?=some x->∃u,us[i]?=some u/\bf x u
 |_,_,_,_,.nil,e=>by simp at e
 |_,_,0,_,.cons r _,e=>by simp at e;subst e;exact⟨_,rfl,r⟩
 |_,_,i+1,x,.cons _ t,e=>by
  obtain⟨u,h1,h2⟩:=aZ.get (i:=i) (x:=x) t (by simpa using e);exact⟨u,by simpa using h1,h2⟩
theorem aZ.set(r:bf x u):∀ {xs:List V} {us:List Value} (i:Nat),aZ xs us->aZ (xs.set i x) (us.set i u)
 |_,_,_,.nil=>.nil
 |_,_,0,.cons _ t=>.cons r t
 |_,_,i+1,.cons q t=>.cons q (aZ.set r i t)
theorem aZ.append:∀ {xs ys:List V} {us ws:List Value},aZ xs us->aZ ys ws->aZ (xs++ys) (us++ws)
 |_,_,_,_,.nil,s=>s
 |_,_,_,_,.cons r t,s=>.cons r (aZ.append t s)
def jT:Option V->Option Value->Prop
 |some v,some u=>bf v u
 |none,none=>True
 |_,_=>False
def KV{κ:Type}:List (κ×V)->List (κ×Value)->Prop:=Paired fun (p:κ×V) (q:κ×Value)=>p.1=q.1/\bf p.2 q.2
def kV:gh->V
 |.inl i=>.int i
 |.inr x=>.str x
inductive HO where
 |lst (xs:List V)
 |tup (xs:List V)
 |dK (a8:List (gh×V))|dT (a8:List (List gh×V))
 |set (S:Int->Bool) (n:Nat)
 |ins (C dx:Addr) (fs:List (Str×V))
 |own (x:Addr)
 |xd (fs:List (Str×V))
 |met (f x:Addr)
 |Mq (lo hi:Int)
 |pE (o:Obj) (u:HO)
 |mO (ps:Array Value)
 |ext (φ:Heap->Prop)
abbrev Hp:=Addr->Option HO
def upd(H:Hp)(a:Addr)(o:HO):Hp:=fun b=>if b=a then some o else H b
theorem af:upd H a o a=some o:=by unfold upd;rw[ak rfl]
theorem am(h:b≠a):upd H a o b=H b:=by unfold upd;rw[ai h]
theorem mQ:upd (upd H a o) a u=upd H a u:=by
 funext b;unfold upd;split <;> rfl
theorem dF{H:Hp}{a b:Addr}{o u:HO}(h:H a=some o)(h':H b=some u)(d:o≠u):a≠b:=by
 intro e;subst e;rw[h] at h';exact d (bA h')
theorem ao{H:Hp}{a b:Addr}{o:HO}(h:H a=some o)(h':H b=none):a≠b:=by
 intro e;subst e;rw[h] at h';cases h'
section
variable (P:Program) (w:World)
def k6(h:Heap)(a:Addr)(items:Array Value):Prop:=∃o,h.get? a=some o/\o.cls=.type "tuple"/\∃n,o.data=.seq items n/\o.dict=none
theorem k6.tup(p:k6 h a items):IsTup h a items:=let ⟨o,e,c,n,d,_⟩:=p;⟨o,e,c,n,d⟩
theorem k6.new(h:Heap)(items:Array Value):k6 (h.push { cls:=.type "tuple",data:=.seq items }) h.objs.size items:=⟨_,cm _ rfl,rfl,_,rfl,rfl⟩
def bG(H:Hp)(h:Heap)(a:Addr):HO->Prop
 |.lst xs=>xs.length<=sizeLine/\∃ (its:List Value) (n:Nat),aZ xs its/\h.get? a=some { cls:=.type "list",data:=.seq its.toArray n }
 |.tup xs=>xs.length<=sizeLine/\∃its:List Value,aZ xs its/\k6 h a its.toArray
 |.dK a8=>a8.length<=sizeLine/\(a==sysModules)=false/\∃vs,KV a8 vs/\h.DictOf (cH P w) a vs
 |.dT a8=>a8.length<=sizeLine/\(a==sysModules)=false/\∃xs:List (List gh×Addr×Value),
   Paired (fun (p:List gh×V) (q:List gh×Addr×Value)=>p.1=q.1/\H q.2.1=some (.tup (p.1.map kV))/\bf p.2 q.2.2) a8 xs/\
   ∃o es ep,h.get? a=some o/\o.ExactDict/\o.data=.dict es ep/\es.toList=xs.map (entryOfKey (tupleKind (cH P w)))/\(xs.map (·.1)).Nodup
 |.set S n=>h.SetOf (intKind P w) a S n
 |.ins C dx fs=>H dx=some (.own a)/\fs.length<=1000/\dx≠a/\h.get? a=some (PySem.W.instObj C dx)/\
   ∃mA,h.Ns1 dx mA/\(∀f,jT (fs.lookup f) (mA f))/\PySem.Within mA (fs.map (·.1))
 |.own _=>∃o,h.get? a=some o
 |.xd fs=>∃mA,h.Ns1 a mA/\∀f,jT (fs.lookup f) (mA f)
 |.Mq lo hi=>∃t u v,h.get? a=some { cls:=.type "range",data:=.fields #[.int lo t,.int hi u,.int 1 v] }
 |.pE o u=>h.get? a=some o/\bG H h a u
 |.mO ps=>h.get? a=some { cls:=.none,data:=.fields ps }
 |.met f x=>h.get? a=some (PySem.W.methodObj (.ref f) (.ref x))
 |.ext φ=>φ h/\(∃o,h.get? a=some o)/\∀h1 h2:Heap,φ h1->(∀o,h1.get? a=some o->h2.get? a=some o)->φ h2
def ge(H:Hp)(h:Heap):Prop:=∀a o,H a=some o->bG P w H h a o
end
section
variable {P:Program} {w:World} {H H':Hp} {h h':Heap} {a:Addr} {o:HO}
theorem bG.lt(x:bG P w H h a o):a<h.objs.size:=by
 cases o with
 |lst xs=>obtain⟨_,_,_,_,e⟩:=x;exact aH e
 |tup xs=>obtain⟨_,_,_,p⟩:=x;exact p.tup.lt
 |dK a8=>obtain⟨_,_,_,_,o,_,_,e,_⟩:=x;exact aH e
 |dT a8=>obtain⟨_,_,_,_,o,_,_,e,_⟩:=x;exact aH e
 |set S n=>obtain⟨o,_,_,_,e,_⟩:=x;exact aH e
 |ins C dx fs=>obtain⟨_,_,_,e,_⟩:=x;exact aH e
 |own y=>obtain⟨_,e⟩:=x;exact aH e
 |xd fs=>obtain⟨_,⟨_,_,_,e,_⟩,_⟩:=x;exact aH e
 |Mq lo hi=>obtain⟨_,_,_,e⟩:=x;exact aH e
 |pE ob u=>obtain⟨e,_⟩:=x;exact aH e
 |mO ps=>exact aH (show h.get? a=some _ from x)
 |met f y=>exact aH (show h.get? a=some _ from x)
 |ext φ=>obtain⟨_,⟨_,e⟩,_⟩:=x;exact aH e
theorem Paired.Fq:∀ {l₁:List α} {l₂:List β},Paired F l₁ l₂->(∀a b,F a b->G a b)->Paired G l₁ l₂
 |_,_,.nil,_=>.nil
 |_,_,.cons r t,f=>.cons (f _ _ r) (Paired.Fq t f)
theorem bG.jU(x:bG P w H h a o)(k:∀b u,(b=a\/H b=some (.own a))->h.get? b=some u->h'.get? b=some u)(ho:∀b,H b=some (.own a)->H' b=some (.own a))(ht:∀b xs,H b=some (.tup xs)->H' b=some (.tup xs)):bG P w H' h' a o:=by
 induction o with
 |lst xs=>obtain⟨z,its,n,r,e⟩:=x;exact⟨z,its,n,r,k _ _ (.inl rfl) e⟩
 |tup xs=>obtain⟨z,its,r,ob,e,c⟩:=x;exact⟨z,its,r,ob,k _ _ (.inl rfl) e,c⟩
 |dK a8=>obtain⟨z,y,vs,r,ob,es,ep,e,c⟩:=x;exact⟨z,y,vs,r,ob,es,ep,k _ _ (.inl rfl) e,c⟩
 |dT a8=>
  obtain⟨z,y,xs,r,ob,es,ep,e,c⟩:=x;exact⟨z,y,xs,Paired.Fq r fun p q z=>⟨z.1,ht _ _ z.2.1,z.2.2⟩,ob,es,ep,k _ _ (.inl rfl) e,c⟩
 |set S n=>obtain⟨ob,es,ep,t,e,c⟩:=x;exact⟨ob,es,ep,t,k _ _ (.inl rfl) e,c⟩
 |ins C dx fs=>
  obtain⟨d,z,ne,e,mA,⟨od,es,ep,e2,c⟩,r⟩:=x;exact⟨ho _ d,z,ne,k _ _ (.inl rfl) e,mA,⟨od,es,ep,k _ _ (.inr d) e2,c⟩,r⟩
 |own y=>obtain⟨ob,e⟩:=x;exact⟨ob,k _ _ (.inl rfl) e⟩
 |xd fs=>obtain⟨mA,⟨od,es,ep,e,c⟩,r⟩:=x;exact⟨mA,⟨od,es,ep,k _ _ (.inl rfl) e,c⟩,r⟩
 |Mq lo hi=>obtain⟨t,u,v,e⟩:=x;exact⟨t,u,v,k _ _ (.inl rfl) e⟩
 |pE ob u ih=>obtain⟨e,q⟩:=x;exact⟨k _ _ (.inl rfl) e,ih q⟩
 |mO ps=>
  have e:h.get? a=some { cls:=.none,data:=.fields ps }:=x;show h'.get? a=some { cls:=.none,data:=.fields ps };exact k a _ (.inl rfl) e
 |met f y=>
  have e:h.get? a=some (PySem.W.methodObj (.ref f) (.ref y)):=x;show h'.get? a=some (PySem.W.methodObj (.ref f) (.ref y));exact k a _ (.inl rfl) e
 |ext φ=>obtain⟨p,⟨o,e⟩,st⟩:=x;exact⟨st _ _ p fun o q=>k _ _ (.inl rfl) q,⟨o,k _ _ (.inl rfl) e⟩,st⟩
theorem ge.lt(x:ge P w H h)(e:H a=some o):a<h.objs.size:=(x a o e).lt
theorem ge.fresh(x:ge P w H h)(e:h.objs.size<=a):H a=none:=by
 cases q:H a with
 |none=>rfl
 |some u=>exact absurd (bX (x.lt q) e) (eQ _)
theorem ge.kept(x:ge P w H h)(k:∀b u,h.get? b=some u->h'.get? b=some u):ge P w H h':=fun a o e=>
 (x a o e).jU (fun b u _ q=>k b u q) (fun _ q=>q) fun _ _ q=>q
theorem ge.laid(x:ge P w H h)(k:∀b u,h.get? b=some u->h'.get? b=some u)(hp:h.objs.size<=a)(new:bG P w (upd H a o) h' a o):ge P w (upd H a o) h':=fun b u e=>by
 have hn:=x.fresh hp;by_cases hb:b=a
 .subst hb;rw[af] at e;cases e;exact new
 .rw[am hb] at e;exact(x b u e).jU (fun c v _ q=>k c v q) (fun c q=>by rw[am (ao q hn)];exact q) fun c xs q=>by rw[am (ao q hn)];exact q
end
def Rd(H:Hp)(a:Addr)(u:HO):Prop:=H a=some u\/∃o,H a=some (.pE o u)
theorem Rd.ok(r:Rd H a u)(x:ge P w H h):bG P w H h a u:=by
 rcases r with r|⟨o,r⟩
 .exact x a u r
 .obtain⟨_,q⟩:=x a _ r;exact q
def I0:Option HO->Prop
 |some (.lst _)=>True
 |some (.dK _)=>True
 |some (.dT _)=>True
 |some (.set _ _)=>True
 |some (.ins _ _ _)=>True
 |some (.ext _)=>True
 |_=>False
section
variable {P:Program} {w:World} {H:Hp} {h h':Heap} {x e:Addr} {o':HO}
theorem ge.write(ok:ge P w H h)(mu:I0 (H x))(he:e=x\/H e=some (.own x))(k:∀b u,b≠e->h.get? b=some u->h'.get? b=some u)(Iq:∃u,h'.get? e=some u)(new:bG P w (upd H x o') h' x o'):ge P w (upd H x o') h':=fun b u q=>by
 have I_:∀c y,H c=some (.own y)->c≠x:=fun c y r z=>by subst z;rw[r] at mu;exact mu
 have Nn:∀c xs,H c=some (.tup xs)->c≠x:=fun c xs r z=>by subst z;rw[r] at mu;exact mu
 by_cases hb:b=x
 .subst hb;rw[af] at q;cases q;exact new
 .rw[am hb] at q;by_cases BQ:b=e
  .have q':H b=some (.own x):=by
    rcases he with z|z
    .exact absurd (BQ.trans z) hb
    .rw[BQ];exact z
   rw[q] at q';cases q';obtain⟨v,hv⟩:=Iq;exact⟨v,by rw[BQ];exact hv⟩
  .refine(ok b u q).jU (fun c v hc r=>k c v ?_ r) (fun c r=>by rw[am (I_ c b r)];exact r) fun c xs r=>by rw[am (Nn c xs r)];exact r
   rcases hc with rfl|hc
   .exact BQ
   .rintro rfl;rcases he with z|z
    .exact I_ c b hc z
    .rw[hc] at z;cases z;exact hb rfl
end
structure Un(fs ex:List Addr)(H H':Hp)(h h':Heap):Prop where
 keep:∀b o,h.get? b=some o->H b=none->b∉fs->b∉ex->h'.get? b=some o
 slot:∀b o,h.get? b=some o->H b=none->b∈fs->b∉ex->∃sl,h'.get? b=some { o with slots:=sl }
 free:∀b o,h.get? b=some o->H b=none->b∉ex->H' b=none
 there:∀b o,h.get? b=some o->b∉ex->∃o',h'.get? b=some o'
 gj:∀b xs,H b=some (.tup xs)->H' b=some (.tup xs)
 iq:∀b o u,H b=some (.pE o u)->H' b=some (.pE o u)
 ir:∀b ps,H b=some (.mO ps)->∃more,H' b=some (.mO (ps++more))
section
variable {fs TV ex WU:List Addr} {H H1 H2:Hp} {h h1 h2 h':Heap} {a x e:Addr} {o:HO}
theorem Un.any(u:Un fs ex H H1 h h1)(q:h.get? b=some ob)(n:H b=none)(hx:b∉ex):∃sl,h1.get? b=some { ob with slots:=sl }:=by
 by_cases hb:b∈fs
 .exact u.slot b ob q n hb hx
 .exact⟨ob.slots,u.keep b ob q n hb hx⟩
theorem Un.kept(k:∀b u,h.get? b=some u->h'.get? b=some u):Un fs ex H H h h':=
 ⟨fun b ob q _ _ _=>k b ob q,fun b ob q _ _ _=>⟨ob.slots,k b ob q⟩,fun _ _ _ n _=>n,fun b ob q _=>⟨ob,k b ob q⟩,fun _ _ q=>q,fun _ _ _ q=>q,fun _ ps q=>⟨#[],by rw[q];simp⟩⟩
theorem Un.refl:Un fs ex H H h h:=Un.kept fun _ _ q=>q
theorem Un.laid(k:∀b u,h.get? b=some u->h'.get? b=some u)(hp:h.objs.size<=a)(hn:H a=none):Un fs ex H (upd H a o) h h' where
 keep:=fun b u q _ _ _=>k b u q
 slot:=fun b u q _ _ _=>⟨u.slots,k b u q⟩
 free:=fun b u q n _=>by rw[am (aU (bX (aH q) hp))];exact n
 there:=fun b u q _=>⟨u,k b u q⟩
 gj:=fun b xs q=>by rw[am (ao q hn)];exact q
 iq:=fun b u xs q=>by rw[am (ao q hn)];exact q
 ir:=fun b ps q=>⟨#[],by rw[am (ao q hn),q];simp⟩
theorem Un.write(mu:I0 (H x))(he:e=x\/H e=some (.own x))(k:∀b u,b≠e->h.get? b=some u->h'.get? b=some u)(Iq:∃u,h'.get? e=some u):Un fs ex H (upd H x o) h h':=by
 have hx:∀b,H b=none->b≠x:=fun b n z=>by subst z;rw[n] at mu;exact mu
 have hb:∀b,H b=none->b≠e:=fun b n z=>by
  subst z;rcases he with r|r
  .exact hx b n r
  .rw[n] at r;cases r
 have hm:∀b u,H b=some u->¬ I0 (some u)->b≠x:=fun b u q nm z=>by subst z;rw[q] at mu;exact nm mu
 refine⟨fun b u q n _ _=>k b u (hb b n) q,fun b u q n _ _=>⟨u.slots,k b u (hb b n) q⟩,fun b u q n _=>by rw[am (hx b n)];exact n,fun b u q _=>?_,
  fun b xs q=>by rw[am (hm b _ q fun z=>z)];exact q,fun b u xs q=>by rw[am (hm b _ q fun z=>z)];exact q,fun b ps q=>⟨#[],by rw[am (hm b _ q fun z=>z),q];simp⟩⟩
 by_cases BQ:b=e
 .subst BQ;exact Iq
 .exact⟨u,k b u BQ q⟩
end
def Mr(h:Heap)(H:Hp):List Addr:=(List.range h.objs.size).filter fun a=>(H a).isSome
def o3(h:Heap)(H:Hp):Heap:=PySem.W.hideAll h (Mr h H)
theorem xC(h:Heap)(H:Hp):(o3 h H).objs.size=h.objs.size:=PySem.W.hideAll_size _ _
theorem zj(e:h.get? b=some o)(n:H b=none):(o3 h H).get? b=some o:=
 qr _ e fun hm=>by
  have q:(H b).isSome=true:=(d8.mp hm).2;rw[n] at q;simp at q
theorem B7(e:(o3 h H).get? b=some o):h.get? b=some o/\H b=none:=by
 have e':h.get? b=some o:=PySem.W.of_hideAll (Mr h H) e;refine⟨e',?_⟩;cases q:H b with
 |none=>rfl
 |some x=>
  have hm:b∈Mr h H:=d8.mpr ⟨cD.mpr (aH e'),by simp[q]⟩;have z:(o3 h H).get? b=none:=PySem.W.hideAll_none (Mr h H) hm;rw[z] at e;cases e
def gk(g h:Heap)(L:Addr):List (Addr×Obj):=(List.range h.objs.size).filterMap fun a=>if a=L\/(g.get? a).isSome=true then none else (h.get? a).map fun o=>(a,o)
theorem iu(h1:a≠L)(h2:g.get? a=none)(h3:h.get? a=some o):(a,o)∈gk g h L:=
 jg.mpr ⟨a,cD.mpr (aH h3),by simp[h1,h2,h3]⟩
theorem nY(hp:p∈gk g h L):p.1≠L/\g.get? p.1=none/\h.get? p.1=some p.2:=by
 obtain⟨b,_,e⟩:=jg.mp hp;split at e
 .cases e
 .rename_i hn;cases q:h.get? b with
  |none=>rw[q] at e;simp at e
  |some u=>
   rw[q] at e;simp only[jS,Option.some.injEq] at e;subst e;refine⟨fun z=>hn (.inl z),?_,q⟩;show g.get? b=none;cases r:g.get? b with
   |none=>rfl
   |some v=>exact(hn (.inr (by simp[r]))).elim
theorem zk:News g L h (gk g h L):=fun p hp=>let ⟨a,b,c⟩:=nY hp;⟨c,a,b⟩
structure Mod(K:PySem.W.Frag)(mg:Str->Option Value)(base:Heap):Prop where
 Fs:K.In base
 glob:base.Ns mainGlobals mg
 blt:∃mb,base.Ns builtinsNs mb/\∀x:Str,x≠"__name__"->mb x=bootBuiltins x
 nolimit:base.NoLimit
structure Cx where
 prog:Program
 w:World
 K:PySem.W.Frag
 mg:Str->Option Value
 base:Heap
 A:Around
 N:List Str
 s₀:Shared
 H₀:Hp
 env:Env
 outer:List Env
 stack:List Env
 ex:List Addr
 fn:Str->Bool
 calm:Bool
 pn:List (Addr×Obj)
 xe:Value->Shared->Prop
def kG(l:List Env):List Addr:=l.filterMap (·.frame)
abbrev Cx.fs(X:Cx):List Addr:=kG X.outer
def Ja(sc:Scope)(x:Str):Prop:=sc.names.lookup x=some .local\/sc.names.lookup x=some .cell\/sc.names.lookup x=some .free
def Jb(sc:Scope)(x:Str):Prop:=sc.names.lookup x=some .local\/sc.names.lookup x=some .cell
def No(env:Env)(h:Heap)(m:Str->Option Value)(x:Str)(u:Value):Prop:=
 (env.kindOf x=some .local/\m x=some u)\/((env.kindOf x=some .cell\/env.kindOf x=some .free)/\∃c,env.cells.lookup x=some c/\h.IsCell c (some u))
structure Cx.Ok(X:Cx):Prop where
 mod:Mod X.K X.mg X.base
 kind:X.env.scope.kind=.function
 glob:X.env.globals=mainGlobals
 blt:X.env.builtins=builtinsNs
 above:X.s₀.heap.objs.size<=X.env.locals
 inj:∀x y c,X.env.cells.lookup x=some c->X.env.cells.lookup y=some c->x=y
 has:∀x,(X.env.kindOf x=some .cell\/X.env.kindOf x=some .free)->∃c,X.env.cells.lookup x=some c
 Ir:∀x c,X.fn x=true->X.env.cells.lookup x=some c->X.s₀.heap.objs.size<=c
 hd:X.calm=true->X.A.handled=none
 frames:X.A.frames=some X.stack
 BR:X.stack=X.outer\/(X.stack=X.env::X.outer/\X.env.frame=some X.env.locals)
 Np:∀b∈X.ex,b≠X.env.locals/\∀x c,X.env.cells.lookup x=some c->c≠b
 bs:∀b o,X.base.get? b=some o->X.s₀.heap.get? b=some o/\X.H₀ b=none
 yV:X.base.objs.size<=X.s₀.heap.objs.size
 nZ:∀b o,X.base.get? b=some o->b∉X.ex
 B8:∀b∈X.ex,b∉X.fs
 jw:X.s₀.heap.FunFrames X.base X.outer
 B9:∀b∈X.fs,X.H₀ b=none
structure aD(X:Cx)(ae:List (Addr×Obj))(σ:List (Option V))(H:Hp)(s:Shared):Prop where
 ok:X.Ok
 os:s.os=X.s₀.os
 bare:AllBare s.gens
 base:Un X.fs X.ex X.H₀ H X.s₀.heap s.heap
 loc:∃m,s.heap.Ns X.env.locals m/\∀ (i:Nat) (x:Str) (v:V),X.N[i]?=some x->σ[i]?=some (some v)->Ja X.env.scope x->∃u,bf v u/\No X.env s.heap m x u
 cell:∀x c,X.env.cells.lookup x=some c->∃v,s.heap.IsCell c v
 free:H X.env.locals=none
 iw:∀x c,X.env.cells.lookup x=some c->H c=none
 pin:∀p∈X.pn++ae,s.heap.get? p.1=some p.2/\H p.1=none/\p.1≠X.env.locals/\p.1∉X.fs/\∀v,p.2.data≠.cell v
 bp:ge X.prog X.w H s.heap
 len:σ.length=X.N.length
section
variable {X:Cx} {ae:List (Addr×Obj)} {σ:List (Option V)} {H H':Hp} {s:Shared} {h':Heap}
theorem Cx.Ok.Nq(ok:X.Ok)(e:X.base.get? b=some o):b∉X.fs:=fun hb=>by
 have:=(ok.jw.mem hb).1;rw[e] at this;cases this
theorem aD.bs(I:aD X ae σ H s):∀b o,X.base.get? b=some o->s.heap.get? b=some o/\H b=none:=fun b o e=>
 ⟨I.base.keep b o (I.ok.bs b o e).1 (I.ok.bs b o e).2 (I.ok.Nq e) (I.ok.nZ b o e),I.base.free b o (I.ok.bs b o e).1 (I.ok.bs b o e).2 (I.ok.nZ b o e)⟩
theorem aD.bk(I:aD X ae σ H s):∀b o,X.base.get? b=some o->s.heap.get? b=some o:=fun b o e=>(I.bs b o e).1
theorem aD.mod(I:aD X ae σ H s):Mod X.K X.mg X.base:=I.ok.mod
theorem aD.k7(I:aD X ae σ H s):X.K.In s.heap:=I.ok.mod.Fs.keeps I.bk
theorem aD.nolimit(I:aD X ae σ H s):s.heap.NoLimit:=I.ok.mod.nolimit.keeps I.bk
theorem aD.fr(I:aD X ae σ H s):∃m,Fr X.base X.env.locals s.heap m:=
 let ⟨m,hn,_⟩:=I.loc
 ⟨m,hn,I.bk,bn I.ok.yV I.ok.above⟩
theorem aD.lt(I:aD X ae σ H s):X.env.locals<s.heap.objs.size:=let ⟨_,hn,_⟩:=I.loc;hn.lt
theorem aD.sz(I:aD X ae σ H s):X.s₀.heap.objs.size<=s.heap.objs.size:=bn I.ok.above (jq I.lt)
theorem aD.Nr(I:aD X ae σ H s)(h:s.heap.objs.size<=a):a∉X.fs:=fun hb=>by
 obtain⟨_,o,ho,_⟩:=I.ok.jw.mem hb;exact absurd (bX (aH ho) (bn I.sz h)) (eQ _)
theorem aD.Eo(I:aD X ae σ H s):∀x c,X.env.cells.lookup x=some c->c≠X.env.locals:=fun x c e z=>by
 obtain⟨v,o,ho,hd⟩:=I.cell x c e;obtain⟨m,⟨o',es,ep,si,Ft,_⟩,_⟩:=I.loc;rw[z,si] at ho;cases ho;rw[Ft] at hd;cases hd
theorem aD.jw(I:aD X ae σ H s):s.heap.FunFrames X.base X.outer:=by
 have all:∀ (l:List Env),(∀b∈kG l,b∈X.fs)->X.s₀.heap.FunFrames X.base l->s.heap.FunFrames X.base l:=by
  intro l;induction l with
  |nil=>intro _ _;trivial
  |cons env r ih=>
   intro hs hl;obtain⟨hk,⟨L,o,hf,hn,ho,hd⟩,hr⟩:=hl;have hL:L∈X.fs:=hs L (by unfold kG;rw[uE,hf];exact b_);obtain⟨sl,e⟩:=I.base.slot L o ho (I.ok.B9 L hL) hL fun z=>I.ok.B8 L z hL;exact⟨hk,⟨L,_,hf,hn,e,hd⟩,ih (fun b hb=>hs b (by unfold kG;rw[uE,hf];exact bV _ hb)) hr⟩
 exact all X.outer (fun _ hb=>hb) I.ok.jw
theorem aD.stack(I:aD X ae σ H s):s.heap.FunFrames X.base X.stack:=by
 rcases I.ok.BR with e|⟨e,hf⟩
 .rw[e];exact I.jw
 .rw[e];obtain⟨m,hn,_⟩:=I.loc;refine .cons (by rw[I.ok.kind];decide) hf hn ?_ I.jw;exact qv (bn I.ok.yV I.ok.above)
theorem aD.n0(I:aD X ae σ H s):∀b∈kG X.stack,b∈X.env.locals::X.fs:=fun b hb=>by
 rcases I.ok.BR with e|⟨e,hf⟩
 .rw[e] at hb;exact bV _ hb
 .rw[e] at hb;unfold kG at hb;rw[uE,hf] at hb;exact hb
theorem aD.jV(I:aD X ae σ H s):∀b∈kG X.stack,H b=none:=fun b hb=>by
 rcases aS.mp (I.n0 b hb) with e|hb
 .rw[e];exact I.free
 .obtain⟨_,o,ho,_⟩:=I.ok.jw.mem hb;exact I.base.free b o ho (I.ok.B9 b hb) fun z=>I.ok.B8 b z hb
theorem aD.step{g':Array GenState}{t':Nat}{d':Drawn}{ch:List Addr}(I:aD X ae σ H s)(BS:∀b∈ch,(b∈X.ex\/X.s₀.heap.objs.size<=b)/\b≠X.env.locals/\(∀x c,X.env.cells.lookup x=some c->c≠b)/\∀p∈X.pn++ae,p.1≠b)(keep:∀b o,b≠X.env.locals->b∉X.fs->b∉ch->s.heap.get? b=some o->H b=none->h'.get? b=some o)(slot:∀b o,b≠X.env.locals->b∈X.fs->b∉ch->s.heap.get? b=some o->H b=none->∃sl,h'.get? b=some { o with slots:=sl })(free:∀b o,b∉ch->s.heap.get? b=some o->H b=none->H' b=none)(there:∀b o,b∉ch->s.heap.get? b=some o->∃o',h'.get? b=some o')(gj:∀b xs,H b=some (.tup xs)->H' b=some (.tup xs))(iq:∀b o u,H b=some (.pE o u)->H' b=some (.pE o u))(ir:∀b ps,H b=some (.mO ps)->∃more,H' b=some (.mO (ps++more)))(ns:∀m,s.heap.Ns X.env.locals m->h'.Ns X.env.locals m)(bp:ge X.prog X.w H' h')(hg:AllBare g'):
  aD X ae σ H' { s with heap:=h',gens:=g',drawn:=d',toks:=t' }:=by
 have Ms:∀b o,X.s₀.heap.get? b=some o->b≠X.env.locals:=fun b o e=>aU (bX (aH e) I.ok.above);have Mt:∀b o,X.s₀.heap.get? b=some o->b∉X.ex->b∉ch:=fun b o e hx hb=>by
  rcases(BS b hb).1 with z|z
  .exact hx z
  .exact absurd (bX (aH e) z) (eQ _)
 have Ep:∀x c,X.env.cells.lookup x=some c->∀v,s.heap.IsCell c v->h'.IsCell c v:=fun x c e v ⟨o,ho,hd⟩=>by
  have Jc:c∉ch:=fun z=>(BS c z).2.2.1 x c e rfl;by_cases hc:c∈X.fs
  .obtain⟨sl,q⟩:=slot c o (I.Eo x c e) hc Jc ho (I.iw x c e);exact⟨_,q,hd⟩
  .exact⟨o,keep c o (I.Eo x c e) hc Jc ho (I.iw x c e),hd⟩
 refine⟨I.ok,I.os,hg,⟨fun b o e n hb hx=>?_,fun b o e n hb hx=>?_,fun b o e n hx=>?_,fun b o e hx=>?_,fun b xs e=>gj b xs (I.base.gj b xs e),fun b o xs e=>iq b o xs (I.base.iq b o xs e),fun b ps e=>?_⟩,?_,fun x c e=>?_,?_,fun x c e=>?_,fun p hp=>?_,bp,I.len⟩
 .exact keep b o (Ms b o e) hb (Mt b o e hx) (I.base.keep b o e n hb hx) (I.base.free b o e n hx)
 .obtain⟨sl,e1⟩:=I.base.slot b o e n hb hx;obtain⟨Nt,e2⟩:=slot b _ (Ms b o e) hb (Mt b o e hx) e1 (I.base.free b o e n hx);exact⟨Nt,e2⟩
 .obtain⟨o',e1⟩:=I.base.there b o e hx;exact free b o' (Mt b o e hx) e1 (I.base.free b o e n hx)
 .obtain⟨o',e1⟩:=I.base.there b o e hx;exact there b o' (Mt b o e hx) e1
 .obtain⟨m1,e1⟩:=I.base.ir b ps e;obtain⟨m2,e2⟩:=ir b _ e1;exact⟨m1++m2,by rw[e2,Array.append_assoc]⟩
 .obtain⟨m,hn,hl⟩:=I.loc;refine⟨m,ns m hn,fun i x v e1 e2 e3=>?_⟩;obtain⟨u,r,l⟩:=hl i x v e1 e2 e3;refine⟨u,r,?_⟩;rcases l with l|⟨k,c,e,z⟩
  .exact .inl l
  .exact .inr ⟨k,c,e,Ep x c e _ z⟩
 .obtain⟨v,z⟩:=I.cell x c e;exact⟨v,Ep x c e v z⟩
 .obtain⟨m,⟨o,_,_,ho,_⟩,_⟩:=I.loc;exact free _ o (fun z=>(BS _ z).2.1 rfl) ho I.free
 .obtain⟨v,o,ho,hd⟩:=I.cell x c e;exact free c o (fun z=>(BS c z).2.2.1 x c e rfl) ho (I.iw x c e)
 .obtain⟨e,n,ne,nf,d⟩:=I.pin p hp;have Jc:p.1∉ch:=fun z=>(BS p.1 z).2.2.2 p hp rfl;exact⟨keep p.1 p.2 ne nf Jc e n,free p.1 p.2 Jc e n,ne,nf,d⟩
theorem aD.un{t':Nat}(I:aD X ae σ H s)(u:Un X.fs [] H H' s.heap h')(bp:ge X.prog X.w H' h'):aD X ae σ H' { s with heap:=h',toks:=t' }:=by
 obtain⟨m,⟨o,es,ep,ho,r⟩,_⟩:=id I.loc;obtain⟨sl,hL⟩:=u.any ho I.free (by simp);exact I.step (g':=s.gens) (d':=s.drawn) (ch:=[]) (fun _ z=>nomatch z) (fun b o _ hb _ e n=>u.keep b o e n hb (by simp)) (fun b o _ hb _ e n=>u.slot b o e n hb (by simp)) (fun b o _ e n=>u.free b o e n (by simp)) (fun b o _ e=>u.there b o e (by simp)) u.gj u.iq u.ir (fun m' hm=>by
  obtain⟨o',uh,Mu,si,r'⟩:=hm;rw[ho] at si;cases si;exact⟨_,uh,Mu,hL,r'⟩) bp I.bare
theorem aD.call{g':Array GenState}{t':Nat}{d':Drawn}{ch:List Addr}(I:aD X ae σ H s)(u:Un (kG X.stack) ch H H' s.heap h')(bp:ge X.prog X.w H' h')(hg:AllBare g')(BS:∀b∈ch,(b∈X.ex\/X.s₀.heap.objs.size<=b)/\b≠X.env.locals/\(∀x c,X.env.cells.lookup x=some c->c≠b)/\∀p∈X.pn++ae,p.1≠b):
  aD X ae σ H' { s with heap:=h',gens:=g',drawn:=d',toks:=t' }:=by
 obtain⟨m,⟨o,es,ep,ho,r⟩,_⟩:=id I.loc;obtain⟨sl,hL⟩:=u.any ho I.free fun z=>(BS _ z).2.1 rfl;exact I.step (ch:=ch) BS (fun b o hL hb hc e n=>u.keep b o e n (fun z=>(aS.mp (I.n0 b z)).elim hL hb) hc) (fun b o _ _ hc e n=>u.any e n hc) (fun b o hc e n=>u.free b o e n hc) (fun b o hc e=>u.there b o e hc) u.gj u.iq u.ir (fun m' hm=>by
  obtain⟨o',uh,Mu,si,r'⟩:=hm;rw[ho] at si;cases si;exact⟨_,uh,Mu,hL,r'⟩) bp hg
theorem aD.turned{t':Nat}{it:Addr}(I:aD X ae σ H s)(k:∀b o,b≠it->s.heap.get? b=some o->h'.get? b=some o)(hn:H it=none)(hL:it≠X.env.locals)(h1:it∈X.ex\/X.s₀.heap.objs.size<=it)(h2:∀x c,X.env.cells.lookup x=some c->c≠it)(h3:∀p∈X.pn++ae,p.1≠it):aD X ae σ H { s with heap:=h',toks:=t' }:=by
 have Es:∀b u,H b=some u->b≠it:=fun b u e z=>by rw[z,hn] at e;cases e
 refine I.step (g':=s.gens) (d':=s.drawn) (ch:=[it]) (fun b hb=>?_) (fun b o _ _ hc e _=>k b o (fun z=>hc (by simp[z])) e) (fun b o _ _ hc e _=>⟨o.slots,k b o (fun z=>hc (by simp[z])) e⟩) (fun _ _ _ _ n=>n)
  (fun b o hc e=>⟨o,k b o (fun z=>hc (by simp[z])) e⟩) (fun _ _ e=>e) (fun _ _ _ e=>e) (fun b ps e=>⟨#[],by rw[e];simp⟩) (fun m hm=>?_) (fun b u e=>?_) I.bare
 .have e:b=it:=by simpa using hb
  subst e;exact⟨h1,hL,h2,h3⟩
 .obtain⟨o,es,ep,ho,r⟩:=hm;exact⟨o,es,ep,k _ o (eU hL) ho,r⟩
 .refine(I.bp b u e).jU (fun c v hc q=>k c v ?_ q) (fun _ q=>q) fun _ _ q=>q;rcases hc with z|z
  .rw[z];exact Es b u e
  .exact Es c _ z
theorem aD.tok(I:aD X ae σ H s)(t:Nat):aD X ae σ H { s with toks:=t }:=I.un (h':=s.heap) (t':=t) Un.refl I.bp
theorem aD.kept(I:aD X ae σ H s)(k:∀b u,s.heap.get? b=some u->h'.get? b=some u):aD X ae σ H { s with heap:=h',toks:=t' }:=I.un (Un.kept k) (I.bp.kept k)
theorem aD.laid(I:aD X ae σ H s)(k:∀b u,s.heap.get? b=some u->h'.get? b=some u)(hp:s.heap.objs.size<=a)(new:bG X.prog X.w (upd H a o) h' a o):
  aD X ae σ (upd H a o) { s with heap:=h',toks:=t' }:=I.un (Un.laid k hp (I.bp.fresh hp)) (I.bp.laid k hp new)
theorem aD.write(I:aD X ae σ H s)(mu:I0 (H x))(he:e=x\/H e=some (.own x))(k:∀b u,b≠e->s.heap.get? b=some u->h'.get? b=some u)(Iq:∃u,h'.get? e=some u)(new:bG X.prog X.w (upd H x o) h' x o):aD X ae σ (upd H x o) { s with heap:=h',toks:=t' }:=I.un (Un.write mu he k Iq) (I.bp.write mu he k Iq new)
theorem aD.wb(I:aD X ae σ H s)(h:∀p∈Jd,s.heap.get? p.1=some p.2/\H p.1=none/\p.1≠X.env.locals/\p.1∉X.fs/\∀v,p.2.data≠.cell v):aD X Jd σ H s:=
 ⟨I.ok,I.os,I.bare,I.base,I.loc,I.cell,I.free,I.iw,fun p hp=>(dk.mp hp).elim (fun z=>I.pin p (jP _ z)) (h p),I.bp,I.len⟩
theorem sj{N:List Str}(hN:N.Nodup){i j:Nat}{x:Str}(a:N[i]?=some x)(b:N[j]?=some x):i=j:=by
 obtain⟨h1,e1⟩:=di.mp a;obtain⟨h2,e2⟩:=di.mp b;exact(List.getElem_inj hN).mp (e1.trans e2.symm)
theorem pF{M:Model}{A:Around}{E:Value->Shared->Prop}{i:Nat}{x:Str}{v:V}{u:Value}{Q:Unit->Shared->Prop}(I:aD X ae σ H s)(hN:X.N.Nodup)(hi:X.N[i]?=some x)(hx:Jb X.env.scope x)(r:bf v u)(h:∀s',aD X ae (σ.set i (some v)) H s'->(∃a,Heap.SameBut a s.heap s'.heap/\(a=X.env.locals\/X.env.cells.lookup x=some a))->Q () s')(hf:X.fn x=true\/X.env.scope.names.lookup x=some .local:=by first|exact .inl rfl|exact .inr rfl|assumption):wpAny M A (storeName X.env x u) Q E s:=by
 obtain⟨m,hn,hl⟩:=id I.loc;have Nu:(X.env.scope.kind==.class||(X.env.scope.kind==.module&&X.env.locals != X.env.globals))=false:=by rw[I.ok.kind];rfl
 have hiσ:i<σ.length:=by rw[I.len];exact(di.mp hi).1
 have Eo:=I.Eo;have wc:∀ {a:Addr} {h':Heap},(∃o,s.heap.get? a=some o/\H a=none)->Heap.SameBut a s.heap h'->ge X.prog X.w H h':=fun {a h'} ha hs b ob e=>by
  obtain⟨_,_,Et⟩:=ha;refine(I.bp b ob e).jU (fun c w' hc q=>(hs.2 c ?_).trans q) (fun _ q=>q) fun _ _ q=>q;rintro rfl;rcases hc with rfl|hc
  .rw[Et] at e;cases e
  .rw[Et] at hc;cases hc
 rcases hx with hk|hk
 .refine wpAny_storeName_local hk hn (fun h' Mv hs=>?_) Nu;obtain⟨oL,_,_,Eu,_⟩:=id hn;refine h _ ⟨I.ok,I.os,I.bare,⟨fun b o e n hb hx=>?_,fun b o e n hb hx=>?_,I.base.free,fun b o e hx=>?_,I.base.gj,I.base.iq,I.base.ir⟩,⟨_,Mv,fun j y v' e1 e2 e3=>?_⟩,fun y c e=>?_,I.free,I.iw,fun p hp=>?_,wc ⟨oL,Eu,I.free⟩ hs,by simpa using I.len⟩ ⟨_,hs,.inl rfl⟩
  .exact(hs.2 b (aU (bX (aH e) I.ok.above))).trans (I.base.keep b o e n hb hx)
  .obtain⟨sl,e1⟩:=I.base.slot b o e n hb hx;exact⟨sl,(hs.2 b (aU (bX (aH e) I.ok.above))).trans e1⟩
  .obtain⟨o',e1⟩:=I.base.there b o e hx;exact⟨o',(hs.2 b (aU (bX (aH e) I.ok.above))).trans e1⟩
  .by_cases hj:j=i
   .subst hj;rw[hi] at e1;cases e1;rw[nE hiσ] at e2;cases e2;exact⟨u,r,.inl ⟨hk,by simp⟩⟩
   .rw[qp (eU hj)] at e2;obtain⟨u',r',q⟩:=hl j y v' e1 e2 e3;refine⟨u',r',?_⟩;rcases q with ⟨k,e⟩|⟨k,c,e,z⟩
    .refine .inl ⟨k,?_⟩;have:y≠x:=fun e=>hj (sj hN e1 (e ▸ hi));simp[this,e]
    .exact .inr ⟨k,c,e,z.sameBut hs (Eo y c e)⟩
  .obtain⟨w',z⟩:=I.cell y c e;exact⟨w',z.sameBut hs (Eo y c e)⟩
  .obtain⟨e,n,ne,nf,d⟩:=I.pin p hp;exact⟨(hs.2 p.1 ne).trans e,n,ne,nf,d⟩
 .have Je:X.fn x=true:=by
   rcases hf with z|z
   .exact z
   .rw[z] at hk;cases hk
  obtain⟨c,hc⟩:=I.ok.has x (.inl hk);obtain⟨w',z⟩:=I.cell x c hc;refine wpAny_storeName_cell I.ok.kind hk hc z (fun h' B_ hs=>?_);obtain⟨oc,Mw,Nv⟩:=id z;refine h { s with heap:=h' } ⟨I.ok,I.os,I.bare,⟨fun b o e n hb hx=>?_,fun b o e n hb hx=>?_,I.base.free,fun b o e hx=>?_,I.base.gj,I.base.iq,I.base.ir⟩,⟨m,hn.sameBut hs (eU (Eo x c hc)),fun j y v' e1 e2 e3=>?_⟩,fun y c' e=>?_,I.free,I.iw,fun p hp=>?_,wc ⟨oc,Mw,I.iw x c hc⟩ hs,by simpa using I.len⟩ ⟨c,hs,.inr hc⟩
  .exact(hs.2 b (aU (bX (aH e) (I.ok.Ir x c Je hc)))).trans (I.base.keep b o e n hb hx)
  .obtain⟨sl,e1⟩:=I.base.slot b o e n hb hx;exact⟨sl,(hs.2 b (aU (bX (aH e) (I.ok.Ir x c Je hc)))).trans e1⟩
  .obtain⟨o',e1⟩:=I.base.there b o e hx;exact⟨o',(hs.2 b (aU (bX (aH e) (I.ok.Ir x c Je hc)))).trans e1⟩
  .by_cases hj:j=i
   .subst hj;rw[hi] at e1;cases e1;rw[nE hiσ] at e2;cases e2;exact⟨u,r,.inr ⟨.inl hk,c,hc,B_⟩⟩
   .rw[qp (eU hj)] at e2;obtain⟨u',r',q⟩:=hl j y v' e1 e2 e3;refine⟨u',r',?_⟩;rcases q with q|⟨k,c',e,z'⟩
    .exact .inl q
    .refine .inr ⟨k,c',e,z'.sameBut hs ?_⟩;rintro rfl;exact hj (sj hN e1 (I.ok.inj _ _ _ e hc ▸ hi))
  .by_cases RJ:c'=c
   .subst RJ;exact⟨_,B_⟩
   .obtain⟨w2,z2⟩:=I.cell y c' e;exact⟨w2,z2.sameBut hs RJ⟩
  .obtain⟨e,n,ne,nf,d⟩:=I.pin p hp;refine⟨(hs.2 p.1 ?_).trans e,n,ne,nf,d⟩;intro q;rw[q,Mw] at e;have q':oc=p.2:=bA e;exact d w' (by rw[<-q'];exact Nv)
theorem iy(I:aD X ae σ H s)(hN:X.N.Nodup)(hi:X.N[i]?=some x)(hx:Jb X.env.scope x)(r:bf v u)(h:∀s',aD X ae (σ.set i (some v)) H s'->Q () s')(hf:X.fn x=true\/X.env.scope.names.lookup x=some .local:=by first|exact .inl rfl|exact .inr rfl|assumption):wpAny M A (storeName X.env x u) Q E s:=
 pF I hN hi hx r (fun s' I' _=>h s' I') hf
theorem aD.Ev(I:aD X ae σ H s)(ho:s'.os=s.os)(u:Un (kG X.stack) ch H H' s.heap s'.heap)(bp:ge X.prog X.w H' s'.heap)(hg:AllBare s'.gens)(BS:∀b∈ch,(b∈X.ex\/X.s₀.heap.objs.size<=b)/\b≠X.env.locals/\(∀x c,X.env.cells.lookup x=some c->c≠b)/\∀p∈X.pn++ae,p.1≠b):aD X ae σ H' s':=by
 obtain⟨h',g',d',t',o'⟩:=s';have e:o'=s.os:=ho;subst e;exact I.call (g':=g') (t':=t') (d':=d') u bp hg BS
end
abbrev XK:=Value->Option Addr->Hp->Prop
abbrev St:=List (Option V)
abbrev VK:=V->Hp->Prop
abbrev TE:=St->Hp->VK->Prop
abbrev TT:=St->Hp->(Bool->Hp->Prop)->Prop
abbrev TA:=St->Hp->(List V->Hp->Prop)->Prop
structure sk where
 nx:St->Hp->Prop
 rt:VK
 bk:St->Hp->Prop:=fun _ _=>False
 ct:St->Hp->Prop:=fun _ _=>False
abbrev TS:=sk->St->Hp->Prop
def EP(X:Cx)(ae:List (Addr×Obj))(σ:St)(Q:VK)(u:Value)(s':Shared):Prop:=∃v H',aD X ae σ H' s'/\bf v u/\Q v H'
def TP(X:Cx)(ae:List (Addr×Obj))(σ:St)(Q:Bool->Hp->Prop)(b:Bool)(s':Shared):Prop:=∃H',aD X ae σ H' s'/\Q b H'
def AP(X:Cx)(ae:List (Addr×Obj))(σ:St)(Q:List V->Hp->Prop)(us:List Value)(s':Shared):Prop:=∃vs H',aD X ae σ H' s'/\aZ vs us/\Q vs H'
def SP(X:Cx)(ae:List (Addr×Obj))(D:sk)(f:Flow)(s':Shared):Prop:=
 match f with
 |.next=>∃σ' H',aD X ae σ' H' s'/\D.nx σ' H'
 |.brk=>∃σ' H',aD X ae σ' H' s'/\D.bk σ' H'
 |.cont=>∃σ' H',aD X ae σ' H' s'/\D.ct σ' H'
 |.ret u=>∃v σ' H',aD X ae σ' H' s'/\bf v u/\D.rt v H'
def PE(X:Cx)(e:Expr)(t:TE):Prop:=
 ∀ (ae:List (Addr×Obj)) (s:Shared) (σ:St) (H:Hp) (Q:VK),aD X ae σ H s->t σ H Q->wpAny (model X.prog X.w) X.A (eval e X.env) (EP X ae σ Q) X.xe s
def PT(X:Cx)(e:Expr)(t:TT):Prop:=
 ∀ (ae:List (Addr×Obj)) (s:Shared) (σ:St) (H:Hp) (Q:Bool->Hp->Prop),aD X ae σ H s->t σ H Q->wpAny (model X.prog X.w) X.A (isTrue e X.env (eval e X.env)) (TP X ae σ Q) X.xe s
def PW(X:Cx)(e:Expr)(t:TT):Prop:=
 ∀ (n5:Sem Value) (ae:List (Addr×Obj)) (s:Shared) (σ:St) (H:Hp) (Q:Bool->Hp->Prop),aD X ae σ H s->t σ H Q->wpAny (model X.prog X.w) X.A (isTrue e X.env n5) (TP X ae σ Q) X.xe s
theorem PW.pt(h:PW X e t):PT X e t:=h _
def PA(X:Cx)(es:List Expr)(t:TA):Prop:=
 ∀ (pos:Pos) (ae:List (Addr×Obj)) (s:Shared) (σ:St) (H:Hp) (Q:List V->Hp->Prop),aD X ae σ H s->t σ H Q->wpAny (model X.prog X.w) X.A (spliced (backTo pos (starEach es X.env))) (AP X ae σ Q) X.xe s
def PS(X:Cx)(st:Stmt)(t:TS):Prop:=
 ∀ (ae:List (Addr×Obj)) (s:Shared) (σ:St) (H:Hp) (D:sk),aD X ae σ H s->t D σ H->wpAny (model X.prog X.w) X.A (exec st X.env) (SP X ae D) X.xe s
def ui(X:Cx)(st:List Stmt)(t:TS):Prop:=
 ∀ (ae:List (Addr×Obj)) (s:Shared) (σ:St) (H:Hp) (D:sk),aD X ae σ H s->t D σ H->wpAny (model X.prog X.w) X.A (execs st X.env) (SP X ae D) X.xe s
theorem bS(h:wpAny M A t Q E s)(hQ:∀a s,Q a s->Q' a s):wpAny M A t Q' E s:=io h hQ fun _ _ x=>x
section
variable {X:Cx}
def bU(i:Nat):TE:=fun σ H Q=>∃v,σ[i]?=some (some v)/\Q v H
def tC(v:V):TE:=fun _ H Q=>Q v H
theorem Fu(hN:X.N[i]?=some x)(hv:Ja X.env.scope x)(hd:(x==("__debug__":Str))=false:=by decide)(oZ:(x==("__classdict__":Str))=false:=by decide):PE X (.Name x pos) (bU i):=by
 intro ae s σ H Q I h;obtain⟨v,e,h⟩:=h;obtain⟨m,hn,hl⟩:=I.loc;obtain⟨u,r,l⟩:=hl i x v hN e hv;have dB:EP X ae σ Q u s:=⟨v,H,I,r,h⟩
 rcases l with ⟨hk,hm⟩|⟨hk,c,hc,wd⟩
 .exact k4 (uK I.ok.kind hk hn hm dB) hd
 .rcases hk with hk|hk
  .exact k4 (wpAny_loadName_cell I.ok.kind hk hc wd dB) hd
  .exact k4 (uR I.ok.kind hk hc wd dB oZ) hd
theorem av{i j pos}:PE X (.Constant (.int i) j pos) (tC (.int i)):=fun _ _ _ H _ I h=>wpAny_Constant_int ⟨.int i,H,I.tok _,⟨_,rfl⟩,h⟩
theorem iz{b j pos}:PE X (.Constant (.bool b) j pos) (tC (.bl b)):=fun _ _ _ H _ I h=>Constant_bool ⟨.bl b,H,I,rfl,h⟩
theorem cP{j pos}:PE X (.Constant .none j pos) (tC .bD):=fun _ _ _ H _ I h=>Constant_none ⟨.bD,H,I,rfl,h⟩
theorem qQ{x j pos}:PE X (.Constant (.str x) j pos) (tC (.str x)):=fun _ _ _ H _ I h=>Calls.Constant_str ⟨.str x,H,I.tok _,⟨_,rfl⟩,h⟩
def Gl(X:Cx)(x:Str):Prop:=X.env.kindOf x=some .globalImplicit
theorem jW(I:aD X ae σ H s)(hg:Gl X x)(hm:X.mg x=some u)(h:Q u s)(hd:(x==("__debug__":Str))=false:=by decide):wpAny (model X.prog X.w) X.A (eval (.Name x pos) X.env) Q E s:=
 Calls.Name_function_global I.ok.kind hg (Calls.loadGlobal_global (by rw[I.ok.glob];exact I.mod.glob.keeps I.bk) hm h) hd
theorem gl(I:aD X ae σ H s)(hg:Gl X x)(hm:X.mg x=none)(hv:bootBuiltins x=some u)(h:Q u s)(hn:x≠"__name__":=by decide)(hd:(x==("__debug__":Str))=false:=by decide):wpAny (model X.prog X.w) X.A (eval (.Name x pos) X.env) Q E s:=by
 obtain⟨mb,h1,h2⟩:=I.mod.blt;exact Calls.Name_function_global I.ok.kind hg (Calls.loadGlobal_builtin (by rw[I.ok.glob];exact I.mod.glob.keeps I.bk) hm (by rw[I.ok.blt];exact h1.keeps I.bk) ((h2 x hn).trans hv) h) hd
theorem gm(hg:Gl X x)(hm:X.mg x=some u)(r:bf v u)(hd:(x==("__debug__":Str))=false:=by decide):PE X (.Name x pos) (tC v):=
 fun _ _ _ H _ I h=>jW I hg hm ⟨v,H,I,r,h⟩ hd
theorem gn(hg:Gl X x)(hm:X.mg x=none)(hv:bootBuiltins x=some u)(r:bf v u)(hn:x≠"__name__":=by decide)(hd:(x==("__debug__":Str))=false:=by decide):PE X (.Name x pos) (tC v):=
 fun _ _ _ H _ I h=>gl I hg hm hv ⟨v,H,I,r,h⟩ hn hd
variable {a b:Expr} {ta tb:TE} {pos:Pos}
def PC(X:Cx)(op:CmpOp)(a b:Expr)(t:TE):Prop:=
 ∀ (ae:List (Addr×Obj)) (s:Shared) (σ:St) (H:Hp) (Q:VK),aD X ae σ H s->t σ H Q->
  wpAny (model X.prog X.w) X.A (eval a X.env) (fun v s₁=>wpAny (model X.prog X.w) X.A (eval b X.env) (fun u s₂=>wpAny (model X.prog X.w) X.A (compareOp op v u) (EP X ae σ Q) X.xe s₂) X.xe s₁) X.xe s
def tB(t:TE):TT:=fun σ H Q=>t σ H fun x H1=>∃c,x=.bl c/\Q c H1
theorem Fv(h:PC X op a b t)(h1:behindInMarks op b=false:=by first|exact Jf _ (by decide) (by decide)|rfl):PT X (.Compare a [op] [b] pos) (tB t):=by
 intro ae s σ H Q I hw;refine wpAny_isTrue_Compare1 (bS (h ae s σ H _ I hw) fun v s1 h1=>bS h1 fun u s2 h2=>bS h2 fun c s3 ⟨x,H1,I1,r1,q1⟩=>?_) h1;obtain⟨d,rfl,q⟩:=q1;cases r1;exact jj ⟨H1,I1,q⟩
theorem dg(h:PE X e t)(he:∀n5,isTrue e X.env n5=(do let v <- n5;standAt e.pos;holding [v] (truthy v)):=by intro _;rfl):PT X e (tB t):=by
 intro ae s σ H Q I hw;refine isTrue_plain (bS (h ae s σ H _ I hw) fun v s1 ⟨x,H1,I1,r1,q1⟩=>?_) (he _);obtain⟨d,rfl,q⟩:=q1;cases r1;exact jj ⟨H1,I1,q⟩
variable {tA Mx:TT} {mn:List Expr}
def Jg(t u:TT):TT:=fun σ H Q=>t σ H fun c H1=>if c=true then u σ H1 Q else Q false H1
def TW(t u:TT):TT:=fun σ H Q=>t σ H fun c H1=>if c=true then Q true H1 else u σ H1 Q
def Nw(t:TT):TT:=fun σ H Q=>t σ H fun c H1=>Q (!c) H1
theorem qR(ha:PT X a tA):PW X (.BoolOp .And [a] pos) tA:=by
 intro wh ae s σ H Q I h;refine isTrue_and (bS (ha ae s σ H Q I h) fun c s1 e=>?_);cases c with
 |true=>exact isTrue_and_nil e
 |false=>exact e
theorem u4(ha:PT X a tA):PW X (.BoolOp .Or [a] pos) tA:=by
 intro wh ae s σ H Q I h;refine isTrue_or (bS (ha ae s σ H Q I h) fun c s1 e=>?_);cases c with
 |false=>exact isTrue_or_nil e
 |true=>exact e
theorem u5(ha:PT X a tA)(hb:PW X (.BoolOp .And (b::mn) pos) Mx):PW X (.BoolOp .And (a::b::mn) pos) (Jg tA Mx):=by
 intro wh ae s σ H Q I h;refine isTrue_and (bS (ha ae s σ H _ I h) fun c s1 ⟨H1,I1,q1⟩=>?_);cases c with
 |true=>exact hb wh ae s1 σ H1 Q I1 q1
 |false=>exact⟨H1,I1,q1⟩
theorem zm(ha:PT X a tA)(hb:PW X (.BoolOp .Or (b::mn) pos) Mx):PW X (.BoolOp .Or (a::b::mn) pos) (TW tA Mx):=by
 intro wh ae s σ H Q I h;refine isTrue_or (bS (ha ae s σ H _ I h) fun c s1 ⟨H1,I1,q1⟩=>?_);cases c with
 |true=>exact⟨H1,I1,q1⟩
 |false=>exact hb wh ae s1 σ H1 Q I1 q1
theorem dG(ha:PT X a tA):PT X (.UnaryOp .Not a pos) (Nw tA):=by
 intro ae s σ H Q I h;exact isTrue_not (ha ae s σ H (fun c H1=>Q (!c) H1) I h)
def Jh(ta tb:TE):TE:=fun σ H Q=>ta σ H fun x H1=>∃c,x=.bl c/\if c=true then tb σ H1 Q else Q (.bl false) H1
def Ji(ta:TE):TE:=fun σ H Q=>ta σ H fun x H1=>∃c,x=.bl c/\Q (.bl (!c)) H1
theorem k8{op}(h:PE X a t):PE X (.BoolOp op [a] pos) t:=fun ae s σ H Q I hw=>BoolOp_one (h ae s σ H Q I hw)
theorem jx(ha:PE X a ta)(hb:PE X (.BoolOp .And (b::mn) pos) tb):PE X (.BoolOp .And (a::b::mn) pos) (Jh ta tb):=by
 intro ae s σ H Q I h;refine BoolOp_and (bS (ha ae s σ H _ I h) fun v s1 ⟨x,H1,I1,r1,q1⟩=>?_);obtain⟨c,rfl,q1⟩:=q1;cases r1;refine jj ?_;cases c with
 |true=>exact hb ae s1 σ H1 Q I1 q1
 |false=>exact⟨.bl false,H1,I1,rfl,q1⟩
theorem Fw(ha:PE X a ta):PE X (.UnaryOp .Not a pos) (Ji ta):=by
 intro ae s σ H Q I h;refine UnaryOp_ (bS (ha ae s σ H _ I h) fun v s1 ⟨x,H1,I1,r1,q1⟩=>?_);obtain⟨c,rfl,q1⟩:=q1;cases r1;exact not_of (jj ⟨.bl (!c),H1,I1,rfl,q1⟩)
def Nx(t:TT)(ta tb:TE):TE:=fun σ H Q=>t σ H fun c H1=>if c=true then ta σ H1 Q else tb σ H1 Q
theorem n6(hc:PT X c tA)(ha:PE X a ta)(hb:PE X b tb):PE X (.IfExp c a b pos) (Nx tA ta tb):=by
 intro ae s σ H Q I h;refine wpAny_IfExp (bS (hc ae s σ H _ I h) fun d s1 ⟨H1,I1,q1⟩=>?_);cases d with
 |true=>exact ha ae s1 σ H1 Q I1 q1
 |false=>exact hb ae s1 σ H1 Q I1 q1
end
def a_(K:PySem.W.Frag)(H:Hp)(a:Addr)(xs:List V):Prop:=
 Rd H a (.lst xs)\/
  ∃ (o:Obj) (its:Array Value) (n:Nat),K.lookup a=some o/\o.cls=.type "list"/\o.dict=none/\o.data=.seq its n/\its.size<=sizeLine/\aZ xs its.toList
def be(K:PySem.W.Frag)(H:Hp)(a:Addr)(xs:List V):Prop:=
 Rd H a (.tup xs)\/
  ∃ (o:Obj) (its:Array Value) (n:Nat),K.lookup a=some o/\o.cls=.type "tuple"/\o.data=.seq its n/\its.size<=sizeLine/\aZ xs its.toList
def Ny:Value->Option V
 |.none=>some .bD
 |.bool b=>some (.bl b)
 |.int i _=>some (.int i)
 |.str x _=>some (.str x)
 |.bytes b _=>some (.wa b)
 |.float b _=>some (.Fp b)
 |.ref a=>some (.ref a)
 |.type n=>some (.ty n)
 |_=>none
theorem bf.abs(r:bf x u):Ny u=some x:=by
 cases x with
 |bD=>cases r;rfl
 |bl _=>cases r;rfl
 |int _=>obtain⟨t,rfl⟩:=r;rfl
 |str _=>obtain⟨t,rfl⟩:=r;rfl
 |wa _=>obtain⟨t,rfl⟩:=r;rfl
 |Fp _=>obtain⟨t,rfl⟩:=r;rfl
 |ref _=>cases r;rfl
 |ty _=>cases r;rfl
theorem bf.inj(r:bf x u)(q:bf y u):x=y:=bA (r.abs.symm.trans q.abs)
theorem aZ.inj:∀ {xs ys:List V} {us:List Value},aZ xs us->aZ ys us->xs=ys
 |_,_,_,.nil,.nil=>rfl
 |_,_,_,.cons r t,.cons r' t'=>by rw[r.inj r',aZ.inj t t']
section
variable {X:Cx} {ae:List (Addr×Obj)} {σ:St} {H:Hp} {s:Shared} {a:Addr} {xs ys:List V}
theorem a_.of{K:PySem.W.Frag}(h:H a=some (.lst xs)):a_ K H a xs:=.inl (.inl h)
theorem be.of{K:PySem.W.Frag}(h:H a=some (.tup xs)):be K H a xs:=.inl (.inl h)
theorem aD.list(I:aD X ae σ H s)(h:a_ X.K H a xs):∃its:List Value,aZ xs its/\PlainL s.heap a its.toArray/\xs.length<=sizeLine:=by
 rcases h with h|⟨o,its,n,hk,hc,hd,hs,hz,r⟩
 .obtain⟨z,its,n,r,e⟩:=h.ok I.bp;exact⟨its,r,⟨_,n,e,rfl,rfl,rfl⟩,z⟩
 .refine⟨its.toList,r,⟨o,n,I.k7 a o hk,hc,hd,by simpa using hs⟩,?_⟩;have e:=r.length;simp only[kN] at e;lia
theorem aD.tuple(I:aD X ae σ H s)(h:be X.K H a xs):∃its:List Value,aZ xs its/\IsTup s.heap a its.toArray/\xs.length<=sizeLine:=by
 rcases h with h|⟨o,its,n,hk,hc,hs,hz,r⟩
 .obtain⟨z,its,r,p⟩:=h.ok I.bp;exact⟨its,r,p.tup,z⟩
 .refine⟨its.toList,r,⟨o,I.k7 a o hk,hc,n,by simpa using hs⟩,?_⟩;have e:=r.length;simp only[kN] at e;lia
theorem aD.jX(I:aD X ae σ H s)(h:a_ X.K H a xs)(h':a_ X.K H a ys):xs=ys:=by
 obtain⟨its,r,⟨o,n,e,_,_,d⟩,_⟩:=I.list h;obtain⟨its',r',⟨o',n',e',_,_,d'⟩,_⟩:=I.list h';rw[e] at e';cases e';rw[d] at d';injection d' with d1 _;have:its=its':=by simpa using congrArg Array.toList d1
 subst this;exact r.inj r'
theorem aD.dS(I:aD X ae σ H s)(h:be X.K H a xs)(h':be X.K H a ys):xs=ys:=by
 obtain⟨its,r,⟨o,e,_,n,d⟩,_⟩:=I.tuple h;obtain⟨its',r',⟨o',e',_,n',d'⟩,_⟩:=I.tuple h';rw[e] at e';cases e';rw[d] at d';injection d' with d1 _;have:its=its':=by simpa using congrArg Array.toList d1
 subst this;exact r.inj r'
end
abbrev Cx.wish(X:Cx)(E:Value->Shared->Prop):Cx:={ X with xe:=E }
abbrev Cx.Ew(X:Cx):Cx:=X.wish fun _ _=>False
theorem Cx.Ok.wish{X:Cx}(ok:X.Ok)(E:Value->Shared->Prop):(X.wish E).Ok:=
 ⟨ok.mod,ok.kind,ok.glob,ok.blt,ok.above,ok.inj,ok.has,ok.Ir,ok.hd,ok.frames,ok.BR,ok.Np,ok.bs,ok.yV,ok.nZ,ok.B8,ok.jw,ok.B9⟩
theorem Cx.Ok.iA{X:Cx}{E:Value->Shared->Prop}(ok:(X.wish E).Ok):X.Ok:=
 ⟨ok.mod,ok.kind,ok.glob,ok.blt,ok.above,ok.inj,ok.has,ok.Ir,ok.hd,ok.frames,ok.BR,ok.Np,ok.bs,ok.yV,ok.nZ,ok.B8,ok.jw,ok.B9⟩
section
variable {X:Cx} {ae:List (Addr×Obj)} {σ:St} {H:Hp} {s:Shared} {E:Value->Shared->Prop}
theorem aD.wish(I:aD X ae σ H s)(E:Value->Shared->Prop):aD (X.wish E) ae σ H s:=⟨I.ok.wish E,I.os,I.bare,I.base,I.loc,I.cell,I.free,I.iw,I.pin,I.bp,I.len⟩
theorem aD.iA(I:aD (X.wish E) ae σ H s):aD X ae σ H s:=⟨I.ok.iA,I.os,I.bare,I.base,I.loc,I.cell,I.free,I.iw,I.pin,I.bp,I.len⟩
theorem SP.iA(h:SP (X.wish E) ae D f s'):SP X ae D f s':=by
 cases f with
 |next=>obtain⟨σ',H',I,q⟩:=h;exact⟨σ',H',I.iA,q⟩
 |brk=>obtain⟨σ',H',I,q⟩:=h;exact⟨σ',H',I.iA,q⟩
 |cont=>obtain⟨σ',H',I,q⟩:=h;exact⟨σ',H',I.iA,q⟩
 |ret u=>obtain⟨v,σ',H',I,r,q⟩:=h;exact⟨v,σ',H',I.iA,r,q⟩
theorem ui.Ew{st:List Stmt}{t:TS}(h:ui X.Ew st t):ui X st t:=fun ae s σ H D I hw=>
 io (h ae s σ H D (I.wish _) hw) (fun _ _ q=>q.iA) fun _ _ z=>False.elim z
end
section
variable {X:Cx} {st:Stmt} {mn:List Stmt} {t u:TS} {e:Expr} {te:TE} {pos:Pos}
def Jj:TS:=fun D σ H=>D.nx σ H
def Fx(t u:TS):TS:=fun D σ H=>t { D with nx:=u D } σ H
theorem aQ:ui X [] Jj:=fun _ _ σ H _ I h=>qJ ⟨σ,H,I,h⟩
theorem ah(h1:PS X st t)(h2:ui X mn u):ui X (st::mn) (Fx t u):=by
 intro ae s σ H D I h;refine wpAny_execs_cons (bS (h1 ae s σ H { D with nx:=u D } I h) fun f s1 q=>?_);cases f with
 |next=>
  obtain⟨σ',H',I',q⟩:=q;exact h2 ae s1 σ' H' D I' q
 |ret v=>exact q
 |brk=>exact q
 |cont=>exact q
theorem ap(h1:PS X st t):ui X [st] t:=by
 intro ae s σ H D I h;refine wpAny_execs_cons (bS (h1 ae s σ H D I h) fun f s1 q=>?_);cases f with
 |next=>exact qJ q
 |ret v=>exact q
 |brk=>exact q
 |cont=>exact q
theorem aD.quiet(I:aD X ae σ H s):interactive X.env=false:=by simp[interactive,I.ok.kind]
def Jk(te:TE):TS:=fun D σ H=>te σ H fun _ H1=>D.nx σ H1
theorem bL(he:PE X e te)(hs:swapsWith e none pos.line X.env=pure false:=by rfl):PS X (.Expr e pos) (Jk te):=by
 intro ae s σ H D I h;exact wpAny_Expr_any (bS (he ae s σ H _ I h) fun v s1 ⟨x,H1,I1,r1,q1⟩=>⟨σ,H1,I1,q1⟩) I.quiet hs
def Jl(te:TE):TS:=fun D σ H=>te σ H D.rt
theorem aJ(he:PE X e te):PS X (.Return (some e) pos) (Jl te):=by
 intro ae s σ H D I h;exact wpAny_Return_some (bS (he ae s σ H _ I h) fun v s1 ⟨x,H1,I1,r1,q1⟩=>⟨x,σ,H1,I1,r1,q1⟩)
def Nz(c:TT)(t u:TS):TS:=fun D σ H=>c σ H fun b H1=>if b=true then t D σ H1 else u D σ H1
theorem bJ(hc:PT X c tc)(ha:ui X a t)(hb:ui X b u):PS X (.If c a b pos) (Nz tc t u):=by
 intro ae s σ H D I h;refine wpAny_If (bS (hc ae s σ H _ I h) fun d s1 ⟨H1,I1,q1⟩=>?_);cases d with
 |true=>exact ha ae s1 σ H1 D I1 q1
 |false=>exact hb ae s1 σ H1 D I1 q1
def Fy:TS:=fun _ _ _=>False
theorem cp:ui X WV Fy:=fun _ _ _ _ _ _ h=>h.elim
end
abbrev TG:=V->St->Hp->(St->Hp->Prop)->Prop
abbrev Jm:=List V->St->Hp->(St->Hp->Prop)->Prop
def PG(X:Cx)(Fz:Expr)(t:TG):Prop:=
 ∀ (ae:List (Addr×Obj)) (s:Shared) (σ:St) (H:Hp) (v:V) (u:Value) (Q:St->Hp->Prop),aD X ae σ H s->bf v u->t v σ H Q->
  wpAny (model X.prog X.w) X.A (assign Fz X.env u) (fun _ s'=>∃σ' H',aD X ae σ' H' s'/\Q σ' H') X.xe s
def My(X:Cx)(ts:List Expr)(t:Jm):Prop:=
 ∀ (ae:List (Addr×Obj)) (s:Shared) (σ:St) (H:Hp) (vs:List V) (us:List Value) (Q:St->Hp->Prop),aD X ae σ H s->aZ vs us->t vs σ H Q->
  wpAny (model X.prog X.w) X.A (assignInOrder ((assignEach ts X.env).map (·.2)) us) (fun _ s'=>∃σ' H',aD X ae σ' H' s'/\Q σ' H') X.xe s
abbrev Ca:=V->V->V->Hp->(Hp->Prop)->Prop
def FA(X:Cx)(t:Ca):Prop:=
 ∀ (ae:List (Addr×Obj)) (s:Shared) (σ:St) (H:Hp) (o i v:V) (ov iv u:Value) (Q:Hp->Prop),aD X ae σ H s->bf o ov->bf i iv->bf v u->t o i v H Q->
  wpAny (model X.prog X.w) X.A (setItem ov iv u) (fun _ s'=>∃H',aD X ae σ H' s'/\Q H') X.xe s
abbrev Jn:=V->V->Hp->VK->Prop
def Jo(X:Cx)(op:Operator)(t:Jn):Prop:=
 ∀ (ae:List (Addr×Obj)) (s:Shared) (σ:St) (H:Hp) (x y:V) (v u:Value) (Q:VK),aD X ae σ H s->bf x v->bf y u->t x y H Q->
  wpAny (model X.prog X.w) X.A (inplaceOp op v u) (EP X ae σ Q) X.xe s
section
variable {X:Cx} {pos:Pos}
def bR(i:Nat):TG:=fun v σ H Q=>Q (σ.set i (some v)) H
theorem az(hN:X.N.Nodup)(hi:X.N[i]?=some x)(hx:Jb X.env.scope x)(hf:X.fn x=true\/X.env.scope.names.lookup x=some .local:=by first|exact .inl rfl|exact .inr rfl|assumption):PG X (.Name x pos) (bR i):=by
 intro ae s σ H v u Q I r h;exact wpAny_assign_Name (iy I hN hi hx r (fun s' I'=>⟨_,H,I',h⟩) hf)
def o4:Jm:=fun vs σ H Q=>vs=[]/\Q σ H
def dH(t:TG)(u:Jm):Jm:=fun vs σ H Q=>∃v r,vs=v::r/\t v σ H fun σ' H'=>u r σ' H' Q
theorem cJ:My X [] o4:=by
 intro ae s σ H vs us Q I r h;obtain⟨e,h⟩:=h;subst e;cases r;exact assignInOrder_nil ⟨σ,H,I,h⟩
theorem aR(h1:PG X e t)(h2:My X es u)(hs:(assignEach (e::es) X.env).map (·.2)=assign e X.env::(assignEach es X.env).map (·.2):=by rfl):My X (e::es) (dH t u):=by
 intro ae s σ H vs us Q I r h;obtain⟨v,vr,e1,h⟩:=h;subst e1;cases r with
 |cons r rr=>
  rw[hs];refine assignInOrder_cons (bS (h1 ae s σ H _ _ _ I r h) fun _ s1 ⟨σ1,H1,I1,q1⟩=>?_);exact h2 ae s1 σ1 H1 _ _ Q I1 rr q1
def o5(K:PySem.W.Frag)(n:Nat)(t:Jm):TG:=fun v σ H Q=>∃a xs,v=.ref a/\be K H a xs/\xs.length=n/\t xs σ H Q
theorem dI(hc:X.calm=true)(h:My X es t)(hn:(assignEach es X.env).length=n:=by rfl)(kH:(assignEach es X.env).findIdx? (·.1)=none:=by rfl):PG X (.Tuple es k pos) (o5 X.K n t):=by
 intro ae s σ H v u Q I r hw;obtain⟨a,xs,e1,hq,hl,hw⟩:=hw;subst e1;cases r;obtain⟨its,rv,ht,hz⟩:=I.tuple hq;refine assign_Tuple_tuple (I.ok.hd hc) ht (by simp[hn,<-hl,rv.length]) kH fun h' hx=>?_;have I1:aD X ae σ H { s with heap:=h' }:=I.kept (t':=s.toks) fun b o e=>hx b o (aU (aH e)) e;exact h ae _ σ H xs _ Q I1 (by simpa using rv) hw
def NA(to ti:TE)(t:Ca):TG:=fun v σ H Q=>to σ H fun o H1=>ti σ H1 fun i H2=>t o i v H2 fun H3=>Q σ H3
theorem n9(ho:PE X o to)(hi:PE X i ti)(hs:FA X t)(ha:∀v,assign (.Subscript o i pos) X.env v=(do
   let ov <- holding [v] (eval o X.env)
   let iv <- holding [v,ov] (eval i X.env)
   standAt pos
   holding [v,ov,iv] (setItem ov iv v)
   release [v,ov,iv] []):=by intro _;rfl):PG X (.Subscript o i pos) (NA to ti t):=by
 intro ae s σ H v u Q I r h;rw[ha];refine aw (ij (bS (ho ae s σ H _ I h) fun ov s1 ⟨x,H1,I1,r1,q1⟩=>?_));refine aw (ij (bS (hi ae s1 σ H1 _ I1 q1) fun iv s2 ⟨y,H2,I2,r2,q2⟩=>?_));refine aw (kY (aw (ij (bS (hs ae s2 σ H2 x y v ov iv u _ I2 r1 r2 r q2) fun _ s3 ⟨H3,I3,q3⟩=>?_))));exact wpAny_release ⟨σ,H3,I3,q3⟩
def FB(te:TE)(g:TG):TS:=fun D σ H=>te σ H fun x H1=>g x σ H1 D.nx
theorem iB(he:PE X e te)(hg:PG X tg g)(hs:swapsWithSole [tg] e pos.line X.env=pure false:=by rfl)(hw:swappedStores [tg] e X.env=pure none:=by rfl)(h1:(assignEach [tg] X.env).map (·.2)=[assign tg X.env]:=by rfl):PS X (.Assign [tg] e pos) (FB te g):=by
 intro ae s σ H D I h;refine wpAny_Assign_stores (bS (he ae s σ H _ I h) fun v s1 ⟨x,H1,I1,r1,q1⟩=>?_) hs hw;rw[h1];exact bS (hg ae s1 σ H1 x v _ I1 r1 q1) fun _ s2 q=>q
theorem aN(hN:X.N.Nodup)(hi:X.N[i]?=some x)(hx:Jb X.env.scope x)(he:PE X e te)(hs:swapsWith e (some (.Name x so)) pos.line X.env=pure false:=by rfl)(hf:X.fn x=true\/X.env.scope.names.lookup x=some .local:=by first|exact .inl rfl|exact .inr rfl|assumption):
  PS X (.Assign [.Name x so] e pos) (FB te (bR i)):=by
 intro ae s σ H D I h;refine wpAny_Assign_Name (bS (he ae s σ H _ I h) fun v s1 ⟨y,H1,I1,r1,q1⟩=>?_) hs;exact iy I1 hN hi hx r1 (fun s2 I2=>⟨_,H1,I2,q1⟩) hf
def NC(i j:Nat)(ta:TA):TS:=fun D σ H=>ta σ H fun vs H1=>∃v w,vs=[v,w]/\D.nx ((σ.set i (some v)).set j (some w)) H1
theorem qS{kt k2 Cb}(hc:X.calm=true)(hN:X.N.Nodup)(hi:X.N[i]?=some x)(hj:X.N[j]?=some y)(TX:i≠j)(hx:X.env.scope.names.lookup x=some .local)(hy:X.env.scope.names.lookup y=some .local)(ha:PA X [a,b] ta)(hw:swappedStores [.Tuple [.Name x px,.Name y py] kt pt] (.Tuple [a,b] k2 Cb) X.env=pure (some [x,y]))(hs:swapsWithSole [.Tuple [.Name x px,.Name y py] kt pt] (.Tuple [a,b] k2 Cb) pos.line X.env=pure false:=by rfl):
  PS X (.Assign [.Tuple [.Name x px,.Name y py] kt pt] (.Tuple [a,b] k2 Cb) pos) (NC i j ta):=by
 intro ae s σ H D I h;rw[exec_Assign_arm];refine aw (kY ?_);rw[hs];refine aw (wpAny_pure ?_);rw[ai (by decide)];refine aw (Tuple_ (bS (ha _ ae s σ H _ I h) fun us s1 ⟨vs,H1,I1,r1,q1⟩=>?_));obtain⟨v,w,e1,q1⟩:=q1;subst e1;obtain⟨u1,u2,rfl,rv,FE⟩:∃u1 u2,us=[u1,u2]/\bf v u1/\bf w u2:=by
  cases r1 with
  |cons p q=>
   cases q with
   |cons p' q'=>
    cases q';exact⟨_,_,rfl,p,p'⟩
 refine qC ?_ (by show 2<=sizeLine;decide);have I2:aD X ae σ H1 { s1 with heap:=s1.heap.push { cls:=.type "tuple",data:=.seq [u1,u2].toArray } }:=I1.kept (t':=s1.toks) fun b o e=>bN _ e;rw[hw];refine aw (wpAny_pure ?_);show wpAny (model X.prog X.w) X.A (do rule "assign.swapped-stores";let items <- unpackItems (.ref s1.heap.objs.size) 2 none;assignInOrder [fun v=>bindName X.env y v,fun v=>bindName X.env x v] items.reverse;pure Flow.next) _ _ _;refine aw (fE (aw (unpackItems_tuple (items:=#[u1,u2]) (I.ok.hd hc) (IsTup.new s1.heap _) fun h' qT=>?_)));have I3:=I2.kept (h':=h') (t':=s1.toks) fun b o e=>qT b o (aU (aH e)) e;show wpAny _ _ (assignInOrder [fun v=>bindName X.env y v,fun v=>bindName X.env x v] [u2,u1] >>= fun _=>pure Flow.next) _ _ _;refine aw (assignInOrder_cons (wpAny_bindName (iy I3 hN hj (.inl hy) FE (fun s2 I4=>?_) (.inr hy))));refine assignInOrder_cons (wpAny_bindName (iy I4 hN hi (.inl hx) rv (fun s3 I5=>assignInOrder_nil (wpAny_pure ?_)) (.inr hx)));rw[List.set_comm _ _ (eU TX)] at I5;exact⟨_,H1,I5,q1⟩
def ND(i:Nat)(te:TE)(ti:Jn):TS:=fun D σ H=>∃x,σ[i]?=some (some x)/\te σ H fun y H1=>ti x y H1 fun z H2=>D.nx (σ.set i (some z)) H2
theorem k9(hN:X.N.Nodup)(hi:X.N[i]?=some x)(hx:Jb X.env.scope x)(he:PE X e te)(ho:Jo X op ti)(hf:X.fn x=true\/X.env.scope.names.lookup x=some .local:=by first|exact .inl rfl|exact .inr rfl|assumption):
  PS X (.AugAssign (.Name x so) op e pos) (ND i te ti):=by
 intro ae s σ H D I h;obtain⟨v,e1,h⟩:=h;obtain⟨m,hn,hl⟩:=I.loc;have NE:Ja X.env.scope x:=by rcases hx with k|k;exact .inl k;exact .inr (.inl k)
 obtain⟨u,r,l⟩:=hl i x v hi e1 NE;refine wpAny_AugAssign_Name ?_;have go:wpAny (model X.prog X.w) X.A (eval e X.env) (fun w s₂=>wpAny (model X.prog X.w) X.A (inplaceOp op u w) (fun r s₃=>wpAny (model X.prog X.w) X.A (storeName X.env x r) (fun _=>SP X ae D .next) X.xe s₃) X.xe s₂) X.xe s:=by
  refine bS (he ae s σ H _ I h) fun w s1 ⟨y,H1,I1,r1,q1⟩=>?_;refine bS (ho ae s1 σ H1 v y u w _ I1 r r1 q1) fun z s2 ⟨zv,H2,I2,r2,q2⟩=>?_;exact iy I2 hN hi hx r2 (fun s3 I3=>⟨_,H2,I3,q2⟩) hf
 rcases l with ⟨hk,hm⟩|⟨hk,c,hc,wd⟩
 .exact uK I.ok.kind hk hn hm go
 .rcases hk with hk|hk
  .exact wpAny_loadName_cell I.ok.kind hk hc wd go
  .rcases hx with k|k
   .have:X.env.scope.names.lookup x=some .free:=hk;rw[k] at this;cases this
   .have:X.env.scope.names.lookup x=some .free:=hk;rw[k] at this;cases this
def Jp(to ti te:TE)(Cc:V->V->Hp->VK->Prop)(Mz:Jn)(Cd:Ca):TS:=fun D σ H=>to σ H fun o H1=>ti σ H1 fun i H2=>Cc o i H2 fun x H3=>te σ H3 fun y H4=>Mz x y H4 fun z H5=>Cd o i z H5 fun H6=>D.nx σ H6
def Jq(X:Cx)(t:V->V->Hp->VK->Prop):Prop:=
 ∀ (ae:List (Addr×Obj)) (s:Shared) (σ:St) (H:Hp) (o i:V) (ov iv:Value) (Q:VK),aD X ae σ H s->bf o ov->bf i iv->t o i H Q->
  wpAny (model X.prog X.w) X.A (getItem ov iv) (EP X ae σ Q) X.xe s
theorem Ce{o i e:Expr}{to ti te:TE}{Cc:V->V->Hp->VK->Prop}{Mz:Jn}{Cd:Ca}{op:Operator}{qU:Pos}(ho:PE X o to)(hi:PE X i ti)(hg:Jq X Cc)(he:PE X e te)(hp:Jo X op Mz)(hs:FA X Cd)(ha:∀ov iv new,augStore i ov iv new=(do holding [new,ov,iv] (setItem ov iv new);release [new,ov,iv] [];pure .next):=by intros;rfl):PS X (.AugAssign (.Subscript o i qU) op e pos) (Jp to ti te Cc Mz Cd):=by
 intro ae s σ H D I h;refine wpAny_AugAssign_SubscriptAny (bS (ho ae s σ H _ I h) fun ov s1 ⟨x1,H1,I1,r1,q1⟩=>?_) ha;refine bS (hi ae s1 σ H1 _ I1 q1) fun iv s2 ⟨x2,H2,I2,r2,q2⟩=>?_;refine bS (hg ae s2 σ H2 x1 x2 ov iv _ I2 r1 r2 q2) fun fK s3 ⟨x3,H3,I3,r3,q3⟩=>?_;refine bS (he ae s3 σ H3 _ I3 q3) fun v s4 ⟨x4,H4,I4,r4,q4⟩=>?_;refine bS (hp ae s4 σ H4 x3 x4 fK v _ I4 r3 r4 q4) fun new s5 ⟨x5,H5,I5,r5,q5⟩=>?_;exact bS (hs ae s5 σ H5 x1 x2 x5 ov iv new _ I5 r1 r2 r5 q5) fun _ s6 ⟨H6,I6,q6⟩=>⟨σ,H6,I6,q6⟩
def TY(f:Int->Int->Int):Jn:=fun x y H Q=>∃i j,x=.int i/\y=.int j/\Q (.int (f i j)) H
theorem u6:Jo X .Add (TY fun i j=>i+j):=by
 intro ae s σ H x y v u Q I r1 r2 h;obtain⟨i,j,e1,e2,q⟩:=h;subst e1;subst e2;obtain⟨t,rfl⟩:=r1;obtain⟨t',rfl⟩:=r2;exact iadd_int ⟨.int _,H,I.tok _,⟨_,rfl⟩,q⟩
def zn(c:TT)(tb:TS):TS:=fun D σ H=>∃W:Nat->St->Hp->Prop,(∃m,W m σ H)/\∀m σ H,W m σ H->
 c σ H fun b H1=>if b=true then ∃N:St->Hp->Prop,(∀σ' H',N σ' H'->∃m',m'<m/\W m' σ' H')/\tb { D with nx:=N,ct:=N,bk:=D.nx } σ H1 else D.nx σ H1
theorem n_(hp:PassesOwn (model X.prog X.w) X.A X.env X.xe)(hc:PT X c tc)(hb:ui X body tb):PS X (.While c body [] pos) (zn tc tb):=by
 intro ae s σ H D I h;obtain⟨W,⟨m0,w0⟩,zo⟩:=h;refine wpAny_While (codeAny_whileLoop (fun n s'=>∃σ' H',aD X ae σ' H' s'/\W n σ' H') ?_ m0 ⟨σ,H,I,w0⟩);rintro n s1 ⟨σ1,H1,I1,w1⟩;refine jo hp (bS (hc ae s1 σ1 H1 _ I1 (zo n σ1 H1 w1)) fun b s2 ⟨H2,I2,q2⟩=>?_);cases b with
 |true=>
  obtain⟨N,hN,q2⟩:=q2;rw[ak rfl];refine jo hp (bS (hb ae s2 σ1 H2 _ I2 q2) fun f s3 q3=>?_);cases f with
  |next=>
   obtain⟨σ3,H3,I3,n3⟩:=q3;obtain⟨m',hm,w3⟩:=hN σ3 H3 n3;exact⟨m',hm,σ3,H3,I3,w3⟩
  |cont=>
   obtain⟨σ3,H3,I3,n3⟩:=q3;obtain⟨m',hm,w3⟩:=hN σ3 H3 n3;exact⟨m',hm,σ3,H3,I3,w3⟩
  |brk=>exact q3
  |ret v=>exact q3
 |false=>
  rw[ai bT];exact qJ ⟨σ1,H2,I2,q2⟩
end
structure It where
 go:Nat->Hp->Prop
 FF:Nat->Hp->V->Hp->Prop
 stop:Nat->Hp->Prop
def ff(X:Cx)(ae:List (Addr×Obj))(H:Hp)(b:Addr):Prop:=
 H b=none/\b≠X.env.locals/\b∉X.fs/\(b∈X.ex\/X.s₀.heap.objs.size<=b)/\(∀x c,X.env.cells.lookup x=some c->c≠b)/\∀p∈X.pn++ae,p.1≠b
theorem aD.sq(I:aD X ae σ H s)(hb:s.heap.objs.size<=b)(hn:H' b=none):ff X ae H' b:=by
 refine⟨hn,hZ (bX I.lt hb),I.Nr hb,.inr (bn I.sz hb),fun x c e z=>?_,fun p hp z=>?_⟩
 .obtain⟨v,q⟩:=I.cell x c e;exact absurd (bX q.lt (by rw[z];exact hb)) (eQ _)
 .exact absurd (bX (aH (I.pin p hp).1) (by rw[z];exact hb)) (eQ _)
structure o6(P:Program)(w:World)(K:PySem.W.Frag)(tg:Expr)(J:It)(fp:List Addr)(it:Addr)(tn:Nat->Heap->Prop):Prop where
 mem:it∈fp
 obj:∀i h,tn i h->∀b∈fp,∃o,h.get? b=some o/\∀v,o.data≠.cell v
 keep:∀i h h',tn i h->(∀b∈fp,∀o,h.get? b=some o->h'.get? b=some o)->tn i h'
 item:∀ (X:Cx),X.prog=P->X.w=w->X.K=K->X.calm=true->∀ (i:Nat) (ae:List (Addr×Obj)) (s:Shared) (σ:St) (H:Hp) (E:Value->Shared->Prop),aD X ae σ H s->(∀b∈fp,ff X ae H b)->tn i s.heap->J.go i H->
  wpAny (model P w) X.A (pyNext (.ref it)) (fun r s1=>∃u,r=some u/\
   wpAny (model P w) X.A (letOwnedTupleGo tg (.ref it) u) (fun _ s2=>∃x H',aD X ae σ H' s2/\bf x u/\J.FF i H x H'/\tn (i+1) s2.heap/\∀b∈fp,H' b=none) E s1) E s
 done:∀ (X:Cx),X.prog=P->X.w=w->X.K=K->X.calm=true->∀ (i:Nat) (ae:List (Addr×Obj)) (s:Shared) (σ:St) (H:Hp) (E:Value->Shared->Prop),aD X ae σ H s->(∀b∈fp,ff X ae H b)->tn i s.heap->J.stop i H->
  wpAny (model P w) X.A (pyNext (.ref it)) (fun r s1=>r=none/\aD X ae σ H s1) E s
 self:∀ (A:Around) (i:Nat) (s:Shared) (Q:Value->Shared->Prop) (E:Value->Shared->Prop),tn i s.heap->Q (.ref it) s->wpAny (model P w) A (pyIter (.ref it)) Q E s
abbrev TI:=St->Hp->(It->Hp->Prop)->Prop
def RK(X:Cx)(ae:List (Addr×Obj))(σ:St)(tg:Expr)(R:It->Hp->Prop)(ME:Value)(s2:Shared):Prop:=
 ∃ (it:Addr) (fp:List Addr) (tn:Nat->Heap->Prop) (J:It) (H':Hp),ME=.ref it/\aD X ae σ H' s2/\o6 X.prog X.w X.K tg J fp it tn/\tn 0 s2.heap/\(∀b∈fp,ff X ae H' b)/\R J H'
def PI(X:Cx)(tg g8:Expr)(wi:TI):Prop:=
 ∀ (ae:List (Addr×Obj)) (s:Shared) (σ:St) (H:Hp) (R:It->Hp->Prop),aD X ae σ H s->wi σ H R->
  wpAny (model X.prog X.w) X.A (eval g8 X.env) (fun v s1=>wpAny (model X.prog X.w) X.A (pyIter v) (RK X ae σ tg R) X.xe s1) X.xe s
theorem zq(ho:s.heap.get? it=some o)(hc:o.cls=.type n)(hd:o.data=.fields vs)(hn:["enumerate","zip","dict_itemiterator","dict_reverseitemiterator","odict_iterator","itertools.zip_longest","itertools.pairwise"].contains n=false)(hQ:Q () s):wpAny M A (letOwnedTupleGo tg (.ref it) u) Q E s:=by
 unfold letOwnedTupleGo;cases tg <;> first
  |exact wpAny_pure hQ
  |(cases u <;> first
    |exact wpAny_pure hQ
    |(refine aw (wpAny_load ho ?_);rw[hc,hd];show wpAny M A (if (["enumerate","zip","dict_itemiterator","dict_reverseitemiterator","odict_iterator","itertools.zip_longest","itertools.pairwise"].contains n&&vs[0]?==some (rawInt _))=true then _ else _) Q E s;rw[ai (by intro h;rw[hn,Bool.false_and] at h;cases h)];exact wpAny_pure hQ))
def Cf(K:PySem.W.Frag)(a:Addr):It:=
 ⟨fun i H=>∃xs x,a_ K H a xs/\xs[i]?=some x,fun i H x H'=>H'=H/\∀xs,a_ K H a xs->xs[i]?=some x,fun i H=>∃xs,a_ K H a xs/\xs.length<=i⟩
def Jr(K:PySem.W.Frag)(a:Addr):It:=
 ⟨fun i H=>∃xs x,be K H a xs/\xs[i]?=some x,fun i H x H'=>H'=H/\∀xs,be K H a xs->xs[i]?=some x,fun i H=>∃xs,be K H a xs/\xs.length<=i⟩
def Ex(lo:Int)(n:Nat):It:=⟨fun i _=>i<n,fun i H x H'=>H'=H/\x=.int (lo+i),fun i _=>n<=i⟩
theorem xD{P:Program}{w:World}{K:PySem.W.Frag}{tg:Expr}(a it:Addr):o6 P w K tg (Cf K a) [it] it (fun i h=>h.IsListIter it a i) where
 mem:=by simp
 obj:=fun i h st b hb=>by
  have e:b=it:=by simpa using hb
  subst e;obtain⟨o,e,c,d⟩:=st;exact⟨o,e,fun v z=>by rw[d] at z;cases z⟩
 keep:=fun i h h' st k=>st.at fun o e=>k it (by simp) o e
 item:=by
  intro X hP hw hK hc i ae s σ H E I hf st hg;subst hP hw hK;obtain⟨xs,x,hq,hx⟩:=hg;obtain⟨its,rv,p,hz⟩:=I.list hq;obtain⟨u,hu,ru⟩:=rv.get hx;obtain⟨f0,f1,f2,f3,f4,f5⟩:=hf it (by simp);refine wpAny_pyNext_list_item st p.isList (x:=u) (by simpa using hu) fun h' aP sb=>?_;have I1:aD X ae σ H { s with heap:=h' }:=I.turned (t':=s.toks) (fun b o hb e=>(sb.2 b hb).trans e) f0 f1 f3 f4 f5;obtain⟨o,e,c,d⟩:=id aP;exact⟨u,rfl,zq (s:={ s with heap:=h' }) e c d (by decide) ⟨x,H,I1,ru,⟨rfl,fun ys hy=>by rw[I.jX hy hq];exact hx⟩,aP,fun b hb=>(hf b hb).1⟩⟩
 done:=by
  intro X hP hw hK hc i ae s σ H E I hf st hg;subst hP hw hK;obtain⟨xs,hq,hx⟩:=hg;obtain⟨its,rv,p,hz⟩:=I.list hq;obtain⟨f0,f1,f2,f3,f4,f5⟩:=hf it (by simp);have hl:=rv.length;exact wpAny_pyNext_list_end (I.ok.hd hc) st p.isList (by simp;lia) fun h' eb=>⟨rfl,I.turned (t':=s.toks) (fun b o hb e=>eb b o hb e) f0 f1 f3 f4 f5⟩
 self:=fun _ _ _ _ _ st h=>wpAny_pyIter_listiter st h
theorem u7{P:Program}{w:World}{K:PySem.W.Frag}{tg:Expr}(a it:Addr):o6 P w K tg (Jr K a) [it] it (fun i h=>h.IsTupleIter it a i) where
 mem:=by simp
 obj:=fun i h st b hb=>by
  have e:b=it:=by simpa using hb
  subst e;obtain⟨o,e,c,d⟩:=st;exact⟨o,e,fun v z=>by rw[d] at z;cases z⟩
 keep:=fun i h h' st k=>st.at fun o e=>k it (by simp) o e
 item:=by
  intro X hP hw hK hc i ae s σ H E I hf st hg;subst hP hw hK;obtain⟨xs,x,hq,hx⟩:=hg;obtain⟨its,rv,p,hz⟩:=I.tuple hq;obtain⟨u,hu,ru⟩:=rv.get hx;obtain⟨f0,f1,f2,f3,f4,f5⟩:=hf it (by simp);refine wpAny_pyNext_tuple_item st (show s.heap.IsTuple a its.toArray from p) (x:=u) (by simpa using hu) fun h' aP sb=>?_;have I1:aD X ae σ H { s with heap:=h' }:=I.turned (t':=s.toks) (fun b o hb e=>(sb.2 b hb).trans e) f0 f1 f3 f4 f5;obtain⟨o,e,c,d⟩:=id aP;exact⟨u,rfl,zq (s:={ s with heap:=h' }) e c d (by decide) ⟨x,H,I1,ru,⟨rfl,fun ys hy=>by rw[I.dS hy hq];exact hx⟩,aP,fun b hb=>(hf b hb).1⟩⟩
 done:=by
  intro X hP hw hK hc i ae s σ H E I hf st hg;subst hP hw hK;obtain⟨xs,hq,hx⟩:=hg;obtain⟨its,rv,p,hz⟩:=I.tuple hq;obtain⟨f0,f1,f2,f3,f4,f5⟩:=hf it (by simp);have hl:=rv.length;exact wpAny_pyNext_tuple_end (I.ok.hd hc) st (show s.heap.IsTuple a its.toArray from p) (by simp;lia) fun h' eb=>⟨rfl,I.turned (t':=s.toks) (fun b o hb e=>eb b o hb e) f0 f1 f3 f4 f5⟩
 self:=fun _ _ _ _ _ st h=>wpAny_pyIter_tupleiter st h
theorem u8{P:Program}{w:World}{K:PySem.W.Frag}{tg:Expr}(it:Addr)(lo:Int)(n:Nat):o6 P w K tg (Ex lo n) [it] it (fun i h=>IsRangeIter h it (lo+(i:Nat)*1) ((n:Int)-(i:Nat)) 1) where
 mem:=by simp
 obj:=fun i h st b hb=>by
  have e:b=it:=by simpa using hb
  subst e;exact⟨_,st,fun v z=>by
   have z':Data.fields _=Data.cell v:=z;cases z'⟩
 keep:=fun i h h' st k=>k it (by simp) _ st
 item:=by
  intro X hP hw hK hc i ae s σ H E I hf st hg;subst hP hw hK;obtain⟨f0,f1,f2,f3,f4,f5⟩:=hf it (by simp);have W:=Walks.range (prog:=X.prog) (w:=X.w) (I.ok.hd hc) it lo 1 n;refine W.item i s _ _ hg st fun v h' tk hv aP kk=>?_;obtain⟨t,rfl⟩:=hv;have I1:aD X ae σ H { s with heap:=h',toks:=tk }:=I.turned (fun b o hb e=>kk b o (by simpa using hb) e) f0 f1 f3 f4 f5;refine⟨_,rfl,zq (s:={ s with heap:=h',toks:=tk }) (n:="range_iterator") aP rfl rfl (by decide) ⟨.int (lo+i),H,I1,⟨t,?_⟩,⟨rfl,rfl⟩,aP,fun b hb=>(hf b hb).1⟩⟩;rw[Int.mul_one]
 done:=by
  intro X hP hw hK hc i ae s σ H E I hf st hg;subst hP hw hK;obtain⟨f0,f1,f2,f3,f4,f5⟩:=hf it (by simp);exact wpAny_pyNext_range_end (I.ok.hd hc) st (by have:n<=i:=hg;lia) fun h' eb=>⟨rfl,I.turned (t':=s.toks) (fun b o hb e=>eb b o hb e) f0 f1 f3 f4 f5⟩
 self:=fun _ _ _ _ _ st h=>wpAny_pyIter_rangeiter st h
section
variable {X:Cx} {tg:Expr}
def Js(K:PySem.W.Frag)(tl:TE):TI:=fun σ H R=>tl σ H fun x H1=>∃a,x=.ref a/\(∃xs,a_ K H1 a xs)/\R (Cf K a) H1
def NF(K:PySem.W.Frag)(tl:TE):TI:=fun σ H R=>tl σ H fun x H1=>∃a,x=.ref a/\(∃xs,be K H1 a xs)/\R (Jr K a) H1
theorem cX{l:Expr}{tl:TE}(hl:PE X l tl):PI X tg l (Js X.K tl):=by
 intro ae s σ H R I h;refine bS (hl ae s σ H _ I h) fun v s1 ⟨x,H1,I1,r1,q1⟩=>?_;obtain⟨a,e,⟨xs,hq⟩,q⟩:=q1;subst e;cases r1;obtain⟨its,rv,p,hz⟩:=I1.list hq;refine qA p.isList ?_;refine⟨s1.heap.objs.size,[s1.heap.objs.size],_,_,H1,rfl,I1.kept (t':=s1.toks) fun b o e=>bN _ e,xD a _,⟨_,cm _ rfl,rfl,rfl⟩,fun b hb=>?_,q⟩;have e:b=s1.heap.objs.size:=by simpa using hb
 subst e;exact I1.sq (aF _) (I1.bp.fresh (aF _))
theorem k_{l:Expr}{tl:TE}(hl:PE X l tl):PI X tg l (NF X.K tl):=by
 intro ae s σ H R I h;refine bS (hl ae s σ H _ I h) fun v s1 ⟨x,H1,I1,r1,q1⟩=>?_;obtain⟨a,e,⟨xs,hq⟩,q⟩:=q1;subst e;cases r1;obtain⟨its,rv,p,hz⟩:=I1.tuple hq;refine nQ (show s1.heap.IsTuple a its.toArray from p) ?_;refine⟨s1.heap.objs.size,[s1.heap.objs.size],_,_,H1,rfl,I1.kept (t':=s1.toks) fun b o e=>bN _ e,u7 a _,⟨_,cm _ rfl,rfl,rfl⟩,fun b hb=>?_,q⟩;have e:b=s1.heap.objs.size:=by simpa using hb
 subst e;exact I1.sq (aF _) (I1.bp.fresh (aF _))
theorem zu{ae:List (Addr×Obj)}{σ:St}{H:Hp}{s:Shared}{R:It->Hp->Prop}{E:Value->Shared->Prop}{lo hi:Int}{t u v:Tok}{tk:Nat}(I:aD X ae σ H s)(h1:-(2 ^ 62)<=lo)(h2:lo<2 ^ 62)(h3:-(2 ^ 62)<=hi)(h4:hi<2 ^ 62)(q:R (Ex lo (hi-lo).toNat) H):wpAny (model X.prog X.w) X.A (pyIter (.ref s.heap.objs.size)) (RK X ae σ tg R) E { s with heap:=s.heap.push { cls:=.type "range",data:=.fields #[.int lo t,.int hi u,.int 1 v] },toks:=tk }:=by
 refine wpAny_pyIter_range (IsRange.new ..) (small_one h1 h2 h3 h4) ?_;have I1:aD X ae σ H { s with heap:=s.heap.push { cls:=.type "range",data:=.fields #[.int lo t,.int hi u,.int 1 v] },toks:=tk }:=I.kept fun b o e=>bN _ e;refine⟨(s.heap.push { cls:=.type "range",data:=.fields #[.int lo t,.int hi u,.int 1 v] }).objs.size,[(s.heap.push { cls:=.type "range",data:=.fields #[.int lo t,.int hi u,.int 1 v] }).objs.size],_,_,H,rfl,
  I1.kept (t':=tk) fun b o e=>bN _ e,u8 _ lo (hi-lo).toNat,?_,fun b hb=>?_,q⟩
 .have e1:lo+((0:Nat):Int)*1=lo:=by simp
  have e2:(((hi-lo).toNat:Nat):Int)-((0:Nat):Int)=Builtin.Range.rangeSize lo hi 1:=by rw[rangeSize_one];split <;> lia
  show IsRangeIter _ _ (lo+((0:Nat):Int)*1) ((((hi-lo).toNat:Nat):Int)-((0:Nat):Int)) 1;rw[e1,e2];exact cm _ rfl
 .have e:b=(s.heap.push { cls:=.type "range",data:=.fields #[.int lo t,.int hi u,.int 1 v] }).objs.size:=by simpa using hb
  subst e;exact I1.sq (aF _) (I1.bp.fresh (aF _))
def Jt(ta:TA):TI:=fun σ H R=>ta σ H fun vs H1=>∃j:Int,vs=[.int j]/\-(2 ^ 62)<=j/\j<2 ^ 62/\R (Ex 0 j.toNat) H1
theorem cq{a:Expr}{ta:TA}{p pos:Pos}(hg:Gl X "range")(hm:X.mg "range"=none)(ha:PA X [a] ta)(hs:starEach [a] X.env=[(false,eval a X.env)]:=by rfl):PI X tg (.Call (.Name "range" p) [a] [] pos) (Jt ta):=by
 intro ae s σ H R I h;refine Call_ (gl I hg hm boot_range (pz (bS (ha pos ae s σ H _ I h) fun us s1 ⟨vs,H1,I1,r1,q1⟩=>?_) hs rfl));obtain⟨j,e,q1,q2,q⟩:=q1;subst e;cases r1 with
 |cons r rr=>
  cases rr;obtain⟨t,rfl⟩:=r;exact call_range_1 (zu I1 (by lia) (by lia) q1 q2 (by simpa using q))
def NG(wi:TI)(g:TG)(tb:TS):TS:=fun D σ H=>wi σ H fun J H1=>∃W:Nat->Nat->St->Hp->Prop,(∃m,W 0 m σ H1)/\∀i m σ H,W i m σ H->
 (J.stop i H/\D.nx σ H)\/(J.go i H/\∃N:St->Hp->Prop,(∀σ' H',N σ' H'->∃m',m'<m/\W (i+1) m' σ' H')/\∀x H',J.FF i H x H'->g x σ H' fun σ2 H2=>tb { D with nx:=N,ct:=N,bk:=D.nx } σ2 H2)
def oa(fp:List Addr)(h:Heap):List (Addr×Obj):=fp.filterMap fun b=>(h.get? b).map fun o=>(b,o)
theorem gp(hb:b∈fp)(e:h.get? b=some o):(b,o)∈oa fp h:=jg.mpr ⟨b,hb,by rw[e];rfl⟩
theorem xE(hp:p∈oa fp h):p.1∈fp/\h.get? p.1=some p.2:=by
 obtain⟨b,hb,e⟩:=jg.mp hp;cases q:h.get? b with
 |none=>rw[q] at e;cases e
 |some o=>
  rw[q] at e;have e':(b,o)=p:=bA e;subst e';exact⟨hb,q⟩
theorem aD.pinned(I:aD X ae σ H s)(hf:∀b∈fp,ff X ae H b)(ho:∀b∈fp,∃o,s.heap.get? b=some o/\∀v,o.data≠.cell v):aD X (ae++oa fp s.heap) σ H s:=
 I.wb fun p hp=>(dk.mp hp).elim (fun z=>I.pin p (hG _ z)) fun z=>by
  obtain⟨hb,e⟩:=xE z;obtain⟨f0,f1,f2,_⟩:=hf p.1 hb;obtain⟨o,e',d⟩:=ho p.1 hb;rw[e] at e';cases e';exact⟨e,f0,f1,f2,d⟩
theorem aD.jY(I:aD X (ae++pl) σ H s):aD X ae σ H s:=I.wb fun p hp=>I.pin p (hG _ (jP _ hp))
theorem cr(hp:PassesOwn (model X.prog X.w) X.A X.env X.xe)(hc:X.calm=true)(hi:PI X tg g8 wi)(hg:PG X tg g)(hb:ui X body tb)(hs:∀x,foldedSetIterable g8 X.env x=pure x:=by intro _;rfl):PS X (.For tg g8 body [] pos) (NG wi g tb):=by
 intro ae s σ H D I h;refine wpAny_For (bS (hi ae s σ H _ I h) fun v s1 h1=>bS h1 fun ME s2 h2=>?_) hs;obtain⟨it,fp,tn,J,H2,e,I2,T,u9,f2,W,⟨m0,w0⟩,zo⟩:=h2;subst e;have u_:∀ {H':Hp},(∀b∈fp,H' b=none)->∀b∈fp,ff X ae H' b:=fun hn b hb=>⟨hn b hb,(f2 b hb).2⟩
 refine codeAny_forLoop_any (fun n s'=>∃i σ' H',aD X ae σ' H' s'/\tn i s'.heap/\(∀b∈fp,H' b=none)/\W i n σ' H') ?_ m0 ⟨0,σ,H2,I2,u9,fun b hb=>(f2 b hb).1,w0⟩;rintro n s3 ⟨i,σ3,H3,I3,va,FG,w3⟩;rcases zo i n σ3 H3 w3 with ⟨stop,qn⟩|⟨go,N,hN,step⟩
 .refine jo hp (bS (T.done X rfl rfl rfl hc i ae s3 σ3 H3 X.xe I3 (u_ FG) va stop) fun r s4 ⟨hr,I4⟩=>?_);subst hr;exact qJ ⟨σ3,H3,I4,qn⟩
 .refine jo hp (bS (T.item X rfl rfl rfl hc i ae s3 σ3 H3 X.xe I3 (u_ FG) va go) fun r s4 ⟨u,hr,h4⟩=>?_);subst hr;refine jo hp (bS h4 fun _ s5 ⟨x,H5,I5,r5,y5,r9,NH⟩=>?_);have NI:=I5.pinned (u_ NH) (T.obj _ _ r9);refine jo hp (bS (hg _ s5 σ3 H5 x u _ NI r5 (step x H5 y5)) fun _ s6 ⟨σ6,H6,I6,q6⟩=>?_);refine jo hp (bS (hb _ s6 σ6 H6 _ I6 q6) fun f s7 q7=>?_);have again:∀ {σ7:St} {H7:Hp},aD X (ae++oa fp s5.heap) σ7 H7 s7->N σ7 H7->∃m,m<n/\∃i σ' H',aD X ae σ' H' s7/\tn i s7.heap/\(∀b∈fp,H' b=none)/\W i m σ' H':=fun {σ7 H7} I7 n7=>by
   obtain⟨m',hm,w7⟩:=hN σ7 H7 n7;refine⟨m',hm,i+1,σ7,H7,I7.jY,T.keep _ _ _ r9 fun b hb o e=>(I7.pin (b,o) (hG _ (hG _ (gp hb e)))).1,fun b hb=>?_,w7⟩;obtain⟨o,e,d⟩:=T.obj _ _ r9 b hb;exact(I7.pin (b,o) (hG _ (hG _ (gp hb e)))).2.1
  cases f with
  |next=>obtain⟨σ7,H7,I7,n7⟩:=q7;exact again I7 n7
  |cont=>obtain⟨σ7,H7,I7,n7⟩:=q7;exact again I7 n7
  |brk=>obtain⟨σ7,H7,I7,q7⟩:=q7;exact⟨σ7,H7,I7.jY,q7⟩
  |ret v=>obtain⟨x7,σ7,H7,I7,r7,q7⟩:=q7;exact⟨x7,σ7,H7,I7.jY,r7,q7⟩
end
theorem jZ{K:PySem.W.Frag}{a:Addr}{xs:List V}{g:TG}{tb:TS}{D:sk}{σ:St}{H:Hp}(Pv:Nat->St->Hp->Prop)(h0:Pv 0 σ H)(hl:∀i σ H,i<=xs.length->Pv i σ H->a_ K H a xs)(hs:∀i x σ H,xs[i]?=some x->Pv i σ H->g x σ H fun σ2 H2=>tb { D with nx:=Pv (i+1),ct:=Pv (i+1),bk:=D.nx } σ2 H2)(hd:∀σ H,Pv xs.length σ H->D.nx σ H):
  ∃W:Nat->Nat->St->Hp->Prop,(∃m,W 0 m σ H)/\∀i m σ H,W i m σ H->
   ((Cf K a).stop i H/\D.nx σ H)\/((Cf K a).go i H/\∃N:St->Hp->Prop,(∀σ' H',N σ' H'->∃m',m'<m/\W (i+1) m' σ' H')/\∀x H',(Cf K a).FF i H x H'->g x σ H' fun σ2 H2=>tb { D with nx:=N,ct:=N,bk:=D.nx } σ2 H2):=by
 refine⟨fun i m σ H=>m=xs.length-i/\i<=xs.length/\Pv i σ H,⟨xs.length,by simp,cE _,h0⟩,?_⟩;rintro i m σ H ⟨rfl,hi,p⟩;have q:=hl i σ H hi p;by_cases de:i<xs.length
 .refine .inr ⟨⟨xs,xs[i],q,by simp[de]⟩,Pv (i+1),fun σ' H' p'=>⟨xs.length-(i+1),by lia,rfl,de,p'⟩,fun x H' y=>?_⟩;obtain⟨e,y⟩:=y;subst e;exact hs i x σ _ (y xs q) p
 .have e:i=xs.length:=by lia
  subst e;exact .inl ⟨⟨xs,q,aF _⟩,hd σ H p⟩
theorem iR{K:PySem.W.Frag}{a:Addr}{xs:List V}{g:TG}{tb:TS}{D:sk}{σ:St}{H:Hp}(Pv:Nat->St->Hp->Prop)(h0:Pv 0 σ H)(hl:∀i σ H,i<=xs.length->Pv i σ H->be K H a xs)(hs:∀i x σ H,xs[i]?=some x->Pv i σ H->g x σ H fun σ2 H2=>tb { D with nx:=Pv (i+1),ct:=Pv (i+1),bk:=D.nx } σ2 H2)(hd:∀σ H,Pv xs.length σ H->D.nx σ H):
  ∃W:Nat->Nat->St->Hp->Prop,(∃m,W 0 m σ H)/\∀i m σ H,W i m σ H->
   ((Jr K a).stop i H/\D.nx σ H)\/((Jr K a).go i H/\∃N:St->Hp->Prop,(∀σ' H',N σ' H'->∃m',m'<m/\W (i+1) m' σ' H')/\∀x H',(Jr K a).FF i H x H'->g x σ H' fun σ2 H2=>tb { D with nx:=N,ct:=N,bk:=D.nx } σ2 H2):=by
 refine⟨fun i m σ H=>m=xs.length-i/\i<=xs.length/\Pv i σ H,⟨xs.length,by simp,cE _,h0⟩,?_⟩;rintro i m σ H ⟨rfl,hi,p⟩;have q:=hl i σ H hi p;by_cases de:i<xs.length
 .refine .inr ⟨⟨xs,xs[i],q,by simp[de]⟩,Pv (i+1),fun σ' H' p'=>⟨xs.length-(i+1),by lia,rfl,de,p'⟩,fun x H' y=>?_⟩;obtain⟨e,y⟩:=y;subst e;exact hs i x σ _ (y xs q) p
 .have e:i=xs.length:=by lia
  subst e;exact .inl ⟨⟨xs,q,aF _⟩,hd σ H p⟩
theorem dz{lo:Int}{n:Nat}{g:TG}{tb:TS}{D:sk}{σ:St}{H:Hp}(Pv:Nat->St->Hp->Prop)(h0:Pv 0 σ H)(hs:∀i σ H,i<n->Pv i σ H->g (.int (lo+i)) σ H fun σ2 H2=>tb { D with nx:=Pv (i+1),ct:=Pv (i+1),bk:=D.nx } σ2 H2)(hd:∀σ H,Pv n σ H->D.nx σ H):
  ∃W:Nat->Nat->St->Hp->Prop,(∃m,W 0 m σ H)/\∀i m σ H,W i m σ H->
   ((Ex lo n).stop i H/\D.nx σ H)\/((Ex lo n).go i H/\∃N:St->Hp->Prop,(∀σ' H',N σ' H'->∃m',m'<m/\W (i+1) m' σ' H')/\∀x H',(Ex lo n).FF i H x H'->g x σ H' fun σ2 H2=>tb { D with nx:=N,ct:=N,bk:=D.nx } σ2 H2):=by
 refine⟨fun i m σ H=>m=n-i/\i<=n/\Pv i σ H,⟨n,by simp,cE _,h0⟩,?_⟩;rintro i m σ H ⟨rfl,hi,p⟩;by_cases de:i<n
 .refine .inr ⟨de,Pv (i+1),fun σ' H' p'=>⟨n-(i+1),by lia,rfl,de,p'⟩,fun x H' y=>?_⟩;obtain⟨e,y⟩:=y;subst e y;exact hs i σ _ de p
 .have e:i=n:=by lia
  subst e;exact .inl ⟨aF _,hd σ H p⟩
theorem zw(Pv:St->Hp->Prop)(μ:St->Hp->Nat)(h0:Pv σ H)(hs:∀σ H,Pv σ H->c σ H fun b H1=>if b=true then tb { D with nx:=fun σ' H'=>Pv σ' H'/\μ σ' H'<μ σ H,ct:=fun σ' H'=>Pv σ' H'/\μ σ' H'<μ σ H,bk:=D.nx } σ H1 else D.nx σ H1)(mono:∀σ H Q Q',(∀b H1,Q b H1->Q' b H1)->c σ H Q->c σ H Q'):zn c tb D σ H:=by
 refine⟨fun m σ H=>m=μ σ H/\Pv σ H,⟨_,rfl,h0⟩,?_⟩;rintro m σ H ⟨rfl,p⟩;refine mono σ H _ _ (fun b H1 q=>?_) (hs σ H p);cases b with
 |true=>exact⟨_,fun σ' H' ⟨p',l⟩=>⟨_,l,rfl,p'⟩,q⟩
 |false=>exact q
abbrev R2:=V->V->Hp->VK->Prop
def kI(X:Cx)(f:Value->Value->Sem Value)(r:R2):Prop:=
 ∀ (ae:List (Addr×Obj)) (s:Shared) (σ:St) (H:Hp) (x y:V) (v u:Value) (Q:VK),aD X ae σ H s->bf x v->bf y u->r x y H Q->
  wpAny (model X.prog X.w) X.A (f v u) (EP X ae σ Q) X.xe s
def NJ(X:Cx)(f:Value->Sem Value)(r:V->Hp->VK->Prop):Prop:=
 ∀ (ae:List (Addr×Obj)) (s:Shared) (σ:St) (H:Hp) (x:V) (v:Value) (Q:VK),aD X ae σ H s->bf x v->r x H Q->
  wpAny (model X.prog X.w) X.A (f v) (EP X ae σ Q) X.xe s
def fu(X:Cx)(f:Value)(r:List V->Hp->VK->Prop):Prop:=
 ∀ (ae:List (Addr×Obj)) (s:Shared) (σ:St) (H:Hp) (xs:List V) (us:List Value) (Q:VK),aD X ae σ H s->aZ xs us->r xs H Q->
  wpAny (model X.prog X.w) X.A (call f us) (EP X ae σ Q) X.xe s
def NK(X:Cx)(r:V->Hp->(Bool->Hp->Prop)->Prop):Prop:=
 ∀ (ae:List (Addr×Obj)) (s:Shared) (σ:St) (H:Hp) (x:V) (v:Value) (Q:Bool->Hp->Prop),aD X ae σ H s->bf x v->r x H Q->
  wpAny (model X.prog X.w) X.A (truthy v) (TP X ae σ Q) X.xe s
def pG(r:R2)(ta tb:TE):TE:=fun σ H Q=>ta σ H fun x H1=>tb σ H1 fun y H2=>r x y H2 Q
def TZ(r:V->Hp->VK->Prop)(ta:TE):TE:=fun σ H Q=>ta σ H fun x H1=>r x H1 Q
def rI(C:Int->Int->Prop)(g:Int->Int->V):R2:=fun x y H Q=>∃i j,x=.int i/\y=.int j/\C i j/\Q (g i j) H
def Ey(g:Int->Int->V):R2:=fun x y H Q=>∃i j,x=.int i/\y=.int j/\Q (g i j) H
def rU(g:Int->V):V->Hp->VK->Prop:=fun x H Q=>∃i,x=.int i/\Q (g i) H
section
variable {X:Cx} {a b c:Expr} {ta tb tc:TE} {pos:Pos}
theorem FH(ha:PE X a ta)(hb:PE X b tb){ae:List (Addr×Obj)}{s:Shared}{σ:St}{H:Hp}{R:V->V->Hp->Prop}(I:aD X ae σ H s)(h:ta σ H fun x H1=>tb σ H1 fun y H2=>R x y H2){Q:Value->Shared->Prop}{f:Value->Value->Sem Value}(hf:∀v u s2 x y H2,aD X ae σ H2 s2->bf x v->bf y u->R x y H2->wpAny (model X.prog X.w) X.A (f v u) Q X.xe s2):
  wpAny (model X.prog X.w) X.A (eval a X.env) (fun v s₁=>wpAny (model X.prog X.w) X.A (eval b X.env) (fun u s₂=>wpAny (model X.prog X.w) X.A (f v u) Q X.xe s₂) X.xe s₁) X.xe s:=by
 refine bS (ha ae s σ H _ I h) fun v s1 ⟨x,H1,I1,r1,q1⟩=>?_;refine bS (hb ae s1 σ H1 _ I1 q1) fun u s2 ⟨y,H2,I2,r2,q2⟩=>?_;exact hf v u s2 x y H2 I2 r1 r2 q2
theorem aX{op:Operator}{r:R2}(ho:kI X (binaryOp op) r)(ha:PE X a ta)(hb:PE X b tb):PE X (.BinOp a op b pos) (pG r ta tb):=by
 intro ae s σ H Q I h;exact wpAny_BinOp (FH ha hb I h fun v u s2 x y H2 I2 rx ry q=>ho ae s2 σ H2 x y v u Q I2 rx ry q)
theorem pH(ho:NJ X (unaryOp op) r)(ha:PE X a ta):PE X (.UnaryOp op a pos) (TZ r ta):=by
 intro ae s σ H Q I h;exact UnaryOp_ (bS (ha ae s σ H _ I h) fun v s1 ⟨x,H1,I1,r1,q1⟩=>ho ae s1 σ H1 x v Q I1 r1 q1)
theorem Ju{f:Value->Value->Sem Value}{C:Int->Int->Prop}{g:Int->Int->Int}(rule:∀ (i j:Int) (t u:Tok) (s:Shared) (Q:Value->Shared->Prop) (E:Value->Shared->Prop),C i j->Q (.int (g i j) s.toks) { s with toks:=s.toks+1 }->wpAny (model X.prog X.w) X.A (f (.int i t) (.int j u)) Q E s):
  kI X f (rI C fun i j=>.int (g i j)):=by
 intro ae s σ H x y v u Q I rx ry h;obtain⟨i,j,rfl,rfl,hc,q⟩:=h;obtain⟨t,rfl⟩:=rx;obtain⟨t',rfl⟩:=ry;exact rule i j t t' s _ _ hc ⟨.int (g i j),H,I.tok _,⟨_,rfl⟩,q⟩
theorem Jv{f:Value->Value->Sem Value}{g:Int->Int->Int}(rule:∀ (i j:Int) (t u:Tok) (s:Shared) (Q:Value->Shared->Prop) (E:Value->Shared->Prop),Q (.int (g i j) s.toks) { s with toks:=s.toks+1 }->wpAny (model X.prog X.w) X.A (f (.int i t) (.int j u)) Q E s):
  kI X f (Ey fun i j=>.int (g i j)):=by
 intro ae s σ H x y v u Q I rx ry h;obtain⟨i,j,rfl,rfl,q⟩:=h;obtain⟨t,rfl⟩:=rx;obtain⟨t',rfl⟩:=ry;exact rule i j t t' s _ _ ⟨.int (g i j),H,I.tok _,⟨_,rfl⟩,q⟩
theorem Cg{f:Value->Value->Sem Value}{g:Int->Int->Bool}(rule:∀ (i j:Int) (t u:Tok) (s:Shared) (Q:Value->Shared->Prop) (E:Value->Shared->Prop),Q (.bool (g i j)) s->wpAny (model X.prog X.w) X.A (f (.int i t) (.int j u)) Q E s):
  kI X f (Ey fun i j=>.bl (g i j)):=by
 intro ae s σ H x y v u Q I rx ry h;obtain⟨i,j,rfl,rfl,q⟩:=h;obtain⟨t,rfl⟩:=rx;obtain⟨t',rfl⟩:=ry;exact rule i j t t' s _ _ ⟨.bl (g i j),H,I,rfl,q⟩
def FI(i j:Int):Prop:=0<j/\j<1073741824
def NL(i j:Int):Prop:=0<=j/\j<=1000000/\i.natAbs<2 ^ 64
def Ch(i j:Int):Prop:=(-(2 ^ 64)<i/\i<2 ^ 64)\/(-(2 ^ 64)<j/\j<2 ^ 64)
theorem Ch.ok(h:Ch i j):IntMulOk i j:=by
 rcases h with ⟨h1,h2⟩|⟨h1,h2⟩
 .exact .of_left (intBits_le_64 h1 h2)
 .exact .of_right (intBits_le_64 h1 h2)
theorem et:kI X (binaryOp .Add) (Ey fun i j=>.int (i+j)):=Jv fun _ _ _ _ _ _ _ q=>add_int q
theorem lf:kI X (binaryOp .Sub) (Ey fun i j=>.int (i-j)):=Jv fun _ _ _ _ _ _ _ q=>sub_int q
theorem eA:kI X (binaryOp .Mult) (rI Ch fun i j=>.int (i*j)):=Ju fun _ _ _ _ _ _ _ hc q=>mul_int q hc.ok
theorem iS:kI X (binaryOp .FloorDiv) (rI FI fun i j=>.int (i / j)):=Ju fun i j _ _ _ _ _ hc q=>by
 have h1:(0:Int)<j:=hc.1;have h2:j<1073741824:=hc.2;exact floordiv_int (by lia) (by rw[zc i (by lia)];exact q) (.inl (PyProof.noPylong_small (by lia)))
theorem dU:kI X (binaryOp .Mod) (rI (fun _ j=>0<j) fun i j=>.int (i % j)):=Ju fun i j _ _ _ _ _ hc q=>by
 have h1:(0:Int)<j:=hc;exact mod_int' (by lia) (by rw[y_ i (by lia)];exact q)
theorem FJ:kI X (binaryOp .Pow) (rI NL fun i j=>.int (i ^ j.toNat)):=Ju fun _ _ _ _ _ _ _ hc q=>pow_int_small hc.1 hc.2.1 hc.2.2 q
theorem zx:kI X (inplaceOp .FloorDiv) (rI FI fun i j=>.int (i / j)):=Ju fun i j _ _ _ _ _ hc q=>by
 have h1:(0:Int)<j:=hc.1;have h2:j<1073741824:=hc.2;exact ifloordiv_int (by lia) (by rw[zc i (by lia)];exact q) (.inl (PyProof.noPylong_small (by lia)))
theorem T4{f:Value->Sem Value}{g:Int->Int}(rule:∀ (i:Int) (t:Tok) (s:Shared) (Q:Value->Shared->Prop) (E:Value->Shared->Prop),Q (.int (g i) s.toks) { s with toks:=s.toks+1 }->wpAny (model X.prog X.w) X.A (f (.int i t)) Q E s):
  NJ X f (rU fun i=>.int (g i)):=by
 intro ae s σ H x v Q I rx h;obtain⟨i,rfl,q⟩:=h;obtain⟨t,rfl⟩:=rx;exact rule i t s _ _ ⟨.int (g i),H,I.tok _,⟨_,rfl⟩,q⟩
theorem lj:NJ X (unaryOp .USub) (rU fun i=>.int (-i)):=T4 fun _ _ _ _ _ q=>neg_int q
end
def Ci:V->V->Bool
 |.bD,.bD=>true|.bD,.int _=>true|.int _,.bD=>true|.bD,.bl _=>true|.bl _,.bD=>true|.bD,.str _=>true|.str _,.bD=>true
 |.int _,.int _=>true|.bl _,.bl _=>true|.str _,.str _=>true|.wa _,.wa _=>true
 |.int _,.str _=>true|.str _,.int _=>true|.bl _,.str _=>true|.str _,.bl _=>true
 |_,_=>false
def Jw:R2:=fun x y H Q=>Ci x y=true/\Q (.bl (decide (x=y))) H
def T5:R2:=fun x y H Q=>Ci x y=true/\Q (.bl (!decide (x=y))) H
theorem we:decide (V.int i=V.int j)=(i==j):=by
 rw[hX];simp
theorem zy:decide (V.bl i=V.bl j)=(i==j):=by
 rw[hX];simp
theorem wf:decide (V.str i=V.str j)=(i==j):=by
 rw[hX];simp
theorem wg:decide (V.wa i=V.wa j)=(i.toList==j.toList):=by
 rw[hX];cases i;cases j;simp
section
variable {X:Cx} {a b c:Expr} {ta tb tc:TE} {pos:Pos}
theorem bj(I:aD X ae σ H s)(q:Q (.bl k) H)(e:k=k'):EP X ae σ Q (.bool k') s:=by
 subst e;exact⟨.bl k,H,I,rfl,q⟩
theorem j3:kI X (compareOp .Eq) Jw:=by
 intro ae s σ H x y v u Q I rx ry h;obtain⟨hs,q⟩:=h;cases x with
 |bD=>
  cases rx;cases y with
  |bD=>cases ry;exact PySem.EqNone.eq_none_none (bj I q (by simp))
  |bl j=>cases ry;exact PySem.EqNone.eq_none_bool (bj I q (by simp))
  |int j=>obtain⟨t',rfl⟩:=ry;exact PySem.EqNone.eq_none_int (bj I q (by simp))
  |str j=>obtain⟨t',rfl⟩:=ry;exact PySem.EqNone.eq_none_str (bj I q (by simp))
  |_=>exact absurd (show false=true from hs) bT
 |bl i=>
  cases rx;cases y with
  |bD=>cases ry;exact PySem.EqNone.eq_bool_none (bj I q (by simp))
  |bl j=>cases ry;exact eq_bool (bj I q zy)
  |str j=>obtain⟨t',rfl⟩:=ry;exact PySem.EqMixed.eq_bool_str (bj I q (by simp))
  |_=>exact absurd (show false=true from hs) bT
 |int i=>
  obtain⟨t,rfl⟩:=rx;cases y with
  |bD=>cases ry;exact PySem.EqNone.eq_int_none (bj I q (by simp))
  |int j=>obtain⟨t',rfl⟩:=ry;exact eq_int (bj I q we)
  |str j=>obtain⟨t',rfl⟩:=ry;exact PySem.EqMixed.eq_int_str (bj I q (by simp))
  |_=>exact absurd (show false=true from hs) bT
 |str i=>
  obtain⟨t,rfl⟩:=rx;cases y with
  |bD=>cases ry;exact PySem.EqNone.eq_str_none (bj I q (by simp))
  |bl j=>cases ry;exact PySem.EqMixed.eq_str_bool (bj I q (by simp))
  |int j=>obtain⟨t',rfl⟩:=ry;exact PySem.EqMixed.eq_str_int (bj I q (by simp))
  |str j=>obtain⟨t',rfl⟩:=ry;exact eq_str (bj I q wf)
  |_=>exact absurd (show false=true from hs) bT
 |wa i=>
  obtain⟨t,rfl⟩:=rx;cases y with
  |wa j=>obtain⟨t',rfl⟩:=ry;exact PySem.W.eq_bytes (bj I q wg)
  |_=>exact absurd (show false=true from hs) bT
 |_=>cases y <;> exact absurd (show false=true from hs) bT
theorem sv:kI X (compareOp .NotEq) T5:=by
 intro ae s σ H x y v u Q I rx ry h;obtain⟨hs,q⟩:=h;cases x with
 |bD=>
  cases rx;cases y with
  |bD=>cases ry;exact PySem.EqNone.ne_none_none (bj I q (by simp))
  |bl j=>cases ry;exact PySem.EqNone.ne_none_bool (bj I q (by simp))
  |int j=>obtain⟨t',rfl⟩:=ry;exact PySem.EqNone.ne_none_int (bj I q (by simp))
  |str j=>obtain⟨t',rfl⟩:=ry;exact PySem.EqNone.ne_none_str (bj I q (by simp))
  |_=>exact absurd (show false=true from hs) bT
 |bl i=>
  cases rx;cases y with
  |bD=>cases ry;exact PySem.EqNone.ne_bool_none (bj I q (by simp))
  |bl j=>cases ry;exact ne_bool (bj I q (congrArg not zy))
  |str j=>obtain⟨t',rfl⟩:=ry;exact PySem.EqMixed.ne_bool_str (bj I q (by simp))
  |_=>exact absurd (show false=true from hs) bT
 |int i=>
  obtain⟨t,rfl⟩:=rx;cases y with
  |bD=>cases ry;exact PySem.EqNone.ne_int_none (bj I q (by simp))
  |int j=>obtain⟨t',rfl⟩:=ry;exact ne_int (bj I q (congrArg not we))
  |str j=>obtain⟨t',rfl⟩:=ry;exact PySem.EqMixed.ne_int_str (bj I q (by simp))
  |_=>exact absurd (show false=true from hs) bT
 |str i=>
  obtain⟨t,rfl⟩:=rx;cases y with
  |bD=>cases ry;exact PySem.EqNone.ne_str_none (bj I q (by simp))
  |bl j=>cases ry;exact PySem.EqMixed.ne_str_bool (bj I q (by simp))
  |int j=>obtain⟨t',rfl⟩:=ry;exact PySem.EqMixed.ne_str_int (bj I q (by simp))
  |str j=>obtain⟨t',rfl⟩:=ry;exact ne_str (bj I q (congrArg not wf))
  |_=>exact absurd (show false=true from hs) bT
 |wa i=>
  obtain⟨t,rfl⟩:=rx;cases y with
  |wa j=>obtain⟨t',rfl⟩:=ry;exact PySem.W.ne_bytes (bj I q (congrArg not wg))
  |_=>exact absurd (show false=true from hs) bT
 |_=>cases y <;> exact absurd (show false=true from hs) bT
theorem og:kI X (compareOp .Lt) (Ey fun i j=>.bl (decide (i<j))):=Cg fun _ _ _ _ _ _ _ q=>lt_int q
theorem Ez:kI X (compareOp .LtE) (Ey fun i j=>.bl (decide (i<=j))):=Cg fun _ _ _ _ _ _ _ q=>le_int q
theorem pI:kI X (compareOp .Gt) (Ey fun i j=>.bl (decide (j<i))):=Cg fun _ _ _ _ _ _ _ q=>gt_int q
theorem Jx:kI X (compareOp .GtE) (Ey fun i j=>.bl (decide (j<=i))):=Cg fun _ _ _ _ _ _ _ q=>ge_int q
theorem zA:kI X (compareOp .Is) (fun x y H Q=>y=.bD/\Q (.bl (decide (x=.bD))) H):=by
 intro ae s σ H x y v u Q I rx ry h;obtain⟨rfl,q⟩:=h;cases ry;refine is_none_gen (bj I q ?_);cases x <;> first
  |(cases rx;rfl)
  |(obtain⟨t,rfl⟩:=rx;rfl)
theorem mR:kI X (compareOp .IsNot) (fun x y H Q=>y=.bD/\Q (.bl (!decide (x=.bD))) H):=by
 intro ae s σ H x y v u Q I rx ry h;obtain⟨rfl,q⟩:=h;cases ry;refine isnot_none_gen (bj I q ?_);cases x <;> first
  |(cases rx;rfl)
  |(obtain⟨t,rfl⟩:=rx;rfl)
theorem aT(b:Expr)(h:op≠.In:=by decide)(h2:op≠.NotIn:=by decide):behindInMarks op b=false:=by
 have e1:(op==CmpOp.In)=false:=by cases op <;> first|rfl|exact absurd rfl h
 have e2:(op==CmpOp.NotIn)=false:=by cases op <;> first|rfl|exact absurd rfl h2
 cases b <;> simp[behindInMarks,e1,e2]
theorem gs(ho:kI X (compareOp op) r)(ha:PE X a ta)(hb:PE X b tb)(hm:behindInMarks op b=false):PE X (.Compare a [op] [b] pos) (pG r ta tb):=by
 intro ae s σ H Q I h;exact wpAny_Compare1 (FH ha hb I h fun v u s2 x y H2 I2 rx ry q=>ho ae s2 σ H2 x y v u Q I2 rx ry q) hm
def oh(t:TE):TT:=fun σ H Q=>t σ H fun x H'=>∃k,x=.bl k/\Q k H'
theorem aO(ho:kI X (compareOp op) r)(ha:PE X a ta)(hb:PE X b tb)(hm:behindInMarks op b=false):PT X (.Compare a [op] [b] pos) (oh (pG r ta tb)):=by
 intro ae s σ H Q I h;refine wpAny_isTrue_Compare1 (bS (ha ae s σ H _ I h) fun v s1 ⟨x,H1,I1,r1,q1⟩=>bS (hb ae s1 σ H1 _ I1 q1) fun u s2 ⟨y,H2,I2,r2,q2⟩=>
  bS (ho ae s2 σ H2 x y v u _ I2 r1 r2 q2) fun c s3 ⟨z,H3,I3,r3,k,e,q3⟩=>?_) hm
 subst e;cases r3;exact jj ⟨H3,I3,q3⟩
def FK(r r':R2)(ta tb tc:TE):TE:=fun σ H Q=>ta σ H fun x H1=>tb σ H1 fun y H2=>r x y H2 fun z H3=>∃k,z=.bl k/\
 (if k=true then tc σ H3 fun w' H4=>r' y w' H4 Q else Q (.bl false) H3)
theorem zB(ho:kI X (compareOp op) r)(si:kI X (compareOp RL) r')(ha:PE X a ta)(hb:PE X b tb)(hc:PE X c tc)(hm:lastMarks [op,RL] [b,c]=false:=by with_unfolding_all rfl):PE X (.Compare a [op,RL] [b,c] pos) (FK r r' ta tb tc):=by
 intro ae s σ H Q I h;refine Compare_chain (bS (ha ae s σ H _ I h) fun v s1 ⟨x,H1,I1,r1,q1⟩=>chain_link (bS (hb ae s1 σ H1 _ I1 q1) fun u s2 ⟨y,H2,I2,r2,q2⟩=>
  bS (ho ae s2 σ H2 x y v u _ I2 r1 r2 q2) fun d s3 ⟨z,H3,I3,r3,k,e,q3⟩=>?_)) hm
 subst e;cases r3;refine jj ?_;cases k with
 |false=>exact ite_ff ⟨.bl false,H3,I3,rfl,q3⟩
 |true=>exact ite_tt (chain_last (bS (hc ae s3 σ H3 _ I3 q3) fun w' s4 ⟨z',H4,I4,r4,q4⟩=>si ae s4 σ H4 y z' u w' Q I4 r2 r4 q4))
def Jy(K:PySem.W.Frag)(x:V)(H:Hp)(k:Bool):Prop:=
 match x with
 |.bD=>k=false
 |.bl b=>k=b
 |.int i=>k=(i != 0)
 |.str y=>y.length<=sizeLine/\k=((y.length:Int) != 0)
 |.wa y=>y.size<=sizeLine/\k=((y.size:Int) != 0)
 |.ref p=>(∃xs,a_ K H p xs/\k=!xs.isEmpty)\/(∃xs,be K H p xs/\k=!xs.isEmpty)\/∃a8,H p=some (.dK a8)/\k=!a8.isEmpty
 |_=>False
theorem vb{κ:Type}{a8:List (κ×V)}{vs:List (κ×Value)}(r:KV a8 vs):(!vs.isEmpty)=!a8.isEmpty:=by
 cases r <;> rfl
theorem oj{xs:List V}{its:List Value}(r:aZ xs its):(!its.toArray.isEmpty)=!xs.isEmpty:=by
 cases r <;> simp
theorem lm:(sizeLine:Nat)<2 ^ 63:=by rw[im];decide
theorem FL:NK X (fun x H Q=>∃k,Jy X.K x H k/\Q k H):=by
 intro ae s σ H x v Q I rx h;obtain⟨k,e,q⟩:=h;have hl:=lm;have hs:sizeLine=16777216:=im;cases x with
 |bD=>
  cases rx;have e':k=false:=e;subst e';exact truthy_none ⟨H,I,q⟩
 |bl b=>
  cases rx;have e':k=b:=e;subst e';exact jj ⟨H,I,q⟩
 |int i=>
  obtain⟨t,rfl⟩:=rx;have e':k=(i != 0):=e;subst e';exact PySem.P.truthy_int ⟨H,I,q⟩
 |str y=>
  obtain⟨t,rfl⟩:=rx;obtain⟨hy,e'⟩:y.length<=sizeLine/\k=((y.length:Int) != 0):=e;subst e';exact PySem.P.truthy_str (by lia) ⟨H,I.tok _,q⟩
 |wa y=>
  obtain⟨t,rfl⟩:=rx;obtain⟨hy,e'⟩:y.size<=sizeLine/\k=((y.size:Int) != 0):=e;subst e';exact PySem.W.truthy_bytes (by lia) ⟨H,I.tok _,q⟩
 |ref p=>
  cases rx;have e':(∃xs,a_ X.K H p xs/\k=!xs.isEmpty)\/(∃xs,be X.K H p xs/\k=!xs.isEmpty)\/∃a8,H p=some (.dK a8)/\k=!a8.isEmpty:=e;rcases e' with ⟨xs,hx,e'⟩|⟨xs,hx,e'⟩|⟨a8,hx,e'⟩
  .subst e';obtain⟨its,r,pl,hz⟩:=I.list hx;have dq:=r.length;exact wpAny_truthy_list pl.isList (by simp only[cw];lia) ⟨H,I.tok _,by rw[oj r];exact q⟩
  .subst e';obtain⟨its,r,pl,hz⟩:=I.tuple hx;have dq:=r.length;exact truthy_tuple pl (by simp only[cw];lia) ⟨H,I.tok _,by rw[oj r];exact q⟩
  .subst e';obtain⟨hz,hS,vs,r,m⟩:a8.length<=sizeLine/\(p==sysModules)=false/\∃vs,KV a8 vs/\s.heap.DictOf (cH X.prog X.w) p vs:=I.bp p _ hx;have dq:a8.length=vs.length:=Paired.length r;exact wpAny_truthy_dict hS m (by lia) ⟨H,I.tok _,by rw[vb r];exact q⟩
 |_=>exact(show False from e).elim
theorem zC(ha:PE X a ta)(he:∀n5,isTrue a X.env n5=(do let v <- n5;standAt a.pos;holding [v] (truthy v))):
  PT X a (fun σ H Q=>ta σ H fun x H'=>∃k,Jy X.K x H' k/\Q k H'):=by
 intro ae s σ H Q I h;exact isTrue_plain (bS (ha ae s σ H _ I h) fun v s1 ⟨x,H1,I1,r1,q1⟩=>FL ae s1 σ H1 x v Q I1 r1 q1) (he _)
theorem sw(r:aZ [x] us):∃u,us=[u]/\bf x u:=by
 cases r with
 |cons r1 r2=>cases r2;exact⟨_,rfl,r1⟩
theorem EA(r:aZ [x,y] us):∃u w',us=[u,w']/\bf x u/\bf y w':=by
 cases r with
 |cons r1 r2=>
  cases r2 with
  |cons r3 r4=>cases r4;exact⟨_,_,rfl,r1,r3⟩
theorem xF(hc:X.calm=true):fu X (.builtin "max") (fun xs H Q=>∃i j,xs=[.int i,.int j]/\Q (.int (if j > i then j else i)) H):=by
 intro ae s σ H xs us Q I r h;obtain⟨i,j,rfl,q⟩:=h;obtain⟨u,w',rfl,⟨t,rfl⟩,⟨t',rfl⟩⟩:=EA r;refine max_two_ints (I.ok.hd hc) fun h' tk k=>⟨_,H,I.kept k,?_,q⟩
 by_cases hj:j > i
 .rw[ak hj,ak hj];exact⟨_,rfl⟩
 .rw[ai hj,ai hj];exact⟨_,rfl⟩
theorem pJ(hc:X.calm=true):fu X (.builtin "min") (fun xs H Q=>∃i j,xs=[.int i,.int j]/\Q (.int (if j<i then j else i)) H):=by
 intro ae s σ H xs us Q I r h;obtain⟨i,j,rfl,q⟩:=h;obtain⟨u,w',rfl,⟨t,rfl⟩,⟨t',rfl⟩⟩:=EA r;refine min_two_ints (I.ok.hd hc) fun h' tk k=>⟨_,H,I.kept k,?_,q⟩
 by_cases hj:j<i
 .rw[ak hj,ak hj];exact⟨_,rfl⟩
 .rw[ai hj,ai hj];exact⟨_,rfl⟩
theorem lq:fu X (.type "int") (fun xs H Q=>(∃i,xs=[.int i]/\Q (.int i) H)\/∃k,xs=[.bl k]/\Q (.int (if k then 1 else 0)) H):=by
 intro ae s σ H xs us Q I r h;rcases h with ⟨i,rfl,q⟩|⟨k,rfl,q⟩
 .obtain⟨u,rfl,t,rfl⟩:=sw r;exact call_int_int ⟨.int i,H,I,⟨_,rfl⟩,q⟩
 .obtain⟨u,rfl,r1⟩:=sw r;cases r1;exact call_int_bool ⟨.int (if k then 1 else 0),H,I.tok _,⟨_,rfl⟩,q⟩
end
structure vc(h:Heap)(x dx C:Addr)(mA:Str->Option Value):Prop where
 obj:h.get? x=some (PySem.W.instObj C dx)
 ns:h.Ns1 dx mA
 ne:dx≠x
theorem xG{h:Heap}{dx:Addr}{mA:Str->Option Value}(n:h.Ns1 dx mA):∃od,h.get? dx=some od/\∀name,PySem.W.lookIn name od=some (mA name):=by
 obtain⟨o,es,ep,ho,hd,hk,_,hm⟩:=n;refine⟨o,ho,fun name=>?_⟩;have e:=hm name;unfold nsFind findBy at e;rw[<-Array.find?_toList] at e;unfold PySem.W.lookIn;rw[hd];dsimp only;split
 .rename_i y q;rw[q] at e;exact congrArg some e
 .rename_i q;rw[q] at e;have a:es.toList.any (·.refKey)=false:=by
   rw[uO];intro y hy;obtain⟨z,t,o7⟩:=hk y (Array.mem_toList_iff.mp hy);simp[DictEntry.refKey,o7]
  have a':¬ es.toList.any (·.refKey)=true:=by rw[a];exact bT
  rw[ai a'];exact congrArg some e
theorem vc.look(I:vc h x dx C mA):∃od,PySem.W.InstAt h x (PySem.W.instObj C dx) C (some od)/\∀name,PySem.W.lookIn name od=some (mA name):=
 let ⟨od,ho,hl⟩:=xG I.ns
 ⟨od,⟨I.obj,rfl,rfl,ho⟩,hl⟩
section
variable {prog:Program} {w:World} {A:Around} {E:Value->Shared->Prop} {s:Shared} {K:PySem.W.Frag} {x dx C f:Addr} {mA:Str->Option Value} {name:Str} {v:Value}
theorem Cj(X:K.In s.heap)(I:vc s.heap x dx C mA)(hg:PySem.W.plainGet K C name=true)(hh:PySem.W.hasDictIn K C=true)(ha:PySem.W.findIn K (.ref C) name=some none)(hv:mA name=some v)(vd:PySem.W.handedIn v=true)(h:Q v { s with toks:=s.toks+1 }):
  wpAny (model prog w) A (getAttr (.ref x) name Ck) Q E s:=by
 obtain⟨od,J,hl⟩:=I.look;exact PySem.W.get_value X J (uC hg).1 (PySem.W.findObj_own hh ha rfl (by rw[hl,hv])) vd h
theorem zD(X:K.In s.heap)(I:vc s.heap x dx C mA)(hg:PySem.W.plainGet K C name=true)(hf:PySem.W.findIn K (.ref C) name=some (some (.ref f)))(ht:PySem.W.isFn K (.ref f)=true)(hv:mA name=none)(h:Q (.ref f,[.ref x]) s):
  wpAny (model prog w) A (getMethod (.ref x) name pl) Q E s:=by
 obtain⟨od,J,hl⟩:=I.look;exact PySem.W.method_fn X J (uC hg).1 (uC hg).2 hf (eS.mp ht) (by show (PySem.W.lookIn name od).map (·.isSome)=some false;rw[hl,hv];rfl) h
theorem Cm(X:K.In s.heap)(I:vc s.heap x dx C mA)(hs:PySem.W.findIn K (.ref C) "__setattr__"=some (some (.builtin "object.__setattr__")))(hp:PySem.W.plainOver K C=true)(ht:PySem.W.takerIn K C name=some none)(hh:PySem.W.hasDictIn K C=true)(hw:PySem.Within mA ns)(hsz:ns.length<=sizeLine)(h:∀h',vc h' x dx C (fun y=>if y=name then some v else mA y)->Heap.SameBut dx s.heap h'->Q () { s with heap:=h',toks:=s.toks+2 }):
  wpAny (model prog w) A (setAttr (.ref x) name v) Q E s:=by
 obtain⟨od,J,hl⟩:=I.look;refine PySem.W.set_plain X J hs (PySem.W.osa_open (s:={ s with toks:=s.toks+1 }) (r:=none) X J hp ht fun b=>?_);obtain⟨cd,hc,Ft⟩:=PySem.W.any_some hh;have hx:s.heap.get? x=some ⟨.ref C,some dx,.plain,#[]⟩:=I.obj;refine aw (wpAny_pure (aw (aw (wpAny_loadPart hx (aw (PySem.W.Looks.here (s:={ s with toks:=s.toks+1 }) (PySem.W.looks_clsIn X hc) ?_))))));rw[Ft];refine wpAny_pure (a:=some dx) (aw (wpAny_pure (aw ?_)));refine wpAny_nsSet1 (s:={ s with toks:=s.toks+1 }) I.ns fun h' Iu l3=>?_;obtain⟨oD,WW,WX,T6,Jz,Cn⟩:=Iu.count (PySem.Within.cons name v hw);refine aw (wpAny_lookBehind T6 (by rw[Jz];exact pastItsLine_dict (bn Cn (by rw[c_];lia))) ?_);exact wpAny_pure (h _ ⟨(l3.2 _ (eU I.ne)).trans I.obj,Iu,I.ne⟩ l3)
theorem zE(X:K.In s.heap)(hm:PySem.W.makesIn K C=true)(hi:PySem.W.findIn K (.ref C) "__init__"=some (some (.ref f)))(hf:PySem.W.typeIn K (.ref f)=some (.type "function"))(h:codeAny (model prog w) (A.under (.builtin "type.__call__" ⟨.ref C::vs,kw⟩)) (.call (.ref f) ⟨.ref (s.heap.objs.size+1)::vs,kw⟩) (PySem.W.InitBack (s.heap.objs.size+1) R)
   { s with heap:=(s.heap.push PySem.W.emptyDict).push (PySem.W.instObj C s.heap.objs.size) }):
  codeAny (model prog w) A (.call (.ref C) ⟨vs,kw⟩) R s:=by
 obtain⟨hh,g,d,t,os⟩:=s;exact PySem.W.make_core (PySem.W.makes_of X hm) (PySem.W.looks_findIn X hi) (fun self=>PySem.W.bind_fn X self hf) (.inl rfl) h
end
def cg(f:Str)(v:V):List (Str×V)->List (Str×V)
 |[]=>[(f,v)]
 |(g,x)::r=>if g=f then (g,v)::r else (g,x)::cg f v r
theorem aV(f g:Str)(v:V):∀fs:List (Str×V),(cg f v fs).lookup g=if g=f then some v else fs.lookup g
 |[]=>by
  show List.lookup g [(f,v)]=_;by_cases h:g=f
  .have hb:(g==f)=true:=eS.mpr h;simp only[List.lookup,hb,ak h]
  .have hb:(g==f)=false:=nA.mpr h;simp only[List.lookup,hb,ai h]
 |(k,x)::r=>by
  have ih:=aV f g v r;rw[show cg f v ((k,x)::r)=(if k=f then (k,v)::r else (k,x)::cg f v r) from rfl];by_cases hk:k=f
  .rw[ak hk];by_cases h:g=k
   .have hb:(g==k)=true:=eS.mpr h;simp only[List.lookup,hb,ak (h.trans hk)]
   .have hb:(g==k)=false:=nA.mpr h;simp only[List.lookup,hb,ai (fun e:g=f=>h (e.trans hk.symm))]
  .rw[ai hk];by_cases h:g=k
   .have hb:(g==k)=true:=eS.mpr h;simp only[List.lookup,hb,ai (fun e:g=f=>hk (h.symm.trans e))]
   .have hb:(g==k)=false:=nA.mpr h;simp only[List.lookup,hb];exact ih
theorem lr(f:Str)(v:V):∀fs:List (Str×V),f∈(cg f v fs).map (·.1)/\∀g,g∈fs.map (·.1)->g∈(cg f v fs).map (·.1)
 |[]=>⟨by simp[cg],fun g h=>by simp at h⟩
 |(k,x)::r=>by
  obtain⟨i1,i2⟩:=lr f v r;rw[show cg f v ((k,x)::r)=(if k=f then (k,v)::r else (k,x)::cg f v r) from rfl];by_cases hk:k=f
  .rw[ak hk];subst hk;exact⟨by simp,fun g h=>by simpa using h⟩
  .rw[ai hk];refine⟨?_,fun g h=>?_⟩
   .rw[eR];exact bV _ i1
   .rw[eR] at h |-;rcases aS.mp h with e|e
    .exact aS.mpr (.inl e)
    .exact bV _ (i2 g e)
theorem cQ(f:Str)(v:V):∀fs:List (Str×V),(cg f v fs).length<=fs.length+1
 |[]=>by simp[cg]
 |(k,x)::r=>by
  have ih:=cQ f v r;rw[show cg f v ((k,x)::r)=(if k=f then (k,v)::r else (k,x)::cg f v r) from rfl];by_cases hk:k=f
  .rw[ak hk,c_,c_];lia
  .rw[ai hk,c_,c_];lia
theorem jT.some_of(r:jT (some v) o):∃u,o=some u/\bf v u:=by
 cases o with
 |none=>exact(show False from r).elim
 |some u=>exact⟨u,rfl,r⟩
theorem jT.none_of(r:jT none o):o=none:=by
 cases o with
 |none=>rfl
 |some u=>exact(show False from r).elim
theorem xH(r:bf v u):PySem.W.handedIn u=true:=by
 cases v with
 |bD=>cases (show u=Value.none from r);rfl
 |bl b=>cases (show u=Value.bool b from r);rfl
 |int i=>obtain⟨t,e⟩:=(show ∃t,u=Value.int i t from r);cases e;rfl
 |str x=>obtain⟨t,e⟩:=(show ∃t,u=Value.str x t from r);cases e;rfl
 |wa b=>obtain⟨t,e⟩:=(show ∃t,u=Value.bytes b t from r);cases e;rfl
 |Fp b=>obtain⟨t,e⟩:=(show ∃t,u=Value.float b t from r);cases e;rfl
 |ref a=>cases (show u=Value.ref a from r);rfl
 |ty n=>cases (show u=Value.type n from r);rfl
section
variable {P:Program} {w:World} {H H':Hp} {h h':Heap} {a C dx:Addr} {fs TV:List (Str×V)}
theorem mS(bp:ge P w H h)(e:H a=some (.ins C dx fs)):∃mA,vc h a dx C mA/\(∀f,jT (fs.lookup f) (mA f))/\PySem.Within mA (fs.map (·.1))/\fs.length<=1000/\H dx=some (.own a):=by
 obtain⟨d,z,ne,ob,mA,n,r,q⟩:=(show bG P w H h a (.ins C dx fs) from bp a _ e)
 exact⟨mA,⟨ob,n,ne⟩,r,q,z,d⟩
end
structure zF(K:PySem.W.Frag)(C:Addr):Prop where
 pg:PySem.W.plainGet K C Str.empty=true
 hd:PySem.W.hasDictIn K C=true
 po:PySem.W.plainOver K C=true
 sa:PySem.W.findIn K (.ref C) "__setattr__"=some (some (.builtin "object.__setattr__"))
theorem zF.get{K:PySem.W.Frag}{C:Addr}(c:zF K C)(f:Str):PySem.W.plainGet K C f=true:=c.pg
def eC(K:PySem.W.Frag)(C:Addr)(f:Str):Prop:=PySem.W.findIn K (.ref C) f=some none
theorem eC.JA{K:PySem.W.Frag}{C:Addr}{f:Str}(n:eC K C f):PySem.W.takerIn K C f=some none:=by
 unfold PySem.W.takerIn;rw[show PySem.W.findIn K (.ref C) f=some none from n];rfl
structure FM(K:PySem.W.Frag)(C:Addr)(m:Str)(f:Addr):Prop where
 at_:PySem.W.findIn K (.ref C) m=some (some (.ref f))
 fn:PySem.W.isFn K (.ref f)=true
 kp:PySem.W.keepIn K (.ref f)=true
section
variable {X:Cx} {ae:List (Addr×Obj)} {σ:St} {H:Hp} {s:Shared} {a C dx:Addr} {fs:List (Str×V)} {f:Str} {v:V} {A:Around} {E:Value->Shared->Prop}
theorem ve(I:aD X ae σ H s)(e:H a=some (.ins C dx fs))(c:zF X.K C)(n:eC X.K C f)(l:fs.lookup f=some v)(h:∀u s',aD X ae σ H s'->bf v u->Q u s'):wpAny (model X.prog X.w) A (getAttr (.ref a) f b) Q E s:=by
 obtain⟨mA,O,r,_,_,_⟩:=mS I.bp e;obtain⟨u,hu,ru⟩:=jT.some_of (v:=v) (o:=mA f) (by rw[<-l];exact r f);exact Cj I.k7 O (c.get f) c.hd n hu (xH ru) (h u _ (I.tok _) ru)
theorem vf(I:aD X ae σ H s)(e:H a=some (.ins C dx fs))(c:zF X.K C)(k:FM X.K C m g)(l:fs.lookup m=none)(h:Q (.ref g,[.ref a]) s):wpAny (model X.prog X.w) A (getMethod (.ref a) m pl) Q E s:=by
 obtain⟨mA,O,r,_,_,_⟩:=mS I.bp e;have hn:mA m=none:=jT.none_of (by rw[<-l];exact r m);exact zD I.k7 O (c.get m) k.at_ k.fn hn h
theorem vh(I:aD X ae σ H s)(e:H a=some (.ins C dx fs))(c:zF X.K C)(n:eC X.K C f)(hl:fs.length<1000)(ry:bf y u)(h:∀s',aD X ae σ (upd H a (.ins C dx (cg f y fs))) s'->Q () s'):wpAny (model X.prog X.w) A (setAttr (.ref a) f u) Q E s:=by
 obtain⟨mA,O,r,wi,_,ho⟩:=mS I.bp e;have hz:(fs.map (·.1)).length<=sizeLine:=by rw[aI,im];lia
 refine Cm I.k7 O c.sa c.po n.JA c.hd wi hz fun h' O' sb=>h _ ?_;have hd:∃o,h'.get? dx=some o:=let ⟨o,_,_,e',_⟩:=O'.ns;⟨o,e'⟩;refine I.write (x:=a) (e:=dx) (by rw[e];exact True.intro) (.inr ho) (fun b q hb z=>(sb.2 b hb).trans z) hd ?_;refine⟨by rw[am O.ne];exact ho,?_,O.ne,O'.obj,_,O'.ns,fun g=>?_,fun g hg=>?_⟩
 .have:=cQ f y fs;lia
 .show jT ((cg f y fs).lookup g) (if g=f then some u else mA g);rw[aV];by_cases q:g=f
  .rw[ak q,ak q];exact ry
  .rw[ai q,ai q];exact r g
 .by_cases q:g=f
  .rw[q];exact(lr f y fs).1
  .refine(lr f y fs).2 g (wi g fun z=>hg ?_);show (if g=f then some u else mA g)=none;rw[ai q];exact z
theorem aD.made(I:aD X ae σ H s):aD X ae σ (upd (upd H s.heap.objs.size (.own (s.heap.objs.size+1))) (s.heap.objs.size+1) (.ins C s.heap.objs.size []))
  { s with heap:=(s.heap.push PySem.W.emptyDict).push (PySem.W.instObj C s.heap.objs.size) }:=by
 have e1:(s.heap.push PySem.W.emptyDict).get? s.heap.objs.size=some PySem.W.emptyDict:=cm s.heap rfl;have e2:((s.heap.push PySem.W.emptyDict).push (PySem.W.instObj C s.heap.objs.size)).get? (s.heap.objs.size+1)=some (PySem.W.instObj C s.heap.objs.size):=by
  have:=cm (s.heap.push PySem.W.emptyDict) (o:=PySem.W.instObj C s.heap.objs.size) rfl;rwa [gU] at this
 have e3:(s.heap.push PySem.W.emptyDict).Ns s.heap.objs.size (fun _=>none):=⟨PySem.W.emptyDict,#[],_,e1,rfl,(fun e he=>absurd he (by simp)),fun _=>rfl⟩
 have I1:=I.laid (a:=s.heap.objs.size) (o:=.own (s.heap.objs.size+1)) (h':=s.heap.push PySem.W.emptyDict) (t':=s.toks) (fun b u q=>bN _ q) (aF _) ⟨_,e1⟩;refine I1.laid (a:=s.heap.objs.size+1) (o:=.ins C s.heap.objs.size []) (t':=s.toks) (fun b u q=>bN _ q) (qN (gU _ _)) ?_;have ne:s.heap.objs.size≠s.heap.objs.size+1:=aU (jR _);refine⟨by rw[am ne,af],cE _,ne,e2,fun _=>none,(Heap.Ns1.of_empty e3).at fun o q=>bN _ q,fun _=>True.intro,fun y hy=>absurd rfl hy⟩
theorem Co(hb:attributeBase e f env (eval e env)=eval e env)(h:wpAny (model prog w) A (eval e env) (fun o s₁=>wpAny (model prog w) A (getAttr o f true) Q E s₁) E s):wpAny (model prog w) A (eval (.Attribute e f pos) env) Q E s:=
 Attribute_any_ h (by rw[arm_eval_Attribute,hb])
end
def JB(K:PySem.W.Frag)(ta:TE)(f:Str):TE:=fun σ H Q=>ta σ H fun x H1=>∃a C dx fs v,x=.ref a/\H1 a=some (.ins C dx fs)/\zF K C/\eC K C f/\fs.lookup f=some v/\Q v H1
def NM(K:PySem.W.Frag)(ta tv:TE)(f:Str):TS:=fun D σ H=>tv σ H fun y H1=>ta σ H1 fun x H2=>∃a C dx fs,x=.ref a/\H2 a=some (.ins C dx fs)/\zF K C/\eC K C f/\fs.length<1000/\
 D.nx σ (upd H2 a (.ins C dx (cg f y fs)))
section
variable {X:Cx} {o e value:Expr} {f:Str} {pos so qU:Pos} {ta tv:TE}
theorem jy(he:PE X e ta)(hb:attributeBase e f X.env (eval e X.env)=eval e X.env):PE X (.Attribute e f pos) (JB X.K ta f):=by
 intro ae s σ H Q I h;refine Co hb (bS (he ae s σ H _ I h) fun u s1 ⟨x,H1,I1,rx,a,C,dx,fs,v,ex,ea,c,n,l,q⟩=>?_);subst ex;obtain rfl:u=Value.ref a:=rx;exact ve I1 ea c n l fun u' s2 I2 ru=>⟨v,H1,I2,ru,q⟩
theorem lu(ha:PE X o ta)(hv:PE X value tv)(hs:swapsWith value (some (.Attribute o f so)) pos.line X.env=pure false):PS X (.Assign [.Attribute o f so] value pos) (NM X.K ta tv f):=by
 intro ae s σ H D I h;refine plainObj_wpAny_Assign_Attribute (bS (hv ae s σ H _ I h) fun u s1 ⟨y,H1,I1,ry,q⟩=>bS (ha ae s1 σ H1 _ I1 q) fun ov s2 ⟨x,H2,I2,rx,a,C,dx,fs,ex,ea,c,n,l,q2⟩=>?_) hs;subst ex;obtain rfl:ov=Value.ref a:=rx;exact vh I2 ea c n l ry fun s3 I3=>⟨σ,_,I3,q2⟩
end
section
variable {X:Cx} {ae:List (Addr×Obj)} {σ:St} {H:Hp} {s:Shared} {A:Around} {E:Value->Shared->Prop} {Q:Value->Shared->Prop} {c:Value} {b:Bool}
inductive lw (K:PySem.W.Frag) (H:Hp):V->Value->Prop where
 |bD:lw K H .bD (.type "NoneType")
 |bl (x:Bool):lw K H (.bl x) (.type "bool")
 |int (i:Int):lw K H (.int i) (.type "int")
 |str (x:Str):lw K H (.str x) (.type "str")
 |Fp (x:UInt64):lw K H (.Fp x) (.type "float")
 |lst {a:Addr} {xs:List V} (e:H a=some (.lst xs)):lw K H (.ref a) (.type "list")
 |pE {a:Addr} {o:Obj} {xs:List V} (e:H a=some (.pE o (.lst xs))):lw K H (.ref a) (.type "list")
 |tup {a:Addr} {xs:List V} (e:H a=some (.tup xs)):lw K H (.ref a) (.type "tuple")
 |dK {a:Addr} {a8:List (gh×V)} (e:H a=some (.dK a8)):lw K H (.ref a) (.type "dict")
 |dT {a:Addr} {a8:List (List gh×V)} (e:H a=some (.dT a8)):lw K H (.ref a) (.type "dict")
 |ins {a C dx:Addr} {fs:List (Str×V)} (e:H a=some (.ins C dx fs)) (cl:zF K C) (ha:PySem.W.findIn K (.ref C) "__class__"=some (some (.builtin "object.__class__")))
   (hn:PySem.W.specialIn K (.builtin "object.__class__") "__get__"=some (some (.builtin "getset_descriptor.__get__"))) (NO:PySem.W.takesIn K (.builtin "object.__class__")=some true)
   (hm:PySem.W.mroIn K C (.type "object")=some true):lw K H (.ref a) (.ref C)
theorem xI(I:aD X ae σ H s)(rx:bf x u)(ty:lw X.K H x t)(e:PySem.W.kitOne X.K t c=some b)(h:∀tk,Q (.bool b) { s with toks:=tk }):
  wpAny (model X.prog X.w) A (call (.builtin "isinstance") [u,c]) Q E s:=by
 cases ty with
 |bD=>cases (show u=Value.none from rx);exact gR PySem.W.kitx_none I.k7 True.intro e (fun z=>nomatch z) h
 |bl y=>cases (show u=Value.bool y from rx);exact gR PySem.W.kitx_bool I.k7 True.intro e (fun z=>nomatch z) h
 |int i=>obtain⟨t,q⟩:=(show ∃t,u=Value.int i t from rx);cases q;exact gR PySem.W.kitx_int I.k7 True.intro e (fun z=>nomatch z) h
 |str y=>obtain⟨t,q⟩:=(show ∃t,u=Value.str y t from rx);cases q;exact gR PySem.W.kitx_str I.k7 True.intro e (fun z=>nomatch z) h
 |Fp y=>obtain⟨t,q⟩:=(show ∃t,u=Value.float y t from rx);cases q;exact gR PySem.W.kitx_float I.k7 True.intro e (fun z=>nomatch z) h
 |@lst a xs ea=>
  cases (show u=Value.ref a from rx);obtain⟨_,_,n,_,h1⟩:=(show bG X.prog X.w H s.heap a (.lst xs) from I.bp a _ ea)
  exact gR PySem.W.kitx_list I.k7 ⟨_,h1,rfl⟩ e (fun z=>nomatch z) h
 |@pE a ob xs ea=>
  cases (show u=Value.ref a from rx);obtain⟨_,_,_,n,_,h1⟩:=(show bG X.prog X.w H s.heap a (.pE ob (.lst xs)) from I.bp a _ ea)
  exact gR PySem.W.kitx_list I.k7 ⟨_,h1,rfl⟩ e (fun z=>nomatch z) h
 |@tup a xs ea=>
  cases (show u=Value.ref a from rx);obtain⟨_,_,_,p⟩:=(show bG X.prog X.w H s.heap a (.tup xs) from I.bp a _ ea)
  obtain⟨o,h1,h2,_⟩:=p;exact gR PySem.W.kitx_tuple I.k7 ⟨o,h1,h2⟩ e (fun z=>nomatch z) h
 |@dK a a8 ea=>
  cases (show u=Value.ref a from rx);obtain⟨_,_,vs,_,p⟩:=(show bG X.prog X.w H s.heap a (.dK a8) from I.bp a _ ea)
  obtain⟨o,es,ep,h1,h2,_⟩:=p;exact gR PySem.W.kitx_dict I.k7 ⟨o,h1,h2.1⟩ e (fun z=>nomatch z) h
 |@dT a a8 ea=>
  cases (show u=Value.ref a from rx);obtain⟨_,_,xs,_,o,es,ep,h1,h2,_⟩:=(show bG X.prog X.w H s.heap a (.dT a8) from I.bp a _ ea)
  exact gR PySem.W.kitx_dict I.k7 ⟨o,h1,h2.1⟩ e (fun z=>nomatch z) h
 |@ins a C dx fs ea cl ha hn NO hm=>
  cases (show u=Value.ref a from rx);obtain⟨mA,O,_⟩:=mS I.bp ea;obtain⟨od,J,_⟩:=O.look;exact gR (PySem.W.kitx_own (cl.get _) cl.hd ha hn NO hm) I.k7 J e (fun z=>nomatch z) h
end
structure bO(k:Nat)(A:Around):Prop where
 hd:A.handled=none
 dp:A.depth+3*k+5<recursionLimit
 un:A.units+16*k+200<cLine
 gd:A.guards=some []
theorem bO.mono(r:bO k A)(h:j<=k):bO j A:=⟨r.hd,by have:=r.dp;lia,by have:=r.un;lia,r.gd⟩
theorem bO.deeper(r:bO (k+1) A)(env:Env):bO k (A.deeper env):=
 ⟨r.hd,by have:=r.dp;show A.depth+1+3*k+5<_;lia,by have:=r.un;show A.units+3+16*k+200<_;lia,r.gd⟩
theorem vi{A:Around}{C:Addr}{us:List Value}{kw:List (Str×Value)}:(A.under (.builtin "type.__call__" ⟨.ref C::us,kw⟩)).depth=A.depth+1:=by
 first|rfl|simp[Around.under,Code.weight,Code.isCreation,Code.isGuard,Code.isCaller,Code.frames,Code.isFrame,guardIds]
theorem vj{A:Around}{C:Addr}{us:List Value}{kw:List (Str×Value)}:(A.under (.builtin "type.__call__" ⟨.ref C::us,kw⟩)).units=A.units+1:=by
 first|rfl|simp[Around.under,Code.cUnits,Code.frames,Code.isFrame]
theorem bO.make(r:bO (k+1) A)(C:Addr)(us:List Value)(kw:List (Str×Value)):bO k (A.under (.builtin "type.__call__" ⟨.ref C::us,kw⟩)):=
 ⟨r.hd,by have:=r.dp;rw[vi];lia,by have:=r.un;rw[vj];lia,r.gd⟩
theorem bO.depth(r:bO k A):A.depth<recursionLimit:=by have:=r.dp;lia
theorem bO.u(r:bO k A)(h:n<=200:=by decide):A.units+n<cLine:=by have:=r.un;lia
def mq:TA:=fun _ H Q=>Q [] H
def cK(ta:TE)(tr:TA):TA:=fun σ H Q=>ta σ H fun x H1=>tr σ H1 fun xs H2=>Q (x::xs) H2
section
variable {X:Cx} {e:Expr} {es:List Expr} {te:TE} {t:TA} {pos:Pos}
theorem ag:PA X [] mq:=fun _ _ _ _ H Q I h=>Calls.spliced_nil ⟨[],H,I,.nil,h⟩
theorem aa(ha:PE X e te)(hr:PA X es t)(hs:starEach (e::es) X.env=(false,eval e X.env)::starEach es X.env:=by rfl):PA X (e::es) (cK te t):=by
 intro pos ae s σ H Q I h;rw[hs];show wpAny _ _ (spliced ((false,eval e X.env)::backTo pos (starEach es X.env))) _ _ s;refine Calls.spliced_cons (bS (ha ae s σ H _ I h) fun u s1 ⟨x,H1,I1,r1,q1⟩=>?_);exact bS (hr pos ae s1 σ H1 _ I1 q1) fun us s2 ⟨xs,H2,I2,r2,q2⟩=>⟨x::xs,H2,I2,.cons r1 r2,q2⟩
def Cp(t:TA):TE:=fun σ H Q=>t σ H fun xs H1=>xs.length<=sizeLine/\∀p,H1 p=none->Q (.ref p) (upd H1 p (.tup xs))
def NP(t:TA):TE:=fun σ H Q=>t σ H fun xs H1=>xs.length<=sizeLine/\∀p,H1 p=none->Q (.ref p) (upd H1 p (.lst xs))
theorem dt{x1}(h:PA X es t):PE X (.Tuple es x1 pos) (Cp t):=by
 intro ae s σ H Q I hq;refine wpAny_Tuple_spliced (bS (h pos ae s σ H _ I hq) fun us s1 ⟨xs,H1,I1,r,z,q⟩=>⟨by rw[<-r.length];exact z,?_⟩);have hf:H1 s1.heap.objs.size=none:=I1.bp.fresh (aF _);refine⟨.ref s1.heap.objs.size,upd H1 s1.heap.objs.size (.tup xs),I1.laid (t':=s1.toks) (fun b u e=>bN _ e) (aF _) ?_,rfl,q _ hf⟩;exact⟨z,us,r,⟨_,cm _ rfl,rfl,_,rfl,rfl⟩⟩
theorem cR(h:PA X es t):PE X (.List es pos) (NP t):=by
 intro ae s σ H Q I hq;refine wpAny_List_spliced (bS (h pos ae s σ H _ I hq) fun us s1 ⟨xs,H1,I1,r,z,q⟩=>⟨by rw[<-r.length];exact z,?_⟩);have hf:H1 s1.heap.objs.size=none:=I1.bp.fresh (aF _);refine⟨.ref s1.heap.objs.size,upd H1 s1.heap.objs.size (.lst xs),I1.laid (t':=s1.toks) (fun b u e=>bN _ e) (aF _) ?_,rfl,q _ hf⟩;exact⟨z,us,0,r,cm _ rfl⟩
end
abbrev Sp:=List V->Hp->VK->XK->Prop
abbrev sA:=List Env->Hp->Shared->XK->Value->Shared->Prop
structure sB(P:Program)(w:World)(K:PySem.W.Frag)(mg:Str->Option Value)(base:Heap)(A:Around)(outer:List Env)(s:Shared)(H:Hp):Prop where
 frames:A.frames=some outer
 mod:Mod K mg base
 bs:∀b o,base.get? b=some o->s.heap.get? b=some o/\H b=none
 yV:base.objs.size<=s.heap.objs.size
 jw:s.heap.FunFrames base outer
 B9:∀b∈kG outer,H b=none
 bp:ge P w H s.heap
 bare:AllBare s.gens
def CE(outer:List Env)(P:Program)(w:World)(H:Hp)(s:Shared)(Q:VK)(u:Value)(s':Shared):Prop:=
 ∃v H',s'.os=s.os/\AllBare s'.gens/\Un (kG outer) [] H H' s.heap s'.heap/\ge P w H' s'.heap/\bf v u/\Q v H'
def CR(CX:sA)(outer:List Env)(P:Program)(w:World)(H:Hp)(s:Shared)(Q:VK)(E:XK)(r:Result)(s':Shared):Prop:=
 match r with
 |.ok (.ret u)=>CE outer P w H s Q u s'
 |.ok _=>False
 |.error e=>CX outer H s E e s'
structure bi(P:Program)(w:World)(K:PySem.W.Frag)(mg:Str->Option Value)(base:Heap)(CX:sA)(k:Nat)(f:Addr)(fd:FuncData)(ps:List Str)(sp:Sp):Prop where
 len:∀vs H Q E,sp vs H Q E->vs.length=ps.length
 run:∀ (A:Around) (outer:List Env) (s:Shared) (H:Hp) (args:Args) (us:List Value) (vs:List V) (Q:VK) (E:XK),bO k A->sB P w K mg base A outer s H->BindsTo s fd args (ps.zip us)->aZ vs us->sp vs H Q E->
  codeAny (model P w) A (.call (.ref f) args) (CR CX outer P w H s Q E) s
theorem sB.make{P:Program}{w:World}{K:PySem.W.Frag}{mg:Str->Option Value}{base:Heap}{A:Around}{outer:List Env}{s:Shared}{H:Hp}(e:sB P w K mg base A outer s H)(C:Addr)(us:List Value)(kw:List (Str×Value)):
  sB P w K mg base (A.under (.builtin "type.__call__" ⟨.ref C::us,kw⟩)) outer s H:=⟨by first|exact e.frames|(simpa [Around.under,Code.envs,Code.isFrame,pushEnvs] using e.frames),e.mod,e.bs,e.yV,e.jw,e.B9,e.bp,e.bare⟩
section
variable {X:Cx} {ae:List (Addr×Obj)} {σ:St} {H:Hp} {s s':Shared}
theorem aD.FN(I:aD X ae σ H s):sB X.prog X.w X.K X.mg X.base X.A X.stack s H:=
 ⟨I.ok.frames,I.ok.mod,I.bs,bn I.ok.yV I.sz,I.stack,I.jV,I.bp,I.bare⟩
theorem aD.after(I:aD X ae σ H s)(h:CE X.stack X.prog X.w H s Q u s'):EP X ae σ Q u s':=by
 obtain⟨v,H',os,bare,un,bp,r,q⟩:=h;obtain⟨hh,g,d,t,T7⟩:=s';obtain rfl:T7=s.os:=os;exact⟨v,H',I.call (h':=hh) (g':=g) (d':=d) (t':=t) (ch:=[]) un bp bare (fun b z=>absurd z (by simp)),r,q⟩
end
def om(sp:Sp)(o8:List V)(E:XK)(t:TA):TE:=fun σ H Q=>t σ H fun vs H1=>sp (vs++o8) H1 Q E
def JC(C:Addr)(m:Str)(sp:Sp)(o8:List V)(E:XK)(ta:TE)(t:TA):TE:=fun σ H Q=>ta σ H fun x H1=>∃a dx fs,x=.ref a/\H1 a=some (.ins C dx fs)/\fs.lookup m=none/\
 t σ H1 fun vs H2=>sp (x::(vs++o8)) H2 Q E
def JD(C:Addr)(sp:Sp)(o8:List V)(E:XK)(t:TA):TE:=fun σ H Q=>t σ H fun vs H1=>∀x dx,H1 x=none->H1 dx=none->dx≠x->
 sp (.ref x::(vs++o8)) (upd (upd H1 dx (.own x)) x (.ins C dx [])) (fun v H2=>v=.bD/\Q (.ref x) H2) E
def gX(K:PySem.W.Frag)(fd:FuncData)(ps:List Str)(ds:List Value):Prop:=
 ∀ (s:Shared) (us:List Value),K.In s.heap->(us++ds).length=ps.length->BindsTo s fd ⟨us,[]⟩ (ps.zip (us++ds))
theorem gX.all{K:PySem.W.Frag}{fd:FuncData}{ps:List Str}(h:∀us:List Value,us.length=ps.length->bindArgs fd ⟨us,[]⟩=pure (ps.zip us)):gX K fd ps []:=fun s us _ hl=>by
 rw[jm] at hl |-;exact .of_eq (h us hl)
def gu(CX:sA)(X:Cx)(E:XK):Prop:=∀ (ae:List (Addr×Obj)) (σ:St) (H:Hp) (s:Shared) (e:Value) (s':Shared),aD X ae σ H s->CX X.stack H s E e s'->X.xe e s'
section
variable {X:Cx} {CX:sA} {k:Nat} {f C:Addr} {fd:FuncData} {ps:List Str} {sp:Sp} {o8:List V} {ds:List Value} {E:XK} {x m:Str} {p pos mr:Pos} {e o:Expr} {es:List Expr} {ta:TE} {t:TA}
theorem zG(F:bi X.prog X.w X.K X.mg X.base CX k f fd ps sp)(hr:bO k X.A)(hb:gX X.K fd ps ds)(hd:aZ o8 ds)(hx:gu CX X E)(I:aD X ae σ H s)(r:aZ vs us)(h:sp (vs++o8) H Q E):wpAny (model X.prog X.w) X.A (call (.ref f) us) (EP X ae σ Q) X.xe s:=by
 have r2:aZ (vs++o8) (us++ds):=r.append hd;have hl:(us++ds).length=ps.length:=by rw[<-r2.length];exact F.len _ _ _ _ h
 refine kZ (jr (F.run X.A X.stack s H ⟨us,[]⟩ (us++ds) (vs++o8) Q E hr I.FN (hb s us I.k7 hl) r2 h) fun r s' hq=>?_);cases r with
 |error e=>exact hx ae σ H s e s' I hq
 |ok fl=>
  cases fl with
  |ret u=>exact I.after hq
  |next=>exact False.elim hq
  |brk=>exact False.elim hq
  |cont=>exact False.elim hq
theorem Cq(F:bi X.prog X.w X.K X.mg X.base CX k f fd ps sp)(hr:bO k X.A)(hg:Gl X x)(hm:X.mg x=some (.ref f))(hk:PySem.W.keepIn X.K (.ref f)=true)(hb:gX X.K fd ps ds)(hd:aZ o8 ds)(hx:gu CX X E)(ha:PA X (e::es) t)(vk:(x==("__debug__":Str))=false:=by decide)(he:starEach (e::es) X.env=(false,eval e X.env)::starEach es X.env:=by rfl)(r_:(backTo pos (starEach es X.env)).any (·.1)=false:=by rfl):
  PE X (.Call (.Name x p) (e::es) [] pos) (om sp o8 E t):=by
 intro ae s σ H Q I h;refine ji (jW I hg hm ?_ vk);refine qu (h₀:=X.base) I.ok.mod.Fs hk (bS (ha pos ae s σ H _ I h) fun us s1 ⟨vs,H1,I1,r,q⟩=>⟨I1.k7,?_⟩) he r_;exact zG F hr hb hd hx I1 r q
theorem fv(he:PE X o ta)(c:zF X.K C)(hm:FM X.K C m f)(F:bi X.prog X.w X.K X.mg X.base CX k f fd ps sp)(hr:bO k X.A)(hb:gX X.K fd ps ds)(hd:aZ o8 ds)(hx:gu CX X E)(ha:PA X (e::es) t)(kH:starEach (e::es) X.env=(false,eval e X.env)::starEach es X.env:=by rfl)(r_:(backTo pos (starEach es X.env)).any (·.1)=false:=by rfl)(ht:eval (.Call (.Attribute o m mr) (e::es) [] pos) X.env=(do
   let ov <- eval o X.env
   standAt mr.atName
   let (f,first) <- holding [ov] (getMethod ov m pl)
   callWith pos f first (backTo pos (starEach (e::es) X.env)) (backToKw pos (keywordEach [] X.env))):=by rfl):
  PE X (.Call (.Attribute o m mr) (e::es) [] pos) (JC C m sp o8 E ta t):=by
 intro ae s σ H Q I h;refine PySem.W.methodCall_KW (pl:=pl) (bS (he ae s σ H _ I h) fun u s1 ⟨x,H1,I1,rx,a,dx,fs,ex,ea,l,q⟩=>?_) ht;subst ex;obtain rfl:u=Value.ref a:=rx;refine vf I1 ea c hm l ?_;refine qu (first:=[.ref a]) (h₀:=X.base) I.ok.mod.Fs hm.kp (bS (ha pos ae s1 σ H1 _ I1 q) fun us s2 ⟨vs,H2,I2,r,q2⟩=>⟨I2.k7,?_⟩) kH r_;exact zG (us:=.ref a::us) (vs:=.ref a::vs) F hr hb hd hx I2 (.cons rfl r) q2
structure Mk(K:PySem.W.Frag)(C f:Addr):Prop where
 makes:PySem.W.makesIn K C=true
 init:PySem.W.findIn K (.ref C) "__init__"=some (some (.ref f))
 fn:PySem.W.isFn K (.ref f)=true
 kp:PySem.W.keepIn K (.ref C)=true
theorem zH(M:Mk X.K C f)(F:bi X.prog X.w X.K X.mg X.base CX k f fd ps sp)(hr:bO (k+1) X.A)(hb:gX X.K fd ps ds)(hd:aZ o8 ds)(hx:gu CX X E)(I:aD X ae σ H s)(r:aZ vs us)(h:∀x dx,H x=none->H dx=none->dx≠x->sp (.ref x::(vs++o8)) (upd (upd H dx (.own x)) x (.ins C dx [])) (fun v H2=>v=.bD/\Q (.ref x) H2) E):
  wpAny (model X.prog X.w) X.A (call (.ref C) us) (EP X ae σ Q) X.xe s:=by
 have hq:=h (s.heap.objs.size+1) s.heap.objs.size (I.bp.fresh (Nat.le_succ _)) (I.bp.fresh (aF _)) (aU (jR _));have I2:=aD.made (C:=C) I;have r2:aZ (V.ref (s.heap.objs.size+1)::(vs++o8)) (Value.ref (s.heap.objs.size+1)::(us++ds)):=.cons rfl (r.append hd);have hl:(Value.ref (s.heap.objs.size+1)::us++ds).length=ps.length:=by
  have e:=r2.length;rw[F.len _ _ _ _ hq] at e;exact e.symm
 refine kZ (zE (f:=f) I.k7 M.makes M.init (eS.mp M.fn) (jr (F.run _ X.stack _ _ ⟨Value.ref (s.heap.objs.size+1)::us,[]⟩ (Value.ref (s.heap.objs.size+1)::(us++ds)) _ _ E (hr.make C us [])
  (I2.FN.make C us []) (hb _ (Value.ref (s.heap.objs.size+1)::us) I2.k7 hl) r2 hq) fun r s' Cr=>?_))
 cases r with
 |error e=>exact hx ae σ _ _ e s' I2 Cr
 |ok fl=>
  cases fl with
  |ret u=>
   obtain⟨v,H',I3,rv,ev,q3⟩:=I2.after Cr;subst ev;exact⟨rv,⟨V.ref (s.heap.objs.size+1),H',I3,rfl,q3⟩⟩
  |next=>exact False.elim Cr
  |brk=>exact False.elim Cr
  |cont=>exact False.elim Cr
theorem wj(M:Mk X.K C f)(F:bi X.prog X.w X.K X.mg X.base CX k f fd ps sp)(hr:bO (k+1) X.A)(hg:Gl X x)(hm:X.mg x=some (.ref C))(hb:gX X.K fd ps ds)(hd:aZ o8 ds)(hx:gu CX X E)(ha:PA X (e::es) t)(vk:(x==("__debug__":Str))=false:=by decide)(he:starEach (e::es) X.env=(false,eval e X.env)::starEach es X.env:=by rfl)(r_:(backTo pos (starEach es X.env)).any (·.1)=false:=by rfl):
  PE X (.Call (.Name x p) (e::es) [] pos) (JD C sp o8 E t):=by
 intro ae s σ H Q I h;refine ji (jW I hg hm ?_ vk);refine qu (h₀:=X.base) I.ok.mod.Fs M.kp (bS (ha pos ae s σ H _ I h) fun us s1 ⟨vs,H1,I1,r,q⟩=>⟨I1.k7,?_⟩) he r_;exact zH M F hr hb hd hx I1 r q
end
def PK(X:Cx)(zI:List Keyword)(t:TA):Prop:=
 ∀ (pos:Pos) (ae:List (Addr×Obj)) (s:Shared) (σ:St) (H:Hp) (Q:List V->Hp->Prop),aD X ae σ H s->t σ H Q->wpAny (model X.prog X.w) X.A (evalAll ((backToKw pos (keywordEach zI X.env)).map (·.2))) (AP X ae σ Q) X.xe s
section
variable {X:Cx} {CX:sA} {k:Nat} {f C:Addr} {fd:FuncData} {ps ks:List Str} {sp:Sp} {E:XK} {x m:Str} {p pos mr NQ:Pos} {e o:Expr} {es:List Expr} {zI:List Keyword} {te ta:TE} {t tk:TA} {nm:Option Str}
theorem FO:PK X [] mq:=fun _ _ _ _ H Q I h=>wpAny_evalAll_nil ⟨[],H,I,.nil,h⟩
theorem Ct(ha:PE X e te)(hr:PK X zI t):PK X (⟨nm,e,NQ⟩::zI) (cK te t):=by
 intro pos ae s σ H Q I h;show wpAny _ _ (evalAll ((do let v <- eval e X.env;standAt pos;pure v)::(backToKw pos (keywordEach zI X.env)).map (·.2))) _ _ s;refine wpAny_evalAll_cons (aw (bS (ha ae s σ H _ I h) fun u s1 ⟨x,H1,I1,r1,q1⟩=>aw (kY (wpAny_pure ?_))));exact bS (hr pos ae s1 σ H1 _ I1 q1) fun us s2 ⟨xs,H2,I2,r2,q2⟩=>⟨x::xs,H2,I2,.cons r1 r2,q2⟩
variable {g:List Value->List Value->List Value} {gV:List V->List V->List V}
end
structure aB(N P:List Str)(sc:Scope):Prop where
 kind:sc.kind=.function
 co:sc.isCoroutine=false
 gen:sc.isGenerator=false
 nd:N.Nodup
 pre:N.take P.length=P
 par:∀x∈P,sc.names.lookup x=some .local\/sc.names.lookup x=some .cell
 FP:∀y∈sc.names,y.2≠.free
theorem pK{kindOf:Str->Option NameKind}{x:Str}:∀ {binds:List (Str×Value)} {m:Str->Option Value},(∀v,(x,v)∉binds)->bindL kindOf binds m x=m x
 |[],_,_=>rfl
 |(n,v)::r,m,h=>by
  unfold bindL;rw[pK fun w hw=>h w (bV _ hw)];split
  .have:x≠n:=by rintro rfl;exact h v b_
   simp[this]
  .rfl
theorem pL{kindOf:Str->Option NameKind}{x:Str}:∀ {binds:List (Str×Value)} {m:Str->Option Value},(∀v,(x,v)∉binds)->bindC kindOf binds m x=m x
 |[],_,_=>rfl
 |(n,v)::r,m,h=>by
  unfold bindC;rw[pL fun w hw=>h w (bV _ hw)];split
  .rfl
  .have:x≠n:=by rintro rfl;exact h v b_
   simp[this]
theorem pM{kindOf:Str->Option NameKind}{x:Str}{v:Value}:∀ {P:List Str} {vs:List Value} {i:Nat} {m:Str->Option Value},P.Nodup->P[i]?=some x->vs[i]?=some v->kindOf x=some .local->
  bindL kindOf (P.zip vs) m x=some v
 |[],_,_,_,_,h,_,_=>by simp at h
 |_::_,[],_,_,_,_,h,_=>by simp at h
 |p::P,w::vs,0,m,nd,h1,h2,hk=>by
  simp at h1 h2;subst h1;subst h2;show bindL kindOf ((p,w)::P.zip vs) m p=_;unfold bindL;rw[pK fun v hv=>(fR.mp nd).1 (kT hv).1,ak hk];simp
 |p::P,w::vs,i+1,m,nd,h1,h2,hk=>by
  show bindL kindOf ((p,w)::P.zip vs) m x=_;unfold bindL;exact pM (i:=i) (fR.mp nd).2 (by simpa using h1) (by simpa using h2) hk
theorem pN{kindOf:Str->Option NameKind}{x:Str}{v:Value}:∀ {P:List Str} {vs:List Value} {i:Nat} {m:Str->Option Value},P.Nodup->P[i]?=some x->vs[i]?=some v->kindOf x≠some .local->
  bindC kindOf (P.zip vs) m x=some v
 |[],_,_,_,_,h,_,_=>by simp at h
 |_::_,[],_,_,_,_,h,_=>by simp at h
 |p::P,w::vs,0,m,nd,h1,h2,hk=>by
  simp at h1 h2;subst h1;subst h2;show bindC kindOf ((p,w)::P.zip vs) m p=_;unfold bindC;rw[pL fun v hv=>(fR.mp nd).1 (kT hv).1,ai hk];simp
 |p::P,w::vs,i+1,m,nd,h1,h2,hk=>by
  show bindC kindOf ((p,w)::P.zip vs) m x=_;unfold bindC;exact pN (i:=i) (fR.mp nd).2 (by simpa using h1) (by simpa using h2) hk
def start(N:List Str)(vs:List V):St:=vs.map some++List.replicate (N.length-vs.length) none
def gv(CX:sA)(P:Program)(w:World)(K:PySem.W.Frag)(mg:Str->Option Value)(base:Heap)(N:List Str)(qual:Str)(scope:Scope)(f:Addr)(cd:Value)(A:Around)(outer:List Env)(s:Shared)(H:Hp)(E:XK):Cx where
 prog:=P
 w:=w
 K:=K
 mg:=mg
 base:=base
 A:=A.deeper (envOfC qual scope s.heap.objs.size f cd)
 N:=N
 s₀:=s
 H₀:=H
 env:=envOfC qual scope s.heap.objs.size f cd
 outer:=outer
 stack:=envOfC qual scope s.heap.objs.size f cd::outer
 ex:=[]
 calm:=true
 fn:=fun _=>true
 pn:=[]
 xe:=fun e s'=>wpAny (model P w) (A.deeper (envOfC qual scope s.heap.objs.size f cd)) (leaving (envOfC qual scope s.heap.objs.size f cd) e) (fun _ Cu=>CX outer H s E e Cu) (fun e' Cu=>CX outer H s E e' Cu) s'
theorem sC{sc:Scope}{n:Nat}{x:Str}(h:sc.names.lookup x=some .cell):∃c,(cellsFrom n sc.names []).lookup x=some c:=by
 have q:=PySem.W.cellsFrom_some sc.names n [] (.inl h);exact pB.mp q
theorem xJ{CX:sA}{P:Program}{w:World}{K:PySem.W.Frag}{mg:Str->Option Value}{base:Heap}{N ps:List Str}{qual:Str}{scope:Scope}{f:Addr}{cd:Value}{A:Around}{outer:List Env}{s s1:Shared}{H:Hp}{E:XK}{us:List Value}{vs:List V}(S:aB N ps scope)(hd:A.handled=none)(e0:sB P w K mg base A outer s H)(hl:vs.length=ps.length)(r:aZ vs us)(x:InCallC s s.heap.objs.size (bindL (envOfC qual scope s.heap.objs.size f cd).kindOf (ps.zip us) fun _=>none) (cellsFrom (s.heap.objs.size+1) scope.names []) (bindC (envOfC qual scope s.heap.objs.size f cd).kindOf (ps.zip us) fun _=>none) s1):
  aD (gv CX P w K mg base N qual scope f cd A outer s H E) [] (start N vs) H s1:=by
 have r_:ps.length<=N.length:=by have:=congrArg List.length S.pre;rw[kR] at this;lia
 obtain⟨h1,tk,rfl,hk⟩:=x.done;have Iv:∀b:Addr,b∉(gv CX P w K mg base N qual scope f cd A outer s H E).ex:=fun b z=>absurd (show b∈([]:List Addr) from z) (by simp);refine⟨⟨e0.mod,S.kind,rfl,rfl,aF _,fun y z c h1 h2=>?_,fun y hy=>?_,fun y c _ h=>?_,fun _=>hd,Around.frames_deeper e0.frames,.inr ⟨rfl,rfl⟩,fun b z=>absurd z (Iv b),e0.bs,e0.yV,fun b _ _=>Iv b,fun b z=>absurd z (Iv b),e0.jw,e0.B9⟩,
  rfl,e0.bare,Un.kept hk,⟨_,x.toInCall.ns,fun i y v h1 h2 h3=>?_⟩,fun y c h=>⟨_,x.cell y c h⟩,e0.bp.fresh (aF _),fun y c h=>?_,fun p hp=>absurd (show p∈([]:List (Addr×Obj)) from hp) (by simp),e0.bp.kept hk,?_⟩
 .exact name_of_addr x.apart (hU h1) (hU h2)
 .have hy:scope.names.lookup y=some .cell\/scope.names.lookup y=some .free:=hy;rcases hy with hy|hy
  .exact sC hy
  .exact absurd rfl (S.FP _ (hU hy))
 .exact jq (x.above y c (hU h))
 .have hi:i<vs.length:=by
   unfold start at h2;by_cases hi:i<vs.length
   .exact hi
   .rw[nu (by simpa using hi)] at h2;rw[List.getElem?_replicate] at h2;split at h2 <;> cases h2
  have ha:vs[i]?=some v:=by
   unfold start at h2;rw[lT (by simpa using hi),bh] at h2;cases e:vs[i]? with
   |none=>rw[e] at h2;cases h2
   |some a=>rw[e] at h2;cases h2;rfl
  obtain⟨u,hu,rv⟩:=r.get ha;have hp:ps[i]?=some y:=by
   rw[<-S.pre,zh (by lia)];exact h1
  have RM:ps.Nodup:=by rw[<-S.pre];exact S.nd.sublist (List.take_sublist _ _)
  refine⟨u,rv,?_⟩;rcases S.par y (cC hp) with k|k
  .exact .inl ⟨k,pM RM hp hu k⟩
  .obtain⟨c,e⟩:=sC (n:=s.heap.objs.size+1) k;refine .inr ⟨.inl k,c,e,?_⟩;have q:=x.cell y c e;rw[pN RM hp hu (by show scope.names.lookup y≠_;rw[k];decide)] at q;exact q
 .exact e0.bp.fresh (jq (x.above y c (hU h)))
 .unfold start;show _=N.length;rw[fk,aI,nw];lia
theorem zJ{CX:sA}{P:Program}{w:World}{K:PySem.W.Frag}{mg:Str->Option Value}{base:Heap}{k:Nat}{f:Addr}{name qual:Str}{params:Arguments}{body:List Stmt}{scope:Scope}{dV kV jL pm cM ct oc:Value}{an od:Option Addr}{qV:Array (Option Value)}{N ps:List Str}{sp:Sp}(lk:K.lookup f=some ⟨oc,od,.func (PySem.W.fnOf name qual params body scope dV kV jL pm an cM ct),qV⟩)(oZ:PySem.W.codeIn K cM qual=true)(S:aB N ps scope)(len:∀vs H Q E,sp vs H Q E->vs.length=ps.length)(on:∀ (A:Around) (outer:List Env) (s:Shared) (H:Hp) (vs:List V) (Q:VK) (E:XK),bO k (A.deeper (envOfC qual scope s.heap.objs.size f cM))->sp vs H Q E->
   ∃t,ui (gv CX P w K mg base N qual scope f cM A outer s H E) body t/\t { nx:=fun _ H'=>Q .bD H',rt:=Q } (start N vs) H):
  bi P w K mg base CX (k+1) f (PySem.W.fnOf name qual params body scope dV kV jL pm an cM ct) ps sp:=by
 refine⟨len,fun A outer s H args us vs Q E hr e0 hb r yW=>?_⟩;have hl:=len _ _ _ _ yW;have KX:K.In s.heap:=e0.mod.Fs.keeps fun b o e=>(e0.bs b o e).1;have T8:s.heap.NoLimit:=e0.mod.nolimit.keeps fun b o e=>(e0.bs b o e).1;have JE:∀y∈ps.zip us,scope.names.lookup y.1=some .local\/(scope.names.lookup y.1=some .cell/\((cellsFrom (s.heap.objs.size+1) scope.names []).lookup y.1).isSome=true):=fun ⟨n,v⟩ hy=>by
  rcases S.par n (kT hy).1 with q|q
  .exact .inl q
  .exact .inr ⟨q,PySem.W.cellsFrom_some _ _ _ (.inl q)⟩
 refine codeAny_call_function hr.depth (KX _ _ lk) rfl S.co S.gen rfl (PySem.W.codeRec_of KX oZ) (hb _ _ _ _ ?_);refine wpAny_newFunctionEnv_cells S.kind JE fun env he s1 x=>?_;subst he;refine⟨T8.keeps x.toInCall.keep,codeAny_func ?_⟩;obtain⟨t,ht,hq⟩:=on A outer s H vs Q E (hr.deeper _) yW;have I:aD (gv CX P w K mg base N qual scope f cM A outer s H E) [] (start N vs) H s1:=xJ S hr.hd e0 hl r x;refine io (ht [] s1 (start N vs) H _ I hq) (fun fl s' hs=>?_) fun e s' hs=>hs;have dB:∀ {σ':St} {H':Hp} {v:V} {u:Value},aD (gv CX P w K mg base N qual scope f cM A outer s H E) [] σ' H' s'->bf v u->Q v H'->CE outer P w H s Q u s':=
  fun {σ' H' v u} J rv q=>⟨v,H',J.os,J.bare,J.base,J.bp,rv,q⟩
 cases fl with
 |ret u=>
  obtain⟨v,σ',H',J,rv,q⟩:=hs;exact dB J rv q
 |next=>
  obtain⟨σ',H',J,q⟩:=hs;exact dB (v:=V.bD) (u:=Value.none) J rfl q
 |brk=>
  obtain⟨_,_,_,q⟩:=hs;exact False.elim q
 |cont=>
  obtain⟨_,_,_,q⟩:=hs;exact False.elim q
section
variable {X:Cx} {x:Str} {p pos:Pos} {e:Expr} {es:List Expr} {t:TA} {id T:String} {r:List V->Hp->VK->Prop}
def NR(r:List V->Hp->VK->Prop)(t:TA):TE:=fun σ H Q=>t σ H fun vs H1=>r vs H1 Q
theorem aK(hc:fu X (.builtin id) r)(hg:Gl X x)(hm:X.mg x=none)(hv:bootBuiltins x=some (.builtin id))(ha:PA X (e::es) t)(hn:x≠"__name__":=by decide)(vk:(x==("__debug__":Str))=false:=by decide)(he:starEach (e::es) X.env=(false,eval e X.env)::starEach es X.env:=by rfl)(r_:(backTo pos (starEach es X.env)).any (·.1)=false:=by rfl):PE X (.Call (.Name x p) (e::es) [] pos) (NR r t):=by
 intro ae s σ H Q I h;refine ji (gl I hg hm hv ?_ hn vk);exact PyProof.Rows.callWith_builtin1 (bS (ha pos ae s σ H _ I h) fun us s1 ⟨vs,H1,I1,r1,q1⟩=>hc ae s1 σ H1 vs us Q I1 r1 q1) he r_
theorem bu(hc:fu X (.type T) r)(hg:Gl X x)(hm:X.mg x=none)(hv:bootBuiltins x=some (.type T))(ha:PA X (e::es) t)(hn:x≠"__name__":=by decide)(vk:(x==("__debug__":Str))=false:=by decide)(he:starEach (e::es) X.env=(false,eval e X.env)::starEach es X.env:=by rfl)(r_:(backTo pos (starEach es X.env)).any (·.1)=false:=by rfl):PE X (.Call (.Name x p) (e::es) [] pos) (NR r t):=by
 intro ae s σ H Q I h;refine ji (gl I hg hm hv ?_ hn vk);exact pz (bS (ha pos ae s σ H _ I h) fun us s1 ⟨vs,H1,I1,r1,q1⟩=>hc ae s1 σ H1 vs us Q I1 r1 q1) he r_
end
end L2
namespace HT
open PySem PyProof.Rows
section
open PySem.SeqAt
open PySem.AutoSeq1 (wpAny_loadPart')
open PySem.MeetsSeq PySem.MeetsSeq2 PySem.MeetsSeq3
end
section
variable {prog:Program} {w:World} {A:Around} {E:Value->Shared->Prop} {s:Shared}
end
end HT
namespace L2
open PySem PySem.Spec PyProof.Rows
section
variable {X:Cx} {e:Expr} {te:TE} {lo hi:Option Expr} {tl th:TO} {pos p2:Pos}
end
def yX(n:Nat)(i:Int):Option Nat:=if 0<=i then (if i<n then some i.toNat else none) else if -(n:Int)<=i then some (i+n).toNat else none
def sD{α:Type}(xs:List α)(i:Int):Option α:=(yX xs.length i).bind fun j=>xs[j]?
theorem wm(h:yX n i=some j):seqIndex? i n=some j/\j<n/\-(n:Int)<=i/\i<n:=by
 unfold yX at h;by_cases h0:0<=i
 .rw[ak h0] at h;by_cases h1:i<n
  .rw[ak h1] at h;have e:i.toNat=j:=bA h;exact⟨by rw[seqIndex_of h0 h1,e],by lia,by lia,h1⟩
  .rw[ai h1] at h;cases h
 .rw[ai h0] at h;by_cases h1:-(n:Int)<=i
  .rw[ak h1] at h;have e:(i+n).toNat=j:=bA h;exact⟨by rw[seqIndex_neg (by lia) h1,e],by lia,h1,by lia⟩
  .rw[ai h1] at h;cases h
theorem wn(h:sD xs i=some v):∃j,seqIndex? i xs.length=some j/\xs[j]?=some v/\j<xs.length/\-(xs.length:Int)<=i/\i<xs.length:=by
 unfold sD at h;cases e:yX xs.length i with
 |none=>rw[e] at h;cases h
 |some j=>
  rw[e] at h;obtain⟨h1,h2,h3,h4⟩:=wm e;exact⟨j,h1,h,h2,h3,h4⟩
theorem aY{α:Type}{xs:List α}{j:Nat}{v:α}(h:xs[j]?=some v):sD xs (j:Int)=some v:=by
 have hj:j<xs.length:=(di.mp h).1;have e:yX xs.length (j:Int)=some j:=by
  unfold yX;rw[ak (by lia),ak (by lia)];simp
 unfold sD;rw[e];exact h
theorem j4(xs:List α)(v:α):sD (xs++[v]) (-1)=some v:=by
 have hl:(xs++[v]).length=xs.length+1:=by simp
 have e:yX (xs++[v]).length (-1)=some xs.length:=by
  unfold yX;rw[hl,ai (by decide),ak (by lia)];congr 1;lia
 unfold sD;rw[e];show (xs++[v])[xs.length]?=some v;simp
def Cv(b:Expr):Prop:=∀o i,subscripted b false o i=operate [o,i] (getItem o i)
def NS(X:Cx)(r:R2):Prop:=
 ∀ (value wo:Expr) (ae:List (Addr×Obj)) (s:Shared) (σ:St) (H:Hp) (x y:V) (v u:Value) (Q:VK),aD X ae σ H s->bf x v->bf y u->r x y H Q->
  subscripted wo false v u=operate [v,u] (getItem v u)->wpAny (model X.prog X.w) X.A (subscriptTail value wo v u) (EP X ae σ Q) X.xe s
def RO(X:Cx)(id:String)(r:V->List V->Hp->VK->Prop):Prop:=
 ∀ (ae:List (Addr×Obj)) (s:Shared) (σ:St) (H:Hp) (x:V) (xs:List V) (v:Value) (us:List Value) (Q:VK),aD X ae σ H s->bf x v->aZ xs us->r x xs H Q->
  wpAny (model X.prog X.w) X.A (call (.builtin id) (v::us)) (EP X ae σ Q) X.xe s
section
variable {X:Cx} {a b:Expr} {ta tb:TE} {pos:Pos}
theorem bq(hr:NS X r)(ha:PE X a ta)(hb:PE X b tb)(hs:Cv b):PE X (.Subscript a b pos) (pG r ta tb):=by
 intro ae s σ H Q I h;exact Subscript_ (FH ha hb I h fun v u s2 x y H2 I2 rx ry q=>hr a b ae s2 σ H2 x y v u Q I2 rx ry q (hs _ _))
def FQ(K:PySem.W.Frag):R2:=fun x y H Q=>∃p xs i v,x=.ref p/\y=.int i/\a_ K H p xs/\sD xs i=some v/\Q v H
def sE(K:PySem.W.Frag):R2:=fun x y H Q=>∃p xs i v,x=.ref p/\y=.int i/\be K H p xs/\sD xs i=some v/\Q v H
theorem bt:NS X (FQ X.K):=by
 intro value wo ae s σ H x y v u Q I rx ry h hs;obtain⟨p,xs,i,z,rfl,rfl,hq,he,q⟩:=h;cases rx;obtain⟨t,rfl⟩:=ry;obtain⟨its,r,pl,hz⟩:=I.list hq;obtain⟨j,h1,h2,h3,h4,h5⟩:=wn he;obtain⟨w,ew,FE⟩:=r.get h2;have hl:=r.length;have hn:=lm;have dB:EP X ae σ Q w s:=⟨z,H,I,FE,q⟩
 by_cases h0:0<=i
 .have hj:i.toNat=j:=by
   rw[seqIndex_of h0 h5] at h1;exact bA h1
  exact item_listR pl.isList h0 (by lia) (by rw[hj];simpa using ew) dB hs
 .have hj:(i+(its.toArray.size:Int)).toNat=j:=by
   rw[seqIndex_neg (by lia) h4] at h1;rw[cw,<-hl];exact bA h1
  exact subscriptTail_builtinR (x:=w) pl.isList.typeIs slot_list_getitem.lookup
   (wpAny_getItem_list_neg (Q:=fun r s'=>r=w/\EP X ae σ Q r s') pl.isList (by lia) (by rw[cw] <;> lia) (by lia) (by rw[hj];simpa using ew) ⟨rfl,dB⟩) hs
theorem cS:NS X (sE X.K):=by
 intro value wo ae s σ H x y v u Q I rx ry h hs;obtain⟨p,xs,i,z,rfl,rfl,hq,he,q⟩:=h;cases rx;obtain⟨t,rfl⟩:=ry;obtain⟨its,r,pl,hz⟩:=I.tuple hq;obtain⟨j,h1,h2,h3,h4,h5⟩:=wn he;obtain⟨w,ew,FE⟩:=r.get h2;have hl:=r.length;have hn:=lm;have dB:EP X ae σ Q w s:=⟨z,H,I,FE,q⟩
 exact subscriptTail_builtinR (x:=w) pl.typeIs slot_tuple_getitem.lookup
  (getItem_tuple (j:=j) (Q:=fun r s'=>r=w/\EP X ae σ Q r s') pl (by lia) (by lia) (by rw[cw,<-hl];exact h1) (by simpa using ew) ⟨rfl,dB⟩) hs
theorem vl(its:List Value)(n j:Nat)(u:Value):Obj.mapSeq (·.setIfInBounds j u) { cls:=.type "list",data:=.seq its.toArray n }={ cls:=.type "list",data:=.seq (its.set j u).toArray n }:=by
 simp[Obj.mapSeq]
theorem aD.lst(I:aD X ae σ H s)(h:H p=some (.lst xs)):
  ∃ (its:List Value) (n:Nat),aZ xs its/\s.heap.get? p=some { cls:=.type "list",data:=.seq its.toArray n }/\xs.length<=sizeLine:=by
 obtain⟨z,its,n,r,e⟩:=I.bp p _ h;exact⟨its,n,r,e,z⟩
theorem aD.FR{ae:List (Addr×Obj)}{σ:St}{H:Hp}{s:Shared}{p:Addr}{xs ys:List V}{its its':List Value}{n n':Nat}{f:Obj->Obj}(I:aD X ae σ H s)(h:H p=some (.lst xs))(ho:s.heap.get? p=some { cls:=.type "list",data:=.seq its.toArray n })(hf:f { cls:=.type "list",data:=.seq its.toArray n }={ cls:=.type "list",data:=.seq its'.toArray n' })(r:aZ ys its')(hz:ys.length<=sizeLine)(t:Nat):
  aD X ae σ (upd H p (.lst ys)) { s with heap:=s.heap.update p f,toks:=t }:=by
 have e:(s.heap.update p f).get? p=some { cls:=.type "list",data:=.seq its'.toArray n' }:=by
  rw[uJ f ho (by rw[hf] <;> rfl),hf]
 refine I.write (x:=p) (e:=p) (by rw[h];trivial) (.inl rfl) (fun b u hb q=>(uF _ _ (eU hb)).trans q) ⟨_,e⟩ ?_;exact⟨hz,its',n',r,e⟩
def JF:V->V->V->Hp->(Hp->Prop)->Prop:=fun o i v H Q=>∃p xs k j,o=.ref p/\i=.int k/\H p=some (.lst xs)/\yX xs.length k=some j/\Q (upd H p (.lst (xs.set j v)))
theorem fU:FA X JF:=by
 intro ae s σ H o i v ov iv u Q I ro ri rv h;obtain⟨p,xs,k,j,rfl,rfl,hp,hj,q⟩:=h;cases ro;obtain⟨t,rfl⟩:=ri;obtain⟨its,n,r,ho,hz⟩:=I.lst hp;obtain⟨h1,h2,h3,h4⟩:=wm hj;have hl:=r.length;have hn:=lm;have I':aD X ae σ (upd H p (.lst (xs.set j v))) { s with heap:=s.heap.update p (Obj.mapSeq (·.setIfInBounds j u)) }:=
  I.FR hp ho (vl its n j u) (r.set rv j) (by rw[jl];exact hz) s.toks
 by_cases h0:0<=k
 .have hk:k.toNat=j:=by
   rw[seqIndex_of h0 h4] at h1;exact bA h1
  exact PySem.W.ki_setAt ho h0 (by lia) (by rw[cw,<-hl];exact h4) (by rw[hk];exact⟨_,I',q⟩)
 .have hk:(k+(its.toArray.size:Int)).toNat=j:=by
   rw[seqIndex_neg (by lia) h3] at h1;rw[cw,<-hl];exact bA h1
  exact PySem.W.ki_setBack ho (by lia) (by rw[cw,<-hl];exact h3) (by lia) (by rw[hk];exact⟨_,I',q⟩)
def dJ:V->Bool
 |.bD=>true
 |.bl _=>true
 |.int _=>true
 |.str _=>true
 |_=>false
def kJ:V->V->Bool
 |.bD,.bD=>true
 |.bl a,.bl b=>a==b
 |.bl a,.int b=>(if a then 1 else 0)==b
 |.int a,.bl b=>a==(if b then 1 else 0)
 |.int a,.int b=>a==b
 |.str a,.str b=>a==b
 |_,_=>false
theorem qW(ry:bf y u)(rx:bf x v)(fy:dJ y=true)(fx:dJ x=true):SeqAt.EqAt A s u v (kJ y x):=by
 cases y with
 |bD=>
  cases ry;cases x with
  |bD=>cases rx;exact SeqAt.EqAt.same _
  |bl b=>cases rx;exact SeqAt.EqAt.none_bool b
  |int b=>obtain⟨t,rfl⟩:=rx;exact SeqAt.EqAt.none_int b t
  |str b=>obtain⟨t,rfl⟩:=rx;exact SeqAt.EqAt.none_str b t
  |_=>exact absurd (show false=true from fx) bT
 |bl a=>
  cases ry;cases x with
  |bD=>cases rx;exact SeqAt.EqAt.bool_none a
  |bl b=>cases rx;exact SeqAt.EqAt.bool_bool a b
  |int b=>obtain⟨t,rfl⟩:=rx;exact SeqAt.EqAt.bool_int a b t
  |str b=>obtain⟨t,rfl⟩:=rx;exact SeqAt.EqAt.bool_str a b t
  |_=>exact absurd (show false=true from fx) bT
 |int a=>
  obtain⟨t',rfl⟩:=ry;cases x with
  |bD=>cases rx;exact SeqAt.EqAt.int_none a t'
  |bl b=>cases rx;exact SeqAt.EqAt.int_bool a t' b
  |int b=>obtain⟨t,rfl⟩:=rx;exact SeqAt.EqAt.int_int a t' b t
  |str b=>obtain⟨t,rfl⟩:=rx;exact SeqAt.EqAt.int_str a t' b t
  |_=>exact absurd (show false=true from fx) bT
 |str a=>
  obtain⟨t',rfl⟩:=ry;cases x with
  |bD=>cases rx;exact SeqAt.EqAt.str_none a t'
  |bl b=>cases rx;exact SeqAt.EqAt.str_bool a t' b
  |int b=>obtain⟨t,rfl⟩:=rx;exact SeqAt.EqAt.str_int a t' b t
  |str b=>obtain⟨t,rfl⟩:=rx;exact SeqAt.EqAt.str_str a t' b t
  |_=>exact absurd (show false=true from fx) bT
 |_=>exact absurd (show false=true from fy) bT
def xK(x:V)(u:Value):Bool:=match u with
 |.none=>kJ .bD x
 |.bool b=>kJ (.bl b) x
 |.int i _=>kJ (.int i) x
 |.str z _=>kJ (.str z) x
 |_=>false
theorem zK(r:bf y u)(f:dJ y=true):xK x u=kJ y x:=by
 cases y with
 |bD=>cases r;rfl
 |bl b=>cases r;rfl
 |int i=>obtain⟨t,rfl⟩:=r;rfl
 |str z=>obtain⟨t,rfl⟩:=r;rfl
 |_=>exact absurd (show false=true from f) bT
theorem mT:∀ {xs:List V} {us:List Value},aZ xs us->xs.all dJ=true->us.any (xK x)=xs.any fun y=>kJ y x
 |_,_,.nil,_=>rfl
 |y::xs,u::us,.cons r t,f=>by
  rw[ig,fQ] at f;rw[ie,ie,zK r f.1,mT t f.2]
theorem j5(rx:bf x v)(fx:dJ x=true):∀ {xs:List V} {us:List Value},aZ xs us->xs.all dJ=true->∀u∈us,SeqAt.EqAt A s u v (xK x u)
 |_,_,.nil,_=>fun u hu=>by cases hu
 |y::xs,u::us,.cons r t,f=>fun u' hu=>by
  rw[ig,fQ] at f;rcases aS.mp hu with rfl|hu
  .rw[zK r f.1];exact qW r rx f.1 fx
  .exact j5 rx fx t f.2 u' hu
def MG(x:V)(xs:List V):Bool:=xs.any fun y=>kJ y x
def RP(K:PySem.W.Frag)(BV:Bool):R2:=fun x y H Q=>∃p xs,y=.ref p/\(a_ K H p xs\/be K H p xs)/\dJ x=true/\xs.all dJ=true/\Q (.bl (if BV then !MG x xs else MG x xs)) H
theorem xL:kI X (compareOp .In) (RP X.K false):=by
 intro ae s σ H x y v u Q I rx ry h;obtain⟨p,xs,rfl,hq,fx,fs,q⟩:=h;cases ry;rcases hq with hq|hq
 .obtain⟨its,r,pl,hz⟩:=I.list hq;refine SeqAt.in_listAt (xK x) pl.isList (fun w hw=>j5 rx fx r fs w (by simpa using hw)) ⟨.bl _,H,I,rfl,?_⟩;rw[show its.toArray.any (xK x)=its.any (xK x) by simp,mT r fs];exact q
 .obtain⟨its,r,pl,hz⟩:=I.tuple hq;refine SeqAt.in_tupleAt (xK x) pl (fun w hw=>j5 rx fx r fs w (by simpa using hw)) ⟨.bl _,H,I,rfl,?_⟩;rw[show its.toArray.any (xK x)=its.any (xK x) by simp,mT r fs];exact q
theorem aM:fu X (.builtin "len") (fun xs H Q=>∃p ys,xs=[.ref p]/\(a_ X.K H p ys\/be X.K H p ys)/\Q (.int ys.length) H):=by
 intro ae s σ H xs us Q I r h;obtain⟨p,ys,rfl,hq,q⟩:=h;obtain⟨u,rfl,rx⟩:=sw r;cases rx;have hn:=lm;rcases hq with hq|hq
 .obtain⟨its,r',pl,hz⟩:=I.list hq;have dq:=r'.length;exact Calls.call_len_list pl.isList (by simp only[cw] <;> lia) ⟨.int ys.length,H,I.tok _,⟨s.toks+1,by rw[cw,dq]⟩,q⟩
 .obtain⟨its,r',pl,hz⟩:=I.tuple hq;have dq:=r'.length;exact len_tuple pl (by simp only[cw] <;> lia) ⟨.int ys.length,H,I.tok _,⟨s.toks+1,by rw[cw,dq]⟩,q⟩
theorem j6:fu X (.type "list") (fun xs H Q=>∃p ys,xs=[.ref p]/\(a_ X.K H p ys\/be X.K H p ys)/\∀l,H l=none->Q (.ref l) (upd H l (.lst ys))):=by
 intro ae s σ H xs us Q I r h;obtain⟨p,ys,rfl,hq,q⟩:=h;obtain⟨u,rfl,rx⟩:=sw r;cases rx;have dB:∀ (its:List Value),aZ ys its->ys.length<=sizeLine->∀ (h':Heap) (c':Nat),(∀b o',s.heap.get? b=some o'->h'.get? b=some o')->
   h'.get? s.heap.objs.size=some { cls:=.type "list",dict:=none,data:=.seq its.toArray c',slots:=#[] }->EP X ae σ Q (.ref s.heap.objs.size) { s with heap:=h' }:=fun its r' hz h' c' kp e=>
  ⟨.ref s.heap.objs.size,_,I.laid (t':=s.toks) kp (aF _) (show bG X.prog X.w _ h' _ (.lst ys) from ⟨hz,its,c',r',e⟩),rfl,q _ (I.bp.fresh (aF _))⟩
 rcases hq with hq|hq
 .obtain⟨its,r',pl,hz⟩:=I.list hq;have dq:=r'.length;obtain⟨o,ho,hc,n,hd⟩:=pl.isList;exact call_list_seq p (.inl rfl) ho hc hd (fun h' c' kp e=>dB its r' hz h' c' kp e) (by simp only[cw] <;> lia)
 .obtain⟨its,r',pl,hz⟩:=I.tuple hq;have dq:=r'.length;obtain⟨o,ho,hc,n,hd⟩:=pl;exact call_list_seq p (.inr rfl) ho hc hd (fun h' c' kp e=>dB its r' hz h' c' kp e) (by simp only[cw] <;> lia)
theorem br:fu X (.type "tuple") (fun xs H Q=>∃p ys,xs=[.ref p]/\((a_ X.K H p ys/\∀l,H l=none->Q (.ref l) (upd H l (.tup ys)))\/(be X.K H p ys/\Q (.ref p) H))):=by
 intro ae s σ H xs us Q I r h;obtain⟨p,ys,rfl,h⟩:=h;obtain⟨u,rfl,rx⟩:=sw r;cases rx;rcases h with ⟨hq,q⟩|⟨hq,q⟩
 .obtain⟨its,r',pl,hz⟩:=I.list hq;have dq:=r'.length;refine call_tuple_list pl.isList (fun h' kp=>?_) (by simp only[cw] <;> lia);have I1:aD X ae σ H { s with heap:=h' }:=I.kept (t':=s.toks) kp;have I2:aD X ae σ (upd H h'.objs.size (.tup ys)) { s with heap:=h'.push { cls:=.type "tuple",data:=.seq its.toArray } }:=
   I1.laid (t':=s.toks) (fun b o e=>bN _ e) (aF _) (show bG X.prog X.w _ _ _ (.tup ys) from ⟨hz,its,r',k6.new _ _⟩)
  exact⟨.ref h'.objs.size,_,I2,rfl,q _ (I1.bp.fresh (aF _))⟩
 .obtain⟨its,r',pl,hz⟩:=I.tuple hq;exact call_tuple_same pl ⟨.ref p,H,I,rfl,q⟩
def RQ(K:PySem.W.Frag)(T:String)(x:V)(H:Hp):Prop:=match x with
 |.str _=>T="str"
 |.int _=>T="int"
 |.ref p=>(T="list"/\∃xs,a_ K H p xs)\/(T="tuple"/\∃o,K.lookup p=some o/\o.cls=.type "tuple"/\o.dict=none)\/
   (T="dict"/\((∃a8,H p=some (.dK a8))\/∃a8,H p=some (.dT a8)))\/(T="set"/\∃S n,H p=some (.set S n))
 |_=>False
theorem FS(I:aD X ae σ H s)(r:bf x v)(ty:RQ X.K T x H):
  s.TypeIs v T/\∀a,v=.ref a->∃ob,s.heap.get? a=some ob/\ob.dict=none:=by
 cases x with
 |str z=>
  obtain⟨t,rfl⟩:=r;cases (show T="str" from ty);exact⟨typeIs_str s z t,fun _ e=>nomatch e⟩
 |int i=>
  obtain⟨t,rfl⟩:=r;cases (show T="int" from ty);exact⟨typeIs_int s i t,fun _ e=>nomatch e⟩
 |ref p=>
  cases r;rcases ty with ⟨rfl,xs,hq⟩|⟨rfl,o,hk,hc,hd⟩|⟨rfl,hk⟩|⟨rfl,S,n,hk⟩
  .obtain⟨its,_,pl,_⟩:=I.list hq;refine⟨pl.isList.typeIs,fun a e=>?_⟩;cases e;obtain⟨o,n,e,c,hd,_⟩:=pl;exact⟨o,e,hd⟩
  .refine⟨⟨o,I.k7 p o hk,hc⟩,fun a e=>?_⟩;cases e;exact⟨o,I.k7 _ o hk,hd⟩
  .have z:∃o,s.heap.get? p=some o/\o.ExactDict:=by
    rcases hk with ⟨a8,hk⟩|⟨a8,hk⟩
    .obtain⟨_,_,_,_,o,_,_,e,ex,_⟩:=I.bp p _ hk;exact⟨o,e,ex⟩
    .obtain⟨_,_,_,_,o,_,_,e,ex,_⟩:=I.bp p _ hk;exact⟨o,e,ex⟩
   obtain⟨o,e,ex⟩:=z;refine⟨⟨o,e,ex.1⟩,fun a e2=>?_⟩;cases e2;exact⟨o,e,ex.2.1⟩
  .obtain⟨o,_,_,_,e,ex,_⟩:=I.bp p _ hk;refine⟨⟨o,e,ex.1⟩,fun a e2=>?_⟩;cases e2;exact⟨o,e,ex.2.1⟩
 |_=>exact False.elim ty
def T9(K:PySem.W.Frag)(T:String)(r:V->List V->Hp->VK->Prop)(to:TE)(t:TA):TE:=fun σ H Q=>to σ H fun x H1=>RQ K T x H1/\t σ H1 fun xs H2=>r x xs H2 Q
variable {o e:Expr} {es:List Expr} {to:TE} {t:TA} {name:Str} {mr fV:Pos} {T id:String} {r:V->List V->Hp->VK->Prop}
theorem eW(pa:PlainAttrs T)(slot:Slot T name id)(NU:typeOf (.builtin id)=pure (.type "method_descriptor"))(hm:RO X id r)(ho:PE X o to)(ha:PA X (e::es) t)(zL:attributeBase o name X.env (eval o X.env)=eval o X.env:=by rfl)(FT:((backTo fV (starEach (e::es) X.env)).all (fun x=>!x.1)&&(backToKw fV (keywordEach [] X.env)).all (fun x=>x.1.isSome)
   && decide ((e::es).length+([]:List Keyword).length+(if ([]:List Keyword).isEmpty then 0 else 1)<30))=true:=by rfl)(zM:(mr.endLine==fV.line)=true:=by rfl)(hs:starEach (e::es) X.env=(false,eval e X.env)::starEach es X.env:=by rfl)(oo:(backTo fV (starEach es X.env)).any (·.1)=false:=by rfl):
  PE X (.Call (.Attribute o name mr) (e::es) [] fV) (T9 X.K T r to t):=by
 intro ae s σ H Q I h;refine wpAny_Call_method_late zL FT zM rfl (bS (ho ae s σ H _ I h) fun v s1 ⟨x,H1,I1,r1,ty,q1⟩=>?_);obtain⟨h1,h2⟩:=FS I1 r1 ty;refine⟨T,id,pa,slot,NU,h1,h2,?_⟩;have hA:=ha fV ae s1 σ H1 _ I1 q1;rw[hs] at hA |-;refine Calls.callWith_builtin (by show (false||(backTo fV (starEach es X.env)).any (·.1))=false;rw[oo] <;> rfl) (uP ?_);exact bS hA fun us s2 ⟨vs,H2,I2,r2,q2⟩=>hm ae s2 σ H2 x vs v us Q I2 r1 r2 q2
end
def RS(X:Cx)(id:String)(r:V->List V->Hp->VK->Prop):Prop:=
 ∀ (ae:List (Addr×Obj)) (s:Shared) (σ:St) (H:Hp) (x:V) (xs:List V) (v:Value) (us:List Value) (Q:VK),aD X ae σ H s->bf x v->aZ xs us->r x xs H Q->
  wpAny (model X.prog X.w) X.A (call (.builtin id) (v::us)) (EP X ae σ Q) X.xe s
theorem aZ.one{x:V}{us:List Value}(h:aZ [x] us):∃u,us=[u]/\bf x u:=by
 cases h with
 |cons r h=>cases h;exact⟨_,rfl,r⟩
theorem aZ.two{x y:V}{us:List Value}(h:aZ [x,y] us):∃u v,us=[u,v]/\bf x u/\bf y v:=by
 cases h with
 |cons r h=>
  cases h with
  |cons q h=>cases h;exact⟨_,_,rfl,r,q⟩
section
variable {X:Cx} {ae:List (Addr×Obj)} {σ:St} {H:Hp} {s:Shared} {l b:Addr} {xs ys zs:List V}
theorem aD.NW{its its':List Value}{n:Nat}{f:Array Value->Array Value}{t':Nat}(I:aD X ae σ H s)(hH:H l=some (.lst xs))(e:s.heap.get? l=some { cls:=.type "list",data:=.seq its.toArray n })(hf:f its.toArray=its'.toArray)(hv:aZ ys its')(hz:ys.length<=sizeLine):
  aD X ae σ (upd H l (.lst ys)) { s with heap:=s.heap.update l (Obj.mapSeq f),toks:=t' }:=by
 have q:=PySem.IsL.update e f;rw[hf] at q;refine I.write (x:=l) (e:=l) (by rw[hH];exact trivial) (.inl rfl) (fun b' u hb hu=>(uF s.heap (Obj.mapSeq f) (eU hb)).trans hu) ⟨_,q⟩ ?_;exact⟨hz,its',_,hv,q⟩
theorem aD.JG(I:aD X ae σ H s)(hv:aZ ys its)(hz:ys.length<=sizeLine):
  aD X ae σ (upd H s.heap.objs.size (.lst ys)) { s with heap:=s.heap.push { cls:=.type "list",data:=.seq its.toArray },toks:=t' }:=
 I.laid (fun _ _ q=>bN _ q) (aF _) ⟨hz,its,0,hv,cm _ rfl⟩
theorem aD.fresh(I:aD X ae σ H s):H s.heap.objs.size=none:=I.bp.fresh (aF _)
theorem aD.Cw(I:aD X ae σ H s)(hH:H l=some (.lst xs)):xs.length<=sizeLine/\∃ (its:List Value) (n:Nat),aZ xs its/\xs.length=its.length/\s.heap.get? l=some { cls:=.type "list",data:=.seq its.toArray n }:=by
 obtain⟨z,its,n,r,e⟩:=I.bp l _ hH;exact⟨z,its,n,r,r.length,e⟩
end
section
variable {X:Cx}
def Cy:V->List V->Hp->VK->Prop:=fun x vs H Q=>∃l xs y,x=.ref l/\vs=[y]/\H l=some (.lst xs)/\xs.length<sizeLine/\Q .bD (upd H l (.lst (xs++[y])))
theorem bv:RS X "list.append" Cy:=by
 intro ae s σ H x vs v us Q I rx rv h;obtain⟨l,xs,y,rfl,rfl,hH,hz,q⟩:=h;cases rx;obtain⟨u,rfl,ru⟩:=rv.one;obtain⟨z,its,n,r,hl,e⟩:=I.Cw hH;refine call_meets F.slot_list_append ⟨_,e,rfl⟩ F.entry_list_append (F.args_list_append_2 _ _) (PySem.list_append l its.toArray n u (by rw[cw];lia)) ⟨e,?_⟩;refine⟨.bD,_,I.NW (its':=its++[u]) hH e (by simp) (r.append (.cons ru .nil)) ?_,rfl,q⟩;rw[fk,List.length_singleton];lia
def NX:R2:=fun x y H Q=>∃l b xs zs,x=.ref l/\y=.ref b/\H l=some (.lst xs)/\H b=some (.lst zs)/\xs.length+zs.length<=sizeLine/\∀p,H p=none->Q (.ref p) (upd H p (.lst (xs++zs)))
theorem FU:kI X (binaryOp .Add) NX:=by
 intro ae s σ H x y v u Q I rx ry h;obtain⟨l,b,xs,zs,rfl,rfl,hH,hB,hz,q⟩:=h;cases rx;cases ry;obtain⟨z,its,n,r,hl,e⟩:=I.Cw hH;obtain⟨z2,zN,n2,r2,RU,e2⟩:=I.Cw hB;refine PySem.P.add_list e e2 ?_ (by rw[cw,cw];lia);have ea:its.toArray++zN.toArray=(its++zN).toArray:=by simp
 rw[ea];exact⟨.ref _,_,I.JG (t':=s.toks) (r.append r2) (by rw[fk];lia),rfl,q _ I.fresh⟩
end
section
variable {prog:Program} {w:World} {A:Around} {E:Value->Shared->Prop} {s:Shared}
end
section
variable {X:Cx}
end
end L2
namespace RV
open PySem PySem.W PySem.Calls PyProof.Rows
theorem mv:∀ (ns:List Int) (vs:List Value),WellAll P h vs (ns.map WData.int)->IntsAre vs ns:=by
 intro ns;induction ns with
 |nil=>
  intro vs w;rw[List.map_nil] at w;cases w;exact .nil
 |cons n ns ih=>
  intro vs w;rw[eR] at w;cases w with
  |cons a b=>
   cases a;exact .cons _ _ (ih _ b)
theorem xM{l:OpenLaw}{n:Nat}(hn:l.most=some n){P:Params}{h:Heap}{args:List WData}{zO:List Value}(Cz:l.row.toRowW.claim.pre args=true)(NY:WellAll P h zO args):
  ∃a vs ns,zO=[Value.ref a]/\args=[WData.list (ns.map WData.int)]/\h.get? a=some { cls:=.type "list",data:=.seq vs.toArray }/\IntsAre vs ns/\ns.length<=n:=by
 have T_:WShape.hasAll [] args [.list .int]=true:=(pre_splitW Cz).1;have hc:l.pre.holds [] { args:=args }=true:=(pre_splitW Cz).2;obtain⟨d,r,rfl,h1,h2⟩:=hasAllW_cons T_;obtain rfl:=hasAllW_nil h2;obtain⟨xs,rfl,h3⟩:=hasW_list h1;obtain⟨ns,rfl⟩:=items_int h3;have dq:ns.length<=n:=by
  unfold OpenLaw.pre at hc;have h4:(WTm.not (.lt (.lit (.int (n:Int))) (.len (.arg 0)))).holds [] { args:=[.list (ns.map .int)] }=true:=by
   have h4:=(holds_andW hc).1;rw[hn] at h4;exact h4
  have h5:=condW_of h4 (w_not (w_lt w_lit (w_len_list (w_arg rfl))));rw[aI] at h5;refine Nat.le_of_not_lt fun q=>?_;have q':(n:Int)<((ns.length:Nat):Int):=by lia
  first
   |(rw[bK q'] at h5;exact absurd h5 (by decide))
   |(simp at h5;lia)
 cases NY with
 |cons w1 w2=>
  cases w2;cases w1 with
  |list ho sF=>exact⟨_,_,ns,rfl,rfl,ho,mv ns _ sF,dq⟩
theorem xN(l:OpenLaw)(args:List WData):l.row.toRowW.claim.post args (.bool true) args=true:=
 postW_of (r:=l.row.toRowW) (X:=(true==true))
  (show WShape.has [] (.bool true) .bool=true by first|rfl|decide|simp[WShape.has,WShape.arms,WShape.armsAll])
  (show (WTm.eq .res (.lit (.bool true))).value [] { args:=args,res:=some (.bool true),after:=args }=some (.bool (true==true)) from w_eq_bool (w_res rfl) w_lit) rfl
theorem sG{l:OpenLaw}{n:Nat}{q:Program}{pO:List Str}{XP:(Str->Option Value)->Heap->Prop}{YP:World->Heap->Prop}{d:DefRec}(hn:l.most=some n)(JI:d.params.defaults=[])(call:∀ (w:World) (s₀ s₁:Shared) (mg mb:Str->Option Value) (fa:Addr) (o:Obj) (pm cd jL:Value) (a:Addr) (vs:List Value) (ns:List Int),
   Ground q pO [] XP w s₀ mg mb s₁.heap->YP w s₁.heap->
   s₁.heap.get? fa=some o->o.data=.func (docDef d.name d.params d.body d.scope pm cd jL)->s₁.heap.CodeRec cd d.name->mg d.name=some (.ref fa)->
   s₁.heap.get? a=some { cls:=.type "list",data:=.seq vs.toArray }->IntsAre vs ns->ns.length<=n->s₁.gens=#[]->
   codeAny (model l.prog w) callerA (.call (.ref fa) ⟨[.ref a],[]⟩) (fun r s'=>r=.ok (.ret (.bool true))/\OldK s₁.heap s'.heap/\s'.os=s₁.os/\AllBare s'.gens) s₁):
  WalkO q pO XP YP l.row.toRowW d [] (fun f vs=>PySem.call f vs):=by
 intro w s₀ s₁ mg mb G Y fa o pm cd jL dV kV ho hd oZ hD JJ hg args zO as Cz Ua RW NY MI;obtain rfl:dV=.none:=Dflts.none hD JI;obtain rfl:kV=.none:=Dflts.noKw hD;obtain⟨a,vs,ns,rfl,rfl,FV,zP,dq⟩:=xM hn Cz NY;refine enter_call (jr (call w s₀ s₁ mg mb fa o pm cd jL a vs ns G Y ho (fd_plain hd) oZ JJ FV zP dq hg) fun r s' hq=>?_);obtain⟨rfl,h2,h3,h4⟩:=hq;exact⟨.inl ⟨.bool true,.bool true,[],rfl,fun _=>rfl,.bool true,xN l _,fun _=>⟨List.Pairwise.nil,fun _ hm=>(nomatch hm)⟩⟩,h2,h3,h4⟩
section
variable {prog:Program} {w:World} {A:Around} {E:Value->Shared->Prop} {s:Shared} {K:Frag}
end
end RV
namespace L2
open PySem PySem.Spec PyProof.Rows
theorem pP:∀ {vs:List Value} {ns:List Int},IntsAre vs ns->aZ (ns.map V.int) vs
 |_,_,.nil=>.nil
 |_,_,.cons n t h=>.cons ⟨t,rfl⟩ (pP h)
def gw(s:Stmt)(j:Nat):Stmt:=match s with
 |.ClassDef _ _ _ body _ _ _ _ _ _ _=>body.getD j (.Pass ⟨0,0,0,0⟩)
 |_=>.Pass ⟨0,0,0,0⟩
def ci(s:Stmt):Arguments:=match s with
 |.FunctionDef _ a _ _ _ _ _ _ _ _=>a
 |_=>{ posonlyargs:=[],args:=[],vararg:=none,kwonlyargs:=[],kw_defaults:=[],kwarg:=none,defaults:=[] }
def bz(s:Stmt):List Stmt:=match s with
 |.FunctionDef _ _ b _ _ _ _ _ _ _=>b
 |_=>[]
def aq(s:Stmt):Scope:=match s with
 |.FunctionDef _ _ _ _ _ _ sc _ _ _=>sc
 |_=>{ kind:=.function,names:=[],isGenerator:=false,isCoroutine:=false }
abbrev bg:sA:=fun _ _ _ _ _ _=>False
abbrev E0:XK:=fun _ _ _=>False
theorem aL:gu bg X E0:=fun _ _ _ _ _ _ _ h=>h.elim
structure eh(K:PySem.W.Frag)(x qual:Str)(st:Stmt)(f:Addr)(fd:FuncData):Prop where
 ex:∃ (oc:Value) (od:Option Addr) (kV jL pm:Value) (an:Option Addr) (cM ct:Value) (qV:Array (Option Value)),
  fd=PySem.W.fnOf x qual (ci st) (bz st) (aq st) .none kV jL pm an cM ct/\K.lookup f=some ⟨oc,od,.func fd,qV⟩/\PySem.W.codeIn K cM qual=true
 kp:PySem.W.keepIn K (.ref f)=true
section
variable {P:Program} {w:World} {K:PySem.W.Frag} {mg:Str->Option Value} {base:Heap}
theorem eh.ok{x qual:Str}{st:Stmt}{f:Addr}{fd:FuncData}{N ps:List Str}{k:Nat}{sp:Sp}(F:eh K x qual st f fd)(S:aB N ps (aq st))(len:∀vs H Q E,sp vs H Q E->vs.length=ps.length)(on:∀ (cM:Value) (A:Around) (outer:List Env) (s:Shared) (H:Hp) (vs:List V) (Q:VK) (E:XK),bO k (A.deeper (envOfC qual (aq st) s.heap.objs.size f cM))->sp vs H Q E->
   ∃t,ui (gv bg P w K mg base N qual (aq st) f cM A outer s H E).Ew (bz st) t/\t { nx:=fun _ H'=>Q .bD H',rt:=Q } (start N vs) H):bi P w K mg base bg (k+1) f fd ps sp:=by
 obtain⟨oc,od,kV,jL,pm,an,cM,ct,qV,rfl,lk,oZ⟩:=F.ex;refine zJ lk oZ S len fun A outer s H vs Q E hr yW=>?_;obtain⟨t,h,q⟩:=on cM A outer s H vs Q E hr yW;exact⟨t,h.Ew,q⟩
theorem eh.binds{x qual:Str}{st:Stmt}{f:Addr}{fd:FuncData}{ps:List Str}(F:eh K x qual st f fd)(h:∀ (kV jL pm:Value) (an:Option Addr) (cM ct:Value) (us:List Value),us.length=ps.length->bindArgs (PySem.W.fnOf x qual (ci st) (bz st) (aq st) .none kV jL pm an cM ct) ⟨us,[]⟩=pure (ps.zip us)):gX K fd ps []:=by
 obtain⟨oc,od,kV,jL,pm,an,cM,ct,qV,rfl,lk,oZ⟩:=F.ex;exact .all (h kV jL pm an cM ct)
theorem oq{x qual:Str}{st:Stmt}{f:Addr}{oc:Value}{od an:Option Addr}{qV:Array (Option Value)}{kV jL pm cM ct:Value}(l:K.lookup f=some ⟨oc,od,.func (PySem.W.fnOf x qual (ci st) (bz st) (aq st) .none kV jL pm an cM ct),qV⟩)(c:PySem.W.codeIn K cM qual=true)(k:PySem.W.keepIn K (.ref f)=true):eh K x qual st f (PySem.W.fnOf x qual (ci st) (bz st) (aq st) .none kV jL pm an cM ct):=⟨⟨oc,od,kV,jL,pm,an,cM,ct,qV,rfl,l,c⟩,k⟩
end
section
variable {X:Cx}
theorem pv(i:Nat)(hN:X.N[i]?=some x:=by rfl)(hv:Ja X.env.scope x:=by first|exact Or.inl rfl|exact Or.inr (Or.inl rfl)|exact Or.inr (Or.inr rfl))(hd:(x==("__debug__":Str))=false:=by decide)(oZ:(x==("__classdict__":Str))=false:=by decide):PE X (.Name x pos) (bU i):=Fu hN hv hd oZ
end
theorem fX{A B:Prop}(h:B):if false=true then A else B:=by
 rw[ai bT];exact h
theorem mw{A B:Prop}(h:A):if true=true then A else B:=by
 rw[ak rfl];exact h
theorem iC{c A B:Prop}[Decidable c](h1:c->A)(h2:¬ c->B):if c then A else B:=by
 by_cases h:c
 .rw[ak h];exact h1 h
 .rw[ai h];exact h2 h
def aE(H H':Hp):Prop:=∀b o,H b=some o->H' b=some o
theorem aE.refl(H:Hp):aE H H:=fun _ _ h=>h
theorem aE.trans(a:aE H H1)(b:aE H1 H2):aE H H2:=fun c o h=>b c o (a c o h)
theorem aE.free(e:aE H H')(h:H' l=Option.none):H l=Option.none:=by
 cases q:H l with
 |none=>rfl
 |some o=>
  rw[e l o q] at h;cases h
def EB(src:List (Option Nat))(σ:St):St:=src.map fun o=>match o with|some j=>σ.getD j none|none=>none
theorem CA{src:List (Option Nat)}{σ:St}{i:Nat}{v:V}(h:(EB src σ)[i]?=some (some v)):∃j,src[i]?=some (some j)/\σ[j]?=some (some v):=by
 unfold EB at h;rw[bh] at h;cases e:src[i]? with
 |none=>rw[e] at h;cases h
 |some o=>
  rw[e] at h;cases o with
  |none=>cases h
  |some j=>
   refine⟨j,rfl,?_⟩;have h':σ.getD j none=some v:=bA h;rw[bE] at h';cases e2:σ[j]? with
   |none=>rw[e2] at h';cases h'
   |some o=>rw[e2] at h';rw[show o=some v from h']
structure eX(NB:List Str)(src:List (Option Nat))(scope:Scope)(X:Cx):Prop where
 kind:scope.kind=.function
 nd:NB.Nodup
 len:src.length=NB.length
 cells:∀y∈scope.names,y.2=.cell->scope.names.lookup y.1=some .cell
 names:∀y∈scope.names,y.2=.local->scope.names.lookup y.1=some .local
 free:∀y∈scope.names,y.2=.free->X.env.scope.names.lookup y.1=some .cell\/X.env.scope.names.lookup y.1=some .free
 src:∀ (i:Nat) (x:Str) (j:Nat),NB[i]?=some x->src[i]?=some (some j)->X.N[j]?=some x/\scope.names.lookup x=some .free
def qX(scope:Scope)(x:Str):Bool:=match scope.names.lookup x with
 |some .cell=>true
 |_=>false
theorem sH:qX scope x=true↔scope.names.lookup x=some .cell:=by
 unfold qX;split
 .rename_i h;exact⟨fun _=>h,fun _=>rfl⟩
 .rename_i h;exact⟨fun z=>(by cases z),fun z=>absurd z h⟩
def wq(X:Cx)(NB:List Str)(scope:Scope)(cl:List (Str×Addr))(C:Addr)(s₃:Shared)(H₃:Hp)(fp:List Addr):Cx:=
 { X with N:=NB,s₀:=s₃,H₀:=H₃,env:=compEnvC scope cl C X.env,outer:=X.stack,stack:=X.stack,ex:=fp,fn:=qX scope,pn:=[],xe:=fun _ _=>False }
theorem jz:∀ (names:List (Str×NameKind)) (du:List (Str×Addr)),(∀y∈names,y.2=NameKind.free->∃c,env.cells.lookup y.1=some c)->(∀x c,du.lookup x=some c->env.cells.lookup x=some c)->
  ∃cl,(forIn names du fun x r=>(if (x.2==NameKind.free)=true then (do let a <- cellOf env x.1;pure (ForInStep.yield ((x.1,a)::r))) else pure (ForInStep.yield r):Sem (ForInStep (List (Str×Addr)))))=(pure cl:Sem (List (Str×Addr)))/\
   (∀x c,cl.lookup x=some c->env.cells.lookup x=some c)/\(∀x c,du.lookup x=some c->∃c',cl.lookup x=some c')/\∀x,(x,NameKind.free)∈names->∃c,cl.lookup x=some c
 |[],du,_,ha=>⟨du,by rw[qI],ha,fun x c h=>⟨c,h⟩,fun x h=>nomatch h⟩
 |(n,k)::r,du,hf,ha=>by
  by_cases hk:k=NameKind.free
  .subst hk;obtain⟨c,hc⟩:=hf (n,NameKind.free) b_ rfl;have JK:∀x c',((n,c)::du).lookup x=some c'->env.cells.lookup x=some c':=fun x c' h=>by
    rw[dQ] at h;cases hx:x==n with
    |true=>
     rw[hx] at h;cases h;have:x=n:=by simpa using hx
     rw[this];exact hc
    |false=>rw[hx] at h;exact ha x c' h
   obtain⟨cl,e1,e2,e3,e4⟩:=jz r ((n,c)::du) (fun y hy=>hf y (bV _ hy)) JK;refine⟨cl,?_,e2,fun x c' h=>?_,fun x h=>?_⟩
   .rw[qD];have ec:cellOf env n=pure c:=by unfold cellOf;rw[hc]
    have e0:(if ((n,NameKind.free).2==NameKind.free)=true then (do let a <- cellOf env (n,NameKind.free).1;pure (ForInStep.yield (((n,NameKind.free).1,a)::du))) else pure (ForInStep.yield du):Sem (ForInStep (List (Str×Addr))))=pure (ForInStep.yield ((n,c)::du)):=by
     rw[ak (show (NameKind.free==NameKind.free)=true by decide)];show cellOf env n >>= _=_;rw[ec];rfl
    rw[e0];exact e1
   .cases hx:x==n with
    |true=>exact e3 x c (by rw[dQ,hx])
    |false=>exact e3 x c' (by rw[dQ,hx];exact h)
   .rcases aS.mp h with h|h
    .cases h;exact e3 n c (by rw[dQ];simp)
    .exact e4 x h
  .obtain⟨cl,e1,e2,e3,e4⟩:=jz r du (fun y hy=>hf y (bV _ hy)) ha;refine⟨cl,?_,e2,e3,fun x h=>?_⟩
   .rw[qD];have hb:(k==NameKind.free)=false:=by simpa using hk
    have e0:(if ((n,k).2==NameKind.free)=true then (do let a <- cellOf env (n,k).1;pure (ForInStep.yield (((n,k).1,a)::du))) else pure (ForInStep.yield du):Sem (ForInStep (List (Str×Addr))))=pure (ForInStep.yield du):=by
     rw[ai (by show ¬ (k==NameKind.free)=true;rw[hb];decide)]
    rw[e0];exact e1
   .rcases aS.mp h with h|h
    .cases h;exact absurd rfl hk
    .exact e4 x h
theorem jA(ok:X.Ok)(S:eX NB src scope X):
  ∃cl,closureFor scope X.env=pure cl/\(∀x c,cl.lookup x=some c->X.env.cells.lookup x=some c)/\∀x,(x,NameKind.free)∈scope.names->∃c,cl.lookup x=some c:=by
 obtain⟨cl,e1,e2,_,e4⟩:=jz (env:=X.env) scope.names [] (fun y hy hk=>ok.has y.1 (S.free y hy hk)) (fun x c h=>nomatch h);refine⟨cl,?_,e2,e4⟩;unfold closureFor;simp only[bind_pure];exact e1
theorem qY(h:scope.names.lookup x=some .free):(relabel scope env).names.lookup x=some .cell\/(relabel scope env).names.lookup x=some .free:=by
 have go:∀names:List (Str×NameKind),names.lookup x=some .free->
   (names.map fun (n,k)=>if (k==NameKind.free&&env.scope.kind==.function&&env.kindOf n==some .cell) then (n,NameKind.cell) else (n,k)).lookup x=some .cell\/
   (names.map fun (n,k)=>if (k==NameKind.free&&env.scope.kind==.function&&env.kindOf n==some .cell) then (n,NameKind.cell) else (n,k)).lookup x=some .free:=by
  intro names;induction names with
  |nil=>intro h;simp at h
  |cons y r ih=>
   intro h;obtain⟨n,k⟩:=y;rw[dQ] at h;rw[eR];cases hx:x==n with
   |true=>
    rw[hx] at h;cases h;by_cases hc:(NameKind.free==NameKind.free&&env.scope.kind==.function&&env.kindOf n==some .cell)=true
    .left;show List.lookup x ((if _ then _ else _)::_)=_;rw[ak hc,dQ,hx]
    .right;show List.lookup x ((if _ then _ else _)::_)=_;rw[ai hc,dQ,hx]
   |false=>
    rw[hx] at h;by_cases hc:(k==NameKind.free&&env.scope.kind==.function&&env.kindOf n==some .cell)=true
    .show List.lookup x ((if _ then _ else _)::_)=_\/List.lookup x ((if _ then _ else _)::_)=_;rw[ak hc,dQ,hx];exact ih h
    .show List.lookup x ((if _ then _ else _)::_)=_\/List.lookup x ((if _ then _ else _)::_)=_;rw[ai hc,dQ,hx];exact ih h
 exact go scope.names h
theorem j7(h:(relabel scope env).names.lookup x=some k)(hk:k=.cell\/k=.free):(x,NameKind.free)∈scope.names\/(x,NameKind.cell)∈scope.names:=by
 have m:=hU h;obtain⟨⟨n,k'⟩,hm,e⟩:=bQ.mp m;by_cases q:(k'==NameKind.free&&env.scope.kind==.function&&env.kindOf n==some .cell)=true
 .have e':(n,NameKind.cell)=(x,k):=by simpa [q] using e
  have k1:k'=NameKind.free:=by
   simp only[fQ,eS] at q;exact q.1.1
  cases e';left;rw[<-k1];exact hm
 .have e':(n,k')=(x,k):=by simpa [q] using e
  cases e';rcases hk with z|z
  .subst z;exact .inr hm
  .subst z;exact .inl hm
theorem lx:∀ (names:List (Str×NameKind)) (h:Heap) (du:List (Str×Addr)) (x:Str) (c:Addr),(cellsFrom h.objs.size names du).lookup x=some c->du.lookup x=some c\/(h.objs.size<=c/\(pushCells h names).IsCell c none)
 |[],_,_,_,_,e=>.inl e
 |(name,kind)::r,h,du,x,c,e=>by
  unfold cellsFrom at e;unfold pushCells;split at e
  .rename_i hk;rw[ak hk];have hsz:(h.push { cls:=.type "cell",data:=.cell none }).objs.size=h.objs.size+1:=gU ..;rw[<-hsz] at e;rcases lx r _ _ x c e with z|⟨z1,z2⟩
   .rw[dQ] at z;cases hx:x==name with
    |true=>
     rw[hx] at z;cases z;exact .inr ⟨aF _,_,pushCells_keeps r _ _ _ (cm _ rfl),rfl⟩
    |false=>rw[hx] at z;exact .inl z
   .exact .inr ⟨by lia,z2⟩
  .rename_i hk;rw[ai hk];exact lx r h du x c e
theorem pQ:∀ (names:List (Str×NameKind)) (n:Nat) (du:List (Str×Addr)) (x:Str),(x,NameKind.cell)∈names->∃c,n<=c/\(cellsFrom n names du).lookup x=some c:=by
 have up:∀ (names:List (Str×NameKind)) (n m:Nat) (du:List (Str×Addr)) (x:Str) (c:Addr),du.lookup x=some c->m<=c->m<=n->∃c',m<=c'/\(cellsFrom n names du).lookup x=some c':=by
  intro names;induction names with
  |nil=>intro n m du x c e h _;exact⟨c,h,e⟩
  |cons y r ih=>
   intro n m du x c e h hm;obtain⟨name,kind⟩:=y;unfold cellsFrom;split
   .cases hx:x==name with
    |true=>exact ih (n+1) m _ x n (by rw[dQ,hx]) hm (by lia)
    |false=>exact ih (n+1) m _ x c (by rw[dQ,hx];exact e) h (by lia)
   .exact ih n m du x c e h hm
 intro names;induction names with
 |nil=>intro n du x h;cases h
 |cons y r ih=>
  intro n du x h;obtain⟨name,kind⟩:=y;unfold cellsFrom;rcases aS.mp h with z|z
  .cases z;rw[ak (by decide)];exact up r (n+1) n _ x n (by rw[dQ];simp) (aF _) (by lia)
  .split
   .obtain⟨c,h1,h2⟩:=ih (n+1) ((name,n)::du) x z;exact⟨c,by lia,h2⟩
   .exact ih n du x z
theorem iT:∀ (names:List (Str×NameKind)) (n:Nat) (du:List (Str×Addr)) (x:Str) (c:Addr),du.lookup x=some c->(x,NameKind.cell)∉names->(cellsFrom n names du).lookup x=some c
 |[],_,_,_,_,e,_=>e
 |(name,kind)::r,n,du,x,c,e,h=>by
  have hr:(x,NameKind.cell)∉r:=fun z=>h (bV _ z);unfold cellsFrom;split
  .rename_i hk;have jB:(x==name)=false:=by
    cases hx:x==name with
    |false=>rfl
    |true=>
     have e1:x=name:=by simpa using hx
     have e2:kind=.cell:=by simpa using hk
     exact absurd (by rw[e1,e2];exact b_) h
   exact iT r (n+1) _ x c (by rw[dQ,jB];exact e) hr
  .exact iT r n du x c e hr
theorem lz:∀ (names:List (Str×NameKind)) (n:Nat) (du:List (Str×Addr)),(∀x y c,du.lookup x=some c->du.lookup y=some c->x=y)->(∀x c,du.lookup x=some c->c<n)->∀x y c,(cellsFrom n names du).lookup x=some c->(cellsFrom n names du).lookup y=some c->x=y
 |[],_,_,hi,_=>hi
 |(name,kind)::r,n,du,hi,hl=>by
  unfold cellsFrom;split
  .refine lz r (n+1) _ (fun x y c h1 h2=>?_) (fun x c h=>?_)
   .rw[dQ] at h1 h2;cases hx:x==name <;> cases hy:y==name <;> rw[hx] at h1 <;> rw[hy] at h2
    .exact hi x y c h1 h2
    .cases h2;exact absurd (hl x _ h1) (eQ _)
    .cases h1;exact absurd (hl y _ h2) (eQ _)
    .have e1:x=name:=by simpa using hx
     have e2:y=name:=by simpa using hy
     rw[e1,e2]
   .rw[dQ] at h;cases hx:x==name <;> rw[hx] at h
    .exact dC (hl x c h)
    .cases h;exact jR _
  .exact lz r n du hi hl
section
variable {X:Cx} {ae:List (Addr×Obj)} {σ:St} {H:Hp} {s:Shared} {NB:List Str} {src:List (Option Nat)} {scope:Scope} {cl:List (Str×Addr)} {fp:List Addr} {h₁:Heap} {t₁:Nat}
theorem CC(I:aD X ae σ H s)(S:eX NB src scope X)(c1:∀x c,cl.lookup x=some c->X.env.cells.lookup x=some c)(c2:∀x,(x,NameKind.free)∈scope.names->∃c,cl.lookup x=some c)(hf:∀b∈fp,ff X ae H b)(FW:∀b∈fp,b<s.heap.objs.size){m:Str->Option Value}(hn:h₁.Ns s.heap.objs.size m)(hk:∀b o,s.heap.get? b=some o->h₁.get? b=some o)(xO:∀x c,(cellsFrom (s.heap.objs.size+1) scope.names cl).lookup x=some c->cl.lookup x=some c\/(s.heap.objs.size<c/\h₁.IsCell c none)):
  aD (wq X NB scope (cellsFrom (s.heap.objs.size+1) scope.names cl) s.heap.objs.size s H fp) [] (EB src σ) H { s with heap:=h₁,toks:=t₁ }:=by
 have BR:∀b∈kG X.stack,b∈X.env.locals::X.fs:=I.n0;have ot:∀x c,cl.lookup x=some c->∃v,s.heap.IsCell c v:=fun x c e=>I.cell x c (c1 x c e);have NZ:∀x c,cl.lookup x=some c->c<s.heap.objs.size:=fun x c e=>by obtain⟨v,o,ho,_⟩:=ot x c e;exact aH ho
 refine⟨⟨I.ok.mod,S.kind,I.ok.glob,I.ok.blt,aF _,lz _ _ _ (fun x y c e1 e2=>I.ok.inj x y c (c1 x c e1) (c1 y c e2)) (fun x c e=>dC (NZ x c e)),fun x hx=>?_,fun x c z e=>?_,I.ok.hd,I.ok.frames,.inl rfl,fun b hb=>⟨?_,fun x c e=>?_⟩,I.bs,bn I.ok.yV I.sz,fun b o e hb=>?_,fun b hb=>?_,I.stack,I.jV⟩,
  rfl,I.bare,Un.kept hk,⟨m,hn,fun i x v e1 e2 e3=>?_⟩,fun x c e=>?_,I.bp.fresh (aF _),fun x c e=>?_,fun p hp=>absurd (show p∈([]:List (Addr×Obj)) from hp) (by simp),I.bp.kept hk,?_⟩
 .have CD:(x,NameKind.free)∈scope.names\/(x,NameKind.cell)∈scope.names:=by
   rcases hx with hx|hx
   .exact j7 hx (.inl rfl)
   .exact j7 hx (.inr rfl)
  by_cases hc:(x,NameKind.cell)∈scope.names
  .obtain⟨c,_,e⟩:=pQ scope.names (s.heap.objs.size+1) cl x hc;exact⟨c,e⟩
  .rcases CD with z|z
   .obtain⟨c,e⟩:=c2 x z;exact⟨c,iT _ _ _ _ _ e hc⟩
   .exact absurd z hc
 .have hm:=hU (sH.mp z);obtain⟨c',h1,h2⟩:=pQ scope.names (s.heap.objs.size+1) cl x hm;have e':(cellsFrom (s.heap.objs.size+1) scope.names cl).lookup x=some c:=e;rw[h2] at e';cases e';exact Nat.le_of_succ_le h1
 .exact aU (FW b hb)
 .rcases xO x c e with z|⟨z,_⟩
  .exact(hf b hb).2.2.2.2.1 x c (c1 x c z)
  .exact hZ (Nat.lt_trans (FW b hb) z)
 .rcases(hf b hb).2.2.2.1 with z|z
  .exact I.ok.nZ b o e z
  .exact absurd (bX (aH e) (bn I.ok.yV z)) (eQ _)
 .intro z;rcases aS.mp (BR b z) with e|e
  .exact(hf b hb).2.1 e
  .exact(hf b hb).2.2.1 e
 .obtain⟨j,hj,hv⟩:=CA e2;obtain⟨hN,hF⟩:=S.src i x j e1 hj;obtain⟨m0,BW,Ub⟩:=I.loc;have CF:=hU hF;have kx:=S.free _ CF rfl;have NE:Ja X.env.scope x:=by
   rcases kx with z|z
   .exact .inr (.inl z)
   .exact .inr (.inr z)
  obtain⟨u,r,l⟩:=Ub j x v hN hv NE;refine⟨u,r,.inr ⟨qY hF,?_⟩⟩;obtain⟨c,hc⟩:=c2 x CF;have Uc:(x,NameKind.cell)∉scope.names:=fun z=>by
   have:=S.cells _ z rfl;rw[hF] at this;cases this
  refine⟨c,iT _ _ _ _ _ hc Uc,?_⟩;rcases l with ⟨Ud,_⟩|⟨_,c',e,z⟩
  .have JM:X.env.scope.names.lookup x=some .local:=Ud;rcases kx with z|z <;> (rw[z] at JM;cases JM)
  .rw[c1 x c hc] at e;cases e;obtain⟨o,ho,hd⟩:=z;exact⟨o,hk _ _ ho,hd⟩
 .rcases xO x c e with z|⟨_,z⟩
  .obtain⟨v,o,ho,hd⟩:=ot x c z;exact⟨v,o,hk _ _ ho,hd⟩
  .exact⟨none,z⟩
 .rcases xO x c e with z|⟨z,_⟩
  .exact I.iw x c (c1 x c z)
  .exact I.bp.fresh (jq z)
 .show (EB src σ).length=NB.length;unfold EB;rw[aI];exact S.len
theorem aD.JN(I:aD X ae σ H s)(J:aD (wq X NB scope cl C s H fp) [] σB H' s')(hf:∀b∈fp,ff X ae H b):aD X ae σ H' s':=by
 refine I.Ev (ch:=fp) J.os J.base J.bp J.bare fun b hb=>?_;obtain⟨_,f1,_,f3,f4,f5⟩:=hf b hb;exact⟨f3,f1,f4,f5⟩
end
def Iw(X:Cx)(wr:List Expr)(t:TT):Prop:=
 ∀ (ae:List (Addr×Obj)) (s:Shared) (σ:St) (H:Hp) (Q:Bool->Hp->Prop),aD X ae σ H s->t σ H Q->
  wpAny (model X.prog X.w) X.A (forIn wr true fun c r=>if r=true then do let ok <- isTrue c X.env (eval c X.env);pure (ForInStep.yield ok) else pure (ForInStep.yield r)) (TP X ae σ Q) X.xe s
def N0:TT:=fun _ H Q=>Q true H
theorem dZ:Iw X [] N0:=fun _ _ _ H _ I h=>wpAny_tests_nil ⟨H,I,h⟩
theorem gx(h:PT X c t):Iw X [c] t:=fun ae s σ H Q I q=>wpAny_tests_one (h ae s σ H Q I q)
def fY(J:It)(g:TG)(tt:TT)(te:TE)(D:Addr)(dB:Hp->Prop)(σB:St)(H1:Hp):Prop:=
 ∃W:Nat->Nat->St->Hp->Prop,(∃m,W 0 m σB H1)/\∀i m σ H,W i m σ H->(J.stop i H/\dB H)\/(J.go i H/\∀x H',J.FF i H x H'->g x σ H' fun σ2 H2=>tt σ2 H2 fun b H3=>
  if b=true then te σ2 H3 fun v H4=>∃ys,H4 D=some (.lst ys)/\ys.length<sizeLine/\∃m',m'<m/\W (i+1) m' σ2 (upd H4 D (.lst (ys++[v]))) else ∃m',m'<m/\W (i+1) m' σ2 H3)
theorem xP(hx:B.xe=fun _ _=>False)(hc:B.calm=true)(T:o6 B.prog B.w B.K tg J fp it tn)(hg:PG B tg g)(ht:Iw B wr tt)(he:PE B yY te)(I:aD B [] σB H1 s)(st:tn 0 s.heap)(hf:∀b∈fp,ff B [] H1 b)(hw:fY J g tt te D dB σB H1)(hR:∀σ' H' s',aD B [] σ' H' s'->dB H'->R (.ok .next) s'):
  codeAny (model B.prog B.w) B.A (.compLoop (.ListComp yY [⟨tg,g8,wr,0⟩] scope pos) 0 (.ref it) (.ref D) B.env) R s:=by
 obtain⟨W,⟨m0,w0⟩,zo⟩:=hw;have u_:∀ {H':Hp},(∀b∈fp,H' b=none)->∀b∈fp,ff B [] H' b:=fun hn b hb=>⟨hn b hb,(hf b hb).2⟩
 refine codeAny_loop rfl (fun n s'=>∃i σ' H',aD B [] σ' H' s'/\tn i s'.heap/\(∀b∈fp,H' b=none)/\W i n σ' H') ?_ m0 ⟨0,σB,H1,I,st,fun b hb=>(hf b hb).1,w0⟩;rintro n s3 ⟨i,σ3,H3,I3,va,FG,w3⟩;show wpAny _ B.A ((compTurn (.ListComp yY [⟨tg,g8,wr,0⟩] scope pos) 0 (.ref it) (.ref D) B.env).onRaise (fun x=>do noteFrame x B.env;theTreesLotGoes x)) _ _ s3;refine wpAny_noted ?_;rw[compTurn_list];have nx:∀ {α:Type} {t:Sem α} {Q:α->Shared->Prop} {E':Value->Shared->Prop} {s:Shared},wpAny (model B.prog B.w) B.A t Q B.xe s->wpAny (model B.prog B.w) B.A t Q E' s:=fun h=>
  io h (fun _ _ q=>q) fun _ _ z=>by rw[hx] at z;exact z.elim
 rcases zo i n σ3 H3 w3 with ⟨stop,qn⟩|⟨go,step⟩
 .refine aw (kY (aw (bS (T.done B rfl rfl rfl hc i [] s3 σ3 H3 _ I3 (u_ FG) va stop) fun r s4 ⟨hr,I4⟩=>?_)));subst hr;exact wpAny_pure (hR σ3 H3 s4 I4 qn)
 .refine aw (kY (aw (bS (T.item B rfl rfl rfl hc i [] s3 σ3 H3 _ I3 (u_ FG) va go) fun r s4 ⟨u,hr,h4⟩=>?_)));subst hr;refine aw (bS h4 fun _ s5 ⟨x,H5,I5,r5,y5,r9,NH⟩=>?_);have NI:=I5.pinned (u_ NH) (T.obj _ _ r9);refine aw (nx (bS (hg _ s5 σ3 H5 x u _ NI r5 (step x H5 y5)) fun _ s6 ⟨σ6,H6,I6,q6⟩=>?_));have back:∀ {σ7:St} {H7:Hp} {s7:Shared} {m':Nat},aD B ([]++oa fp s5.heap) σ7 H7 s7->m'<n->W (i+1) m' σ7 H7->∃m,m<n/\∃i σ' H',aD B [] σ' H' s7/\tn i s7.heap/\(∀b∈fp,H' b=none)/\W i m σ' H':=fun {σ7 H7 s7 m'} I7 hm w7=>by
   refine⟨m',hm,i+1,σ7,H7,I7.jY,T.keep _ _ _ r9 fun b hb o e=>(I7.pin (b,o) (hG _ (hG _ (gp hb e)))).1,fun b hb=>?_,w7⟩;obtain⟨o,e,d⟩:=T.obj _ _ r9 b hb;exact(I7.pin (b,o) (hG _ (hG _ (gp hb e)))).2.1
  refine aw (nx (bS (ht _ s6 σ6 H6 _ I6 q6) fun ok s7 ⟨H7,I7,q7⟩=>?_));cases ok with
  |false=>
   rw[ai bT] at q7;obtain⟨m',hm,w7⟩:=q7;exact wpAny_pure ⟨rfl,back I7 hm w7⟩
  |true=>
   rw[ak rfl] at q7;refine aw (aw (nx (bS (he _ s7 σ6 H7 _ I7 q7) fun v s8 ⟨y,H8,I8,r8,ys,hD,hl,m',hm,w8⟩=>?_)));refine aw (nx (bS (bv _ s8 σ6 H8 (.ref D) [y] (.ref D) [v] (fun _ H9=>H9=upd H8 D (.lst (ys++[y]))) I8 rfl (.cons r8 .nil) ⟨D,ys,y,rfl,rfl,hD,hl,rfl⟩) fun _ s9 ⟨_,H9,I9,_,e9⟩=>?_));subst e9;exact wpAny_pure (wpAny_pure ⟨rfl,back I9 hm w8⟩)
theorem qZ(hQ:Q { scope:=scope,locals:=s.heap.objs.size,globals:=globals,cells:=cellsFrom (s.heap.objs.size+1) scope.names cl,qual:=qual,func:=none,code:=outer.code,frame:=outer.frame,builtins:=outer.builtins }
   { s with heap:=pushCells (s.heap.push { cls:=.type "dict",data:=.dict #[] }) scope.names }):
  wpAny M A (newFunctionEnv scope globals cl [] qual none .none (some outer)) Q E s:=by
 simp only[newFunctionEnv,Option.isSome_some,if_true];refine aw (wpAny_alloc ?_);refine aw (wpAny_layCells _ (fun name kind cells=>by cases Ue:kind==NameKind.cell <;> simp[Ue]) _ _ _ _ ?_);rw[show ({ s with heap:=s.heap.push { cls:=.type "dict",data:=.dict #[] } }:Shared).heap.objs.size=s.heap.objs.size+1 from gU ..];refine aw ?_;rw[qI];exact wpAny_pure (wpAny_pure hQ)
section
variable {X:Cx} {yY tg g8:Expr} {wr:List Expr} {scope:Scope} {pos:Pos} {wi:TI} {g:TG} {tt:TT} {te:TE} {NB:List Str} {src:List (Option Nat)}
def EC(src:List (Option Nat))(wi:TI)(g:TG)(tt:TT)(te:TE):TE:=fun σ H Q=>wi σ H fun J H1=>∀D,H1 D=none->fY J g tt te D (fun H'=>Q (.ref D) H') (EB src σ) (upd H1 D (.lst []))
theorem ou{ae:List (Addr×Obj)}{σ:St}{H2:Hp}{s2:Shared}{J:It}{fp:List Addr}{it:Addr}{tn:Nat->Heap->Prop}{cl:List (Str×Addr)}{dB:Addr->Hp->Prop}{E':Value->Shared->Prop}{RR:Value->Addr->Result->Shared->Prop}(S:eX NB src scope X)(hc:X.calm=true)(c1:∀x c,cl.lookup x=some c->X.env.cells.lookup x=some c)(c2:∀x,(x,NameKind.free)∈scope.names->∃c,cl.lookup x=some c)(hg:∀cl C s₃ H₃ fp,PG (wq X NB scope cl C s₃ H₃ fp) tg g)(ht:∀cl C s₃ H₃ fp,Iw (wq X NB scope cl C s₃ H₃ fp) wr tt)(he:∀cl C s₃ H₃ fp,PE (wq X NB scope cl C s₃ H₃ fp) yY te)(I2:aD X ae σ H2 s2)(T:o6 X.prog X.w X.K tg J fp it tn)(u9:tn 0 s2.heap)(f2:∀b∈fp,ff X ae H2 b)(hw:∀D,H2 D=none->fY J g tt te D (dB D) (EB src σ) (upd H2 D (.lst [])))(hR:∀D C H' s',ff X ae H' C->aD X ae σ H' s'->(∃m,s'.heap.Ns C m)->dB D H'->RR (.ref D) C (.ok .next) s'):
  wpAny (model X.prog X.w) X.A (newList []) (fun du s₃=>wpAny (model X.prog X.w) X.A (newFunctionEnv scope X.env.globals cl [] X.env.qual none .none (some X.env)) (fun JO s₄=>
   codeAny (model X.prog X.w) X.A (.compStart (.ListComp yY [⟨tg,g8,wr,0⟩] scope pos) 0 (.ref it) du { JO with scope:=relabel scope X.env }) (RR du JO.locals) s₄) E' s₃) E' s2:=by
 refine qC (qZ ?_);have I3:=I2.JG (ys:=[]) (its:=[]) (t':=s2.toks) .nil (cE _);have hD:H2 s2.heap.objs.size=none:=I2.fresh;have fo:∀b∈fp,b<s2.heap.objs.size:=fun b hb=>by obtain⟨o,e,_⟩:=T.obj _ _ u9 b hb;exact aH e
 have up:∀ {b:Addr},b∈fp->upd H2 s2.heap.objs.size (.lst []) b=H2 b:=fun {b} hb=>am (aU (fo b hb));have f3:∀b∈fp,ff X ae (upd H2 s2.heap.objs.size (.lst [])) b:=fun b hb=>⟨by rw[up hb];exact(f2 b hb).1,(f2 b hb).2⟩
 have hsz:(s2.heap.push { cls:=.type "list",data:=.seq ([]:List Value).toArray }).objs.size=s2.heap.objs.size+1:=by rw[gU]
 generalize Uf:({ s2 with heap:=s2.heap.push { cls:=.type "list",data:=.seq ([]:List Value).toArray } }:Shared)=s3 at I3 |-;have RX:s3.heap=s2.heap.push { cls:=.type "list",data:=.seq ([]:List Value).toArray }:=by rw[<-Uf]
 have RY:∀b∈fp,b<s3.heap.objs.size:=fun b hb=>by rw[RX,hsz];exact dC (fo b hb)
 have JP:(s3.heap.push { cls:=.type "dict",data:=.dict #[] }).objs.size=s3.heap.objs.size+1:=gU ..;have xO:∀x c,(cellsFrom (s3.heap.objs.size+1) scope.names cl).lookup x=some c->cl.lookup x=some c\/(s3.heap.objs.size<c/\(pushCells (s3.heap.push { cls:=.type "dict",data:=.dict #[] }) scope.names).IsCell c none):=fun x c e=>by
  rw[<-JP] at e;rcases lx _ _ _ _ _ e with z|⟨z1,z2⟩
  .exact .inl z
  .exact .inr ⟨by rw[JP] at z1;exact z1,z2⟩
 have JQ:=(Heap.Ns.new s3.heap (.type "dict")).keeps (pushCells_keeps scope.names _);have keep:∀b o,s3.heap.get? b=some o->(pushCells (s3.heap.push { cls:=.type "dict",data:=.dict #[] }) scope.names).get? b=some o:=fun b o e=>pushCells_keeps _ _ b o (bN _ e);generalize WY:pushCells (s3.heap.push { cls:=.type "dict",data:=.dict #[] }) scope.names=h₁ at xO JQ keep |-;have IB:aD (wq X NB scope (cellsFrom (s3.heap.objs.size+1) scope.names cl) s3.heap.objs.size s3 (upd H2 s2.heap.objs.size (.lst [])) fp) [] (EB src σ) (upd H2 s2.heap.objs.size (.lst [])) { s3 with heap:=h₁,toks:=s3.toks }:=
  CC I3 S c1 c2 f3 RY JQ keep xO
 have RZ:tn 0 h₁:=T.keep 0 s2.heap h₁ u9 fun b hb o e=>keep b o (by rw[RX];exact bN _ e);have fB:∀b∈fp,ff (wq X NB scope (cellsFrom (s3.heap.objs.size+1) scope.names cl) s3.heap.objs.size s3 (upd H2 s2.heap.objs.size (.lst [])) fp) [] (upd H2 s2.heap.objs.size (.lst [])) b:=fun b hb=>by
  refine⟨(f3 b hb).1,aU (RY b hb),fun z=>?_,.inl hb,fun x c e=>(IB.ok.Np b hb).2 x c e,fun p hp=>absurd (show p∈([]:List (Addr×Obj)) from hp) (by simp)⟩;rcases aS.mp (I3.n0 b z) with e|e
  .exact(f3 b hb).2.1 e
  .exact(f3 b hb).2.2.1 e
 have loop:codeAny (model X.prog X.w) X.A (.compLoop (.ListComp yY [⟨tg,g8,wr,0⟩] scope pos) 0 (.ref it) (.ref s2.heap.objs.size) (compEnvC scope (cellsFrom (s3.heap.objs.size+1) scope.names cl) s3.heap.objs.size X.env)) (RR (.ref s2.heap.objs.size) s3.heap.objs.size)
   { s3 with heap:=h₁,toks:=s3.toks }:=by
  refine xP (B:=wq X NB scope (cellsFrom (s3.heap.objs.size+1) scope.names cl) s3.heap.objs.size s3 (upd H2 s2.heap.objs.size (.lst [])) fp) rfl hc T (hg _ _ _ _ _) (ht _ _ _ _ _) (he _ _ _ _ _) IB RZ fB (hw _ hD) fun σ' H' s' J' q=>?_;obtain⟨m,hm,_⟩:=J'.loc;exact hR _ _ H' s' (I3.sq (aF _) J'.free) (I3.JN J' f3) ⟨m,hm⟩ q
 exact codeAny_compStart_list loop (T.self _ 0 _ _ _ RZ loop)
theorem cL(S:eX NB src scope X)(hc:X.calm=true)(hi:PI X tg g8 wi)(hg:∀cl C s₃ H₃ fp,PG (wq X NB scope cl C s₃ H₃ fp) tg g)(ht:∀cl C s₃ H₃ fp,Iw (wq X NB scope cl C s₃ H₃ fp) wr tt)(he:∀cl C s₃ H₃ fp,PE (wq X NB scope cl C s₃ H₃ fp) yY te)(hs:∀x,foldedSetIterable g8 X.env x=pure x:=by intro _;rfl):PE X (.ListComp yY [⟨tg,g8,wr,0⟩] scope pos) (EC src wi g tt te):=by
 intro ae s σ H Q I h;obtain⟨cl,ED,c1,c2⟩:=jA I.ok S;rw[eval_ListComp];refine wpAny_comprehension_free (use:=none) (cl:=cl) rfl hs ED S.kind S.names (bS (hi ae s σ H _ I h) fun v s1 h1=>bS h1 fun ME s2 h2=>?_);obtain⟨it,fp,tn,J,H2,e,I2,T,u9,f2,hw⟩:=h2;subst e;refine ou (RR:=fun du C=>compPost (model X.prog X.w) X.A X.xe none (EP X ae σ Q) du C) S hc c1 c2 hg ht he I2 T u9 f2 hw fun D C H' s' fC I' hm q=>?_;obtain⟨m,hm⟩:=hm;refine⟨m,hm,fun h' sb=>⟨.ref D,H',?_,rfl,q⟩⟩;obtain⟨g0,g1,_,g3,g4,g5⟩:=fC;exact I'.turned (t':=s'.toks) (fun b o hb e=>(sb.2 b hb).trans e) g0 g1 g3 g4 g5
theorem jC{i:Nat}{y:Str}{py JR:Pos}(S:eX NB src scope X)(hc:X.calm=true)(hi:PI X tg g8 wi)(hg:∀cl C s₃ H₃ fp,PG (wq X NB scope cl C s₃ H₃ fp) tg g)(ht:∀cl C s₃ H₃ fp,Iw (wq X NB scope cl C s₃ H₃ fp) wr tt)(he:∀cl C s₃ H₃ fp,PE (wq X NB scope cl C s₃ H₃ fp) yY te)(hN:X.N.Nodup)(Ug:X.N[i]?=some y)(hy:X.env.scope.names.lookup y=some .local)(Uh:swapsWith (.ListComp yY [⟨tg,g8,wr,0⟩] scope pos) (some (.Name y py)) JR.line X.env=pure true)(hs:∀x,foldedSetIterable g8 X.env x=pure x:=by intro _;rfl):
  PS X (.Assign [.Name y py] (.ListComp yY [⟨tg,g8,wr,0⟩] scope pos) JR) (FB (EC src wi g tt te) (bR i)):=by
 intro ae s σ H D0 I h;obtain⟨cl,ED,c1,c2⟩:=jA I.ok S;rw[exec_Assign_Name_used _ _ _ _ Uh];refine aw (kY (aw ?_));show wpAny _ X.A (do let _ <- comprehension (.ListComp yY [⟨tg,g8,wr,0⟩] scope pos) scope X.env _ (newList []) false (eval g8 X.env) (some (assign (.Name y py) X.env))) _ _ s;refine aw (io (wpAny_comprehension_free (use:=some (assign (.Name y py) X.env)) (Q:=fun _ s'=>SP X ae D0 .next s') (cl:=cl) rfl hs ED S.kind S.names
  (bS (hi ae s σ H _ I h) fun v s1 h1=>bS h1 fun ME s2 h2=>?_)) (fun _ s' hq=>wpAny_pure (wpAny_pure hq)) fun _ _ e=>e)
 obtain⟨it,fp,tn,J,H2,e,I2,T,u9,f2,hw⟩:=h2;subst e;refine ou (RR:=fun du C=>compPost (model X.prog X.w) X.A X.xe (some (assign (.Name y py) X.env)) (fun _ s'=>SP X ae D0 .next s') du C) S hc c1 c2 hg ht he I2 T u9 f2 hw fun D C H' s' fC I' hm q=>?_;obtain⟨m,hm⟩:=hm;obtain⟨g0,g1,_,g3,g4,g5⟩:=fC;show wpAny _ X.A (assign (.Name y py) X.env (.ref D)) _ _ _;refine wpAny_assign_Name (pF I' hN Ug (.inl hy) (v:=.ref D) rfl (fun Cu Ui sb=>?_) (.inr hy));obtain⟨a,sb,ha⟩:=sb;have jB:C≠a:=by
  rcases ha with z|z
  .rw[z];exact g1
  .exact fun z'=>g4 y a z z'.symm
 refine⟨m,hm.sameBut sb jB,fun h' Uj=>⟨_,H',Ui.turned (t':=Cu.toks) (fun b o hb e=>(Uj.2 b hb).trans e) g0 g1 g3 g4 g5,q⟩⟩
end
structure JS(P:Program)(w:World)(outer:List Env)(H:Hp)(s:Shared)(B:Heap)(p:Addr)(C a0:Value)(H':Hp)(s':Shared):Prop where
 os:s'.os=s.os
 bare:AllBare s'.gens
 bp:ge P w H' B
 keep:∀b o,s.heap.get? b=some o->H b=none->b∉kG outer->B.get? b=some o/\H' b=none
 frame:∀b o,s.heap.get? b=some o->H b=none->b∈kG outer->(∃sl,s'.heap.get? b=some { o with slots:=sl })/\H' b=none
 there:∀b o,s.heap.get? b=some o->H b≠none->∃o',B.get? b=some o'
 gj:∀b xs,H b=some (.tup xs)->H' b=some (.tup xs)
 iq:∀b o u,H b=some (.pE o u)->H' b=some (.pE o u)
 ir:∀b ps,H b=some (.mO ps)->∃more,H' b=some (.mO (ps++more))
 fl:Heap.FlyingW B outer p C a0 s'.heap
def iU(P:Program)(w:World):sA:=fun outer H s E e s'=>∃p C a0 B H',e=.ref p/\JS P w outer H s B p C a0 H' s'/\E C none H'
section
variable {P:Program} {w:World} {K:PySem.W.Frag} {mg:Str->Option Value} {base:Heap} {N:List Str} {qual:Str} {scope:Scope} {f:Addr} {cd:Value} {A:Around} {outer:List Env} {s:Shared} {H:Hp} {E:XK}
abbrev N3(h:Heap)(l:List Env):Heap:=PySem.W.hideAll h (kG l)
theorem CG{l:List Env}{H1:Hp}{h:Heap}(ok:ge P w H1 h)(nf:∀b∈kG l,H1 b=none):ge P w H1 (N3 h l):=fun a o e=>by
 refine(ok a o e).jU (fun b u hb q=>qr _ q fun z=>?_) (fun _ q=>q) fun _ _ q=>q;have n:=nf b z;rcases hb with rfl|hb
 .rw[n] at e;cases e
 .rw[n] at hb;cases hb
theorem j8{ae:List (Addr×Obj)}{σ:St}{H1:Hp}{s1:Shared}{h':Heap}{e:Addr}{C:Value}{vs:List Value}(I:aD (gv (iU P w) P w K mg base N qual scope f cd A outer s H E) ae σ H1 s1)(hx:Heap.MadeExcOf s1.heap h' e C vs)(q:E C none H1):
  (gv (iU P w) P w K mg base N qual scope f cd A outer s H E).xe (.ref e) { s1 with heap:=h' }:=by
 have BR:kG (envOfC qual scope s.heap.objs.size f cd::outer)=s.heap.objs.size::kG outer:=rfl;have N4:=I.stack;refine wpAny_leaves_madeW (base:=N3 s1.heap (envOfC qual scope s.heap.objs.size f cd::outer)) (h:=s1.heap) (L:=s.heap.objs.size) I.ok.frames rfl (fun b o z=>PySem.W.of_hideAll _ z)
  (PySem.W.funFrames_hide N4 fun env he b hb=>jg.mpr ⟨env,he,hb⟩) hx fun h2 t x1 x2 x3 x4=>?_
 have Uk:∀b o,s1.heap.get? b=some o->b∉kG outer->b<s.heap.objs.size->(N3 s1.heap (envOfC qual scope s.heap.objs.size f cd::outer)).get? b=some o:=fun b o z hb de=>
  qr _ z fun m=>by
   rw[BR] at m;rcases aS.mp m with z'|z'
   .exact absurd de (by rw[z'];exact eQ _)
   .exact hb z'
 refine⟨e,C,.ref t,_,H1,rfl,⟨I.os,I.bare,CG I.bp I.jV,fun b o z n hb=>⟨Uk b o (I.base.keep b o z n hb (by intro m;exact absurd (show b∈([]:List Addr) from m) (by simp))) hb (aH z),I.base.free b o z n (by intro m;exact absurd (show b∈([]:List Addr) from m) (by simp))⟩,
  fun b o z n hb=>⟨?_,I.base.free b o z n (by intro m;exact absurd (show b∈([]:List Addr) from m) (by simp))⟩,fun b o z n=>?_,I.base.gj,I.base.iq,I.base.ir,x1⟩,q⟩
 .obtain⟨sl,z1⟩:=I.base.slot b o z n hb (by intro m;exact absurd (show b∈([]:List Addr) from m) (by simp));obtain⟨_,o',si,nd⟩:=I.ok.jw.mem hb;have e':o'=o:=bA (si.symm.trans z);subst e';obtain⟨R0,z2⟩:=x4 b _ (hx.keeps _ _ z1) nd;exact⟨R0,z2⟩
 .have Ul:b∉kG (envOfC qual scope s.heap.objs.size f cd::outer):=fun m=>by
   rw[BR] at m;rcases aS.mp m with z'|z'
   .exact absurd (aH z) (by rw[z'];exact eQ _)
   .exact n (I.ok.B9 b z')
  obtain⟨o',z1⟩:=I.base.there b o z (by intro m;exact absurd (show b∈([]:List Addr) from m) (by simp));exact⟨o',qr _ z1 Ul⟩
theorem sI{E':XK}(hE:∀C d H',E' C d H'->E C d H'):gu (iU P w) (gv (iU P w) P w K mg base N qual scope f cd A outer s H E) E':=by
 intro ae σ H1 s1 e s' I h;obtain⟨p,C,a0,B,H',rfl,F,q⟩:=h;have BR:kG (envOfC qual scope s.heap.objs.size f cd::outer)=s.heap.objs.size::kG outer:=rfl;have nZ:∀b:Addr,b∉(gv (iU P w) P w K mg base N qual scope f cd A outer s H E).ex:=fun b m=>absurd (show b∈([]:List Addr) from m) (by simp);have R1:∀b o,s.heap.get? b=some o->b∉kG outer->b∉kG (gv (iU P w) P w K mg base N qual scope f cd A outer s H E).stack:=fun b o z hb m=>by
  have m':b∈s.heap.objs.size::kG outer:=m;rcases aS.mp m' with z'|z'
  .exact absurd (aH z) (by rw[z'];exact eQ _)
  .exact hb z'
 show wpAny _ _ (leaving (envOfC qual scope s.heap.objs.size f cd) (.ref p)) _ _ s';refine wpAny_leaves_onW (outer:=outer) (L:=s.heap.objs.size) I.ok.frames rfl F.fl fun h2 x1 x2=>?_;refine⟨p,C,a0,B,H',rfl,⟨F.os.trans I.os,F.bare,F.bp,fun b o z n hb=>?_,fun b o z n hb=>?_,fun b o z n=>?_,fun b xs z=>F.gj b xs (I.base.gj b xs z),fun b o u z=>F.iq b o u (I.base.iq b o u z),fun b ps z=>?_,x1⟩,hE _ _ _ q⟩
 .exact F.keep b o (I.base.keep b o z n hb (nZ b)) (I.base.free b o z n (nZ b)) (R1 b o z hb)
 .obtain⟨sl,z1⟩:=I.base.slot b o z n hb (nZ b);have iZ:b∈kG (gv (iU P w) P w K mg base N qual scope f cd A outer s H E).stack:=bV _ hb;obtain⟨⟨R0,z2⟩,n2⟩:=F.frame b _ z1 (I.base.free b o z n (nZ b)) iZ;obtain⟨_,o',si,nd⟩:=I.ok.jw.mem hb;have e':o'=o:=bA (si.symm.trans z);subst e';obtain⟨Um,z3⟩:=x2 b _ z2 nd;exact⟨⟨Um,z3⟩,n2⟩
 .obtain⟨o',z1⟩:=I.base.there b o z (nZ b);have CH:b∉kG outer:=fun m=>n (I.ok.B9 b m);cases n1:H1 b with
  |none=>exact⟨o',(F.keep b o' z1 n1 (R1 b o z CH)).1⟩
  |some u=>exact F.there b o' z1 (by rw[n1];intro z';cases z')
 .obtain⟨m1,z1⟩:=I.base.ir b ps z;obtain⟨m2,z2⟩:=F.ir b _ z1;exact⟨m1++m2,by rw[z2,Array.append_assoc]⟩
theorem FX:PassesOwn (model P w) (gv (iU P w) P w K mg base N qual scope f cd A outer s H E).A (gv (iU P w) P w K mg base N qual scope f cd A outer s H E).env (gv (iU P w) P w K mg base N qual scope f cd A outer s H E).xe:=by
 intro e s' h;exact PassesOwn.leaving (M:=model P w) (A:=A.deeper (envOfC qual scope s.heap.objs.size f cd)) (env:=envOfC qual scope s.heap.objs.size f cd) (Q₁:=fun e Cu=>iU P w outer H s E e Cu) (E₁:=fun e' Cu=>iU P w outer H s E e' Cu) e s' h
end
theorem wu{P:Program}{w:World}{X:Cx}:gu (iU P w) X E0:=fun _ _ _ _ _ _ _ h=>by
 obtain⟨_,_,_,_,_,_,_,q⟩:=h;exact q.elim
open PySem PySem.Spec PyProof.Rows PySem.W
abbrev Uo:List Value:=[.type "ValueError",.type "Exception",.type "BaseException",.type "object"]
structure o9(K:PySem.W.Frag)(C:Addr):Prop where
 ex:PySem.W.excIn K C Uo "ValueError.__new__"=true
 kp:PySem.W.keepIn K (.ref C)=true
 ga:PySem.W.findIn K (.ref C) "__getattribute__"=some (some (.builtin "BaseException.__getattribute__"))
 gt:PySem.W.findIn K (.ref C) "__getattr__"=some none
 cl:PySem.W.findIn K (.ref C) "__class__"=some (some (.builtin "object.__class__"))
 mo:PySem.W.mroIn K C (.type "object")=some true
 mb:PySem.W.mroIn K C (.type "BaseException")=some true
 ty:(PySem.W.clsIn K C).isSome=true
theorem zQ{K:PySem.W.Frag}{h:Heap}{C:Addr}{R3:List Value}{EE:String}(X:K.In h)(q:PySem.W.excIn K C R3 EE=true):
  ∃bm N nm qn bs hdct sn sub ab col dd k0 k1 k2 k3 k5 mN,h.get? C=some (excClassObj nm qn C N bs bm hdct sn sub ab col dd k0 k1 k2 k3 k5 EE)/\h.Ns N mN/\mN "__init__"=none/\OwnTail h R3 bm:=by
 unfold PySem.W.excIn at q;split at q
 .rename_i dd cd sl ho;split at q
  .rename_i C' bm k0 k1 k2 k3 n k5 hm hs;simp only[fQ,eS,Bool.not_eq_true'] at q;obtain⟨⟨⟨⟨⟨rfl,rfl⟩,JT⟩,ht⟩,bp⟩,MJ⟩:=q;obtain⟨nm,bs,mro,ns,qn,hd,sn,sub,ab,col,WZ⟩:=cd;dsimp only at hm JT bp MJ;subst hm JT;have Ix:sl=#[k0,k1,k2,k3,some (.builtin n),k5]:=by
    obtain⟨l⟩:=sl;simp only at hs;rw[hs]
   subst Ix;exact⟨bm,ns,nm,qn,bs,hd,sn,sub,ab,col,dd,k0,k1,k2,k3,k5,_,X _ _ ho,.of_isNs (isNs_of_in X bp),nsMap_none_of_in X bp MJ,tail_of_in X ht⟩
  .cases q
 .cases q
def N5(p:Addr)(C:Value)(h:Heap):Prop:=∃o,h.get? p=some o/\o.cls=C
abbrev N6(p:Addr)(C:Value):HO:=.ext (N5 p C)
theorem bG.get(x:bG P w H h a o):∃u,h.get? a=some u:=by
 cases o with
 |lst xs=>obtain⟨_,_,_,_,e⟩:=x;exact⟨_,e⟩
 |tup xs=>obtain⟨_,_,_,ob,e,_⟩:=x;exact⟨_,e⟩
 |dK a8=>obtain⟨_,_,_,_,o,_,_,e,_⟩:=x;exact⟨_,e⟩
 |dT a8=>obtain⟨_,_,_,_,o,_,_,e,_⟩:=x;exact⟨_,e⟩
 |set S n=>obtain⟨o,_,_,_,e,_⟩:=x;exact⟨_,e⟩
 |ins C dx fs=>obtain⟨_,_,_,e,_⟩:=x;exact⟨_,e⟩
 |own y=>exact x
 |xd fs=>obtain⟨_,⟨_,_,_,e,_⟩,_⟩:=x;exact⟨_,e⟩
 |Mq lo hi=>obtain⟨_,_,_,e⟩:=x;exact⟨_,e⟩
 |pE ob u=>obtain⟨e,_⟩:=x;exact⟨_,e⟩
 |mO ps=>exact⟨_,(show h.get? a=some _ from x)⟩
 |met f y=>exact⟨_,(show h.get? a=some _ from x)⟩
 |ext φ=>exact x.2.1
theorem ge.q0(x:ge P w H h)(e:h.get? a=none):H a=none:=by
 cases q:H a with
 |none=>rfl
 |some u=>obtain⟨o,z⟩:=(x a u q).get;rw[e] at z;cases z
theorem aD.EF(I:aD X ae σ H s)(k:∀b u,s.heap.get? b=some u->h'.get? b=some u)(hp:s.heap.get? a=none)(new:bG X.prog X.w (upd H a o) h' a o):
  aD X ae σ (upd H a o) { s with heap:=h',toks:=t' }:=by
 have hn:=I.bp.q0 hp;have ne:∀b u,s.heap.get? b=some u->b≠a:=fun b u e z=>by rw[z,hp] at e;cases e
 refine I.un ⟨fun b u e _ _ _=>k b u e,fun b u e _ _ _=>⟨u.slots,k b u e⟩,fun b u e n _=>by rw[am (ne b u e)];exact n,fun b u e _=>⟨u,k b u e⟩,fun b xs e=>by rw[am (ao e hn)];exact e,fun b u v e=>by rw[am (ao e hn)];exact e,fun b ps e=>⟨#[],by rw[am (ao e hn),e];simp⟩⟩ fun b u e=>?_;by_cases hb:b=a
 .subst hb;rw[af] at e;cases e;exact new
 .rw[am hb] at e;exact(I.bp b u e).jU (fun c v _ q=>k c v q) (fun c q=>by rw[am (ao q hn)];exact q) fun c xs q=>by rw[am (ao q hn)];exact q
section
variable {prog:Program} {w:World} {A:Around} {E:Value->Shared->Prop} {s:Shared} {K:PySem.W.Frag} {x C:Addr} {ox:Obj}
theorem wv(hx:h.get? x=some ox)(hc:ox.cls=.ref C):PySem.W.Looks M h (typeOf (.ref x)) (.ref C):=hc ▸ (PySem.W.Looks.ld hx).andThen .now
open Builtin Builtin.ObjectAttr Builtin.Getset_descriptor in
theorem vm(X:K.In s.heap)(hx:s.heap.get? x=some ox)(hc:ox.cls=.ref C)(hm:PySem.W.mroIn K C (.type "object")=some true)(h:R (.ok (.ret (.ref C))) s):codeAny (model prog w) A (.call (.builtin "getset_descriptor.__get__") ⟨[.builtin "object.__class__",.ref x,tp],[]⟩) R s:=by
 obtain⟨hh,g,dr,t,os⟩:=s;have L0:=wv (M:=model prog w) hx hc;have L1:=looks_mroIn (M:=model prog w) X hm;refine uL KF.slot_gs.plain KF.entry_gs (KF.slot_gs.check _ _ _ _ _ _ _ _ KF.type_class (KF.args_gs _ _ _) ?_);unfold Builtin.«getset_descriptor.__get__» descrGet;rw[dga_obj];refine aw (wpAny_pure ?_);unfold descrGetter descrCheckInstance descrNameAndClass isInstance;simp only[KF.owner_class];repeat lk
 refine⟨Code.quiet_builtin _ (by decide +kernel),qK KF.entry_class ?_⟩;unfold Builtin.«object.__class__» shownTypeOf;repeat lk
 exact h
theorem xQ{g d t os}(T:o9 K C)(X:K.In h)(hx:h.get? x=some ox)(hc:ox.cls=.ref C)(hq:Q (.done (.ret (.ref C))) ⟨h,g,d,t,os⟩):
  wpAny (model prog w) A (Builtin.«object.__getattribute__» ⟨[.ref x,.str "__class__" tk],[]⟩) Q E ⟨h,g,d,t,os⟩:=by
 have f5:=F.typeOf_bexc_args;have W0:(⟨h,g,d,t,os⟩:Shared).TypeIs (.builtin "object.__class__") "getset_descriptor":=y7;have W1:=y7;have f6:=F.slot_gs_get.lookup;have f7:=F.slot_gs_set.lookup;have L1:=looks_findIn (M:=model prog w) X T.cl;repeat (any_goals (first|assumption|(with_reducible refine uX hx ?_;rw[hc])|with_reducible refine L1.at ?_|wp_step))
 refine vm (s:=⟨h,g,d,t,os⟩) X hx hc T.mo ?_;repeat (any_goals (first|assumption|wp_step))
theorem xR{g d t os}(T:o9 K C)(X:K.In h)(hx:h.get? x=some ox)(hc:ox.cls=.ref C)(hq:Q () ⟨h,g,d,t,os⟩):
  wpAny M A (checkBuiltinCall "BaseException.__getattribute__" ⟨[.ref x,JU],[]⟩) Q E ⟨h,g,d,t,os⟩:=by
 have hk:builtinKind "BaseException.__getattribute__"=some .slot:=by decide +kernel
 have FY:splitId "BaseException.__getattribute__"=some ("BaseException","__getattribute__"):=by decide +kernel
 have ha:=F.args_bexc_ga (.ref x) JU;have L1:=looks_mroIn (M:=M) X T.mb;simp only[checkBuiltinCall,hk,FY];refine aw ?_
 .unfold isInstance;repeat (first|(with_reducible refine uX hx ?_;rw[hc])|with_reducible refine L1.at ?_|wp_step)
  exact hq
theorem FZ{tk:Tok}{fill Ck:Bool}{Q:Value->Shared->Prop}{h:Heap}{g d t os}(T:o9 K C)(X:K.In h)(hx:h.get? x=some ox)(hc:ox.cls=.ref C)(hq:Q (.ref C) ⟨h,g,d,t,os⟩):
  wpAny (model prog w) A (getAttrBy (.ref x) (.str "__class__" tk) fill Ck) Q E ⟨h,g,d,t,os⟩:=by
 have f3:=F.attr_ValueError.ga.bind (.ref x);have W2:(Ck&&onTheHeap (Value.builtin "BaseException.__getattribute__"))=false:=by cases Ck <;> rfl
 have Up:(Value.builtin "BaseException.__getattribute__"==Value.builtin "object.__getattribute__")=false:=by decide +kernel
 have W3:(onTheHeap (Value.ref C)&&Value.builtin "BaseException.__getattribute__"==Value.builtin "object.__getattribute__")=false:=by rw[Up];rfl
 have L1:=looks_findIn (M:=model prog w) X T.ga;have L2:=looks_findIn (M:=model prog w) X T.gt;repeat (any_goals (first|assumption|(with_reducible refine uX hx ?_;rw[hc])|with_reducible refine L1.at ?_|with_reducible refine L2.at ?_|wp_step))
 refine uL F.attr_ValueError.ga.plain F.entry_bexc_ga (xR T X hx hc (xQ T X hx hc ?_));repeat (any_goals (first|assumption|wp_step))
theorem zR{Q:Option Value->Shared->Prop}{h:Heap}{g d t os}(T:o9 K C)(X:K.In h)(hx:h.get? x=some ox)(hc:ox.cls=.ref C)(hq:Q (some (.ref C)) ⟨h,g,d,t+1,os⟩):
  wpAny (model prog w) A (getAttr? (.ref x) "__class__") Q E ⟨h,g,d,t,os⟩:=by
 unfold getAttr?;repeat (any_goals (first|assumption|with_reducible apply FZ T X hx hc|wp_step))
theorem zS(T:o9 K C):PySem.W.KitX K (.ref x) (.ref C) (N5 x (.ref C)) where
 ty:=fun _ _ _ ⟨o,e,c⟩=>wv e c
 it:=fun _ _ X _=>by
  obtain⟨Uq,Cn⟩:=pB.mp T.ty;unfold clsIn at Cn;split at Cn
  .rename_i c' d' Ur Nt ho;intro A' Q' E' s' k q;unfold isType loadHead;exact aw (wpAny_loadPart (k _ _ (X _ _ ho)) (wpAny_pure q))
  .cases Cn
 ne:=fun h tp dd its n sl X N8=>by
  obtain⟨Uq,Cn⟩:=pB.mp T.ty;refine uQ.mpr fun q=>?_;have e:C=tp:=Value.ref.inj (eS.mp q);subst e;unfold clsIn at Cn;split at Cn
  .rename_i c' d' Ur Nt ho;have z:=(X _ _ ho).symm.trans N8;cases z
  .cases Cn
 ca:=fun {_ _ _ _ _ s} X ⟨o,e,c⟩ k=>by
  obtain⟨h,g,d,t,os⟩:=s;exact zR T X e c k
end
section
variable {X:Cx}
inductive Iy (K:PySem.W.Frag) (H:Hp):V->Value->Prop where
 |of {v:V} {t:Value} (h:lw K H v t):Iy K H v t
 |exc {p C:Addr} (T:o9 K C) (e:H p=some (N6 p (.ref C))):Iy K H (.ref p) (.ref C)
def JV(K:PySem.W.Frag):List V->Hp->VK->Prop:=fun xs H Q=>∃x c cv t b,xs=[x,c]/\(c=.ty cv/\PySem.W.kitOne K t (.type cv)=some b)/\Iy K H x t/\Q (.bl b) H
theorem eY:fu X (.builtin "isinstance") (JV X.K):=by
 intro ae s σ H xs us Q I r h;obtain⟨x,c,cv,t,b,rfl,⟨rfl,e⟩,ty,q⟩:=h;obtain⟨u1,u2,rfl,r1,r2⟩:=r.two;obtain rfl:u2=Value.type cv:=r2;cases ty with
 |of ty=>exact xI I r1 ty e fun tk=>⟨.bl b,H,I.tok tk,rfl,q⟩
 |@exc p C T ea=>
  obtain rfl:u1=Value.ref p:=r1;have p1:N5 p (.ref C) s.heap:=(I.bp p _ ea).1;exact gR (zS T) I.k7 p1 e (fun z=>nomatch z) fun tk=>⟨.bl b,H,I.tok tk,rfl,q⟩
end
section
variable {X:Cx} {x:Str} {C:Addr} {np fV pos:Pos} {e:Expr} {es:List Expr} {t:TA}
def F0(q:Hp->Prop)(t:TA):TS:=fun _ σ H=>t σ H fun vs H1=>vs.length<=sizeLine/\q H1
theorem j9{q:Hp->Prop}(hc:X.calm=true)(T:o9 X.K C)(hg:Gl X x)(hm:X.mg x=some (.ref C))(ha:PA X (e::es) t)(Us:∀ (ae:List (Addr×Obj)) (σ:St) (H1:Hp) (s1:Shared) (h':Heap) (p:Addr) (vs:List Value),aD X ae σ H1 s1->Heap.MadeExcOf s1.heap h' p (.ref C) vs->q H1->X.xe (.ref p) { s1 with heap:=h' })(vk:(x==("__debug__":Str))=false:=by decide)(he:starEach (e::es) X.env=(false,eval e X.env)::starEach es X.env:=by rfl)(r_:(backTo fV (starEach (e::es) X.env)).any (·.1)=false:=by rfl):
  PS X (.Raise (some (.Call (.Name x np) (e::es) [] fV)) none pos) (F0 q t):=by
 intro ae s σ H D I h;obtain⟨bm,N,nm,qn,bs,hdct,sn,sub,ab,col,dd,k0,k1,k2,k3,k5,mN,hC,hN,MJ,TL⟩:=zQ I.ok.mod.Fs T.ex;refine wpAny_Raise_call_subT (C:=C) (nm:=nm) (q:=qn) (N:=N) (bs:=bs) (bm:=bm) (hdct:=hdct) (sn:=sn) (sub:=sub) (ab:=ab) (col:=col) (dd:=dd) (k0:=k0) (k1:=k1) (k2:=k2) (k3:=k3) (k5:=k5)
  y8 (mN:=mN) (TL.hasType y8.hasBase) (I.ok.hd hc) r_ MJ (jW I hg hm ⟨rfl,?_⟩ vk)
 have h1:=ha fV ae s σ H _ I h;rw[he] at h1 |-;exact uP (io h1 (fun us s2 ⟨vs,H2,I2,r,hl,z⟩=>⟨rfl,(by show us.length<=sizeLine;rw[<-r.length];exact hl),I2.bk _ _ hC,hN.keeps I2.bk,TL.keeps I2.bk,fun h' p m=>Us ae σ H2 s2 h' p us I2 m z⟩) fun _ _ y=>y)
end
section
variable {X:Cx} {CX:sA} {k:Nat} {f C:Addr} {fd:FuncData} {ps:List Str} {sp:Sp} {o8:List V} {ds:List Value} {E:St->XK} {x m:Str} {p pos mr:Pos} {e o:Expr} {es:List Expr} {ta:TE} {t:TA}
end
section
variable {X:Cx} {CX:sA} {k:Nat} {f:Addr} {fd:FuncData} {ps:List Str} {sp:Sp} {o8:List V} {ds:List Value} {E:XK} {x:Str} {p pos:Pos} {e:Expr} {es:List Expr} {t:TA}
end
section
variable {P:Program} {w:World} {K:PySem.W.Frag} {mg:Str->Option Value} {base:Heap}
theorem eh.Iz{x qual:Str}{st:Stmt}{f:Addr}{fd:FuncData}{N ps:List Str}{k:Nat}{sp:Sp}(F:eh K x qual st f fd)(S:aB N ps (aq st))(len:∀vs H Q E,sp vs H Q E->vs.length=ps.length)(on:∀ (cM:Value) (A:Around) (outer:List Env) (s:Shared) (H:Hp) (vs:List V) (Q:VK) (E:XK),bO k (A.deeper (envOfC qual (aq st) s.heap.objs.size f cM))->sp vs H Q E->
   ∃t,ui (gv (iU P w) P w K mg base N qual (aq st) f cM A outer s H E) (bz st) t/\t { nx:=fun _ H'=>Q .bD H',rt:=Q } (start N vs) H):bi P w K mg base (iU P w) (k+1) f fd ps sp:=by
 obtain⟨oc,od,kV,jL,pm,an,cM,ct,qV,rfl,lk,oZ⟩:=F.ex;exact zJ lk oZ S len fun A outer s H vs Q E hr yW=>on cM A outer s H vs Q E hr yW
end
section
variable {X:Cx} {ae:List (Addr×Obj)} {σ:St} {H:Hp} {s:Shared}
end
theorem CI{h:Heap}{a:Addr}{m m':Str->Option Value}(x:h.Ns a m)(y:h.Ns a m'):m=m':=by
 obtain⟨o,es,ep,e,d,_,q⟩:=x;obtain⟨o',uh,Mu,e',d',_,q'⟩:=y;rw[e] at e';cases e';rw[d] at d';cases d';funext z;rw[<-q z,q' z]
theorem aD.JW{X:Cx}{ae:List (Addr×Obj)}{σ:St}{H:Hp}{s:Shared}{h':Heap}{m:Str->Option Value}{D:Addr}{o:HO}{t':Nat}(I:aD X ae σ H s)(F:Fr X.base X.env.locals s.heap m)(F':Fr X.base X.env.locals h' m)(N':News X.base X.env.locals h' (gk X.base s.heap X.env.locals))(hD:s.heap.get? D=none)(new:bG X.prog X.w (upd H D o) h' D o):aD X ae σ (upd H D o) { s with heap:=h',toks:=t' }:=by
 have hn:=I.bp.q0 hD;have ne:∀b u,s.heap.get? b=some u->b≠D:=fun b u e z=>by rw[z,hD] at e;cases e
 have keep:∀b u,b≠X.env.locals->s.heap.get? b=some u->h'.get? b=some u:=fun b u hb e=>by
  cases q:X.base.get? b with
  |some v=>
   have:=I.bk b v q;rw[e] at this;cases this;exact F'.keep b _ q
  |none=>exact(N' (b,u) (iu hb q e)).1
 refine I.step (g':=s.gens) (d':=s.drawn) (ch:=[]) (fun _ z=>absurd z (by simp)) (fun b u hb _ _ e _=>keep b u hb e) (fun b u hb _ _ e _=>⟨u.slots,keep b u hb e⟩) (fun b u _ e n=>by rw[am (ne b u e)];exact n) (fun b u _ e=>?_)
  (fun b xs e=>by rw[am (ao e hn)];exact e) (fun b u v e=>by rw[am (ao e hn)];exact e) (fun b ps e=>⟨#[],by rw[am (ao e hn),e];simp⟩) (fun m1 hm=>by rw[CI hm F.ns];exact F'.ns) (fun b u e=>?_) I.bare
 .by_cases hb:b=X.env.locals
  .obtain⟨o',_,_,q,_⟩:=F'.ns;exact⟨o',by rw[hb];exact q⟩
  .exact⟨u,keep b u hb e⟩
 .by_cases hb:b=D
  .subst hb;rw[af] at e;cases e;exact new
  .rw[am hb] at e;refine(I.bp b u e).jU (fun c v hc q=>keep c v ?_ q) (fun c q=>by rw[am (ao q hn)];exact q) fun c xs q=>by rw[am (ao q hn)];exact q
   rintro rfl;rcases hc with z|hc
   .have f:=I.free;rw[z,e] at f;cases f
   .rw[I.free] at hc;cases hc
theorem o_(I:aD X ae σ H s)(N:News X.base X.env.locals h' ((D,o)::gk X.base s.heap X.env.locals))(de:∀q∈gk X.base s.heap X.env.locals,q.1<D):s.heap.get? D=none:=by
 cases e:s.heap.get? D with
 |none=>rfl
 |some u=>
  obtain⟨_,n1,n2⟩:=N (D,o) b_;exact absurd (de (D,u) (iu n1 n2 e)) (eQ _)
def zU(K:PySem.W.Frag)(H:Hp)(a:Addr)(y:Int×Int):Prop:=be K H a [.int y.1,.int y.2]
section
variable {X:Cx}
theorem vn(I:aD X ae σ H s)(h:zU X.K H a y):∃o n t u,s.heap.get? a=some o/\o.cls=.type "tuple"/\o.data=.seq #[.int y.1 t,.int y.2 u] n:=by
 obtain⟨its,r,p,_⟩:=I.tuple h;obtain⟨u1,u2,rfl,r1,r2⟩:=r.two;obtain⟨t,rfl⟩:=r1;obtain⟨t',rfl⟩:=r2;obtain⟨o,e,c,n,d⟩:=p;exact⟨o,n,t,t',e,c,d⟩
end
def F1(hs:Array Int)(i:Nat):Int:=(hs[i]?).getD 0
def d0(hs:Array Int)(t:SetTable)(h:Int):Option (Array Int×SetTable):=
 if t.gaveWay then none else
 match t.probe (F1 hs) h (t.probeStart h) with
 |some (.empty j none)=>
  let q:=t.put j
  let EG:=SetTable.insertAt hs q.2 h
  if q.1.fits EG.size&&decide (EG.size<=4096) then
   if q.1.tooFull then
    (match q.1.relaid EG (SetTable.grown (hs.size+1)) with
    |some (t2,gY)=>
     let l3:=gY.filterMap (EG[·]?)
     if l3.size==EG.size&&t2.fits l3.size&&decide (SetTable.sizeAbove (SetTable.grown (hs.size+1))<=4096) then some (l3,t2) else none
    |none=>none)
   else some (EG,q.1)
  else none
 |_=>none
def q8(led:Bool):List Int->Option (Array Int×SetTable):=fun l=>l.foldlM (fun q h=>d0 q.1 q.2 h) (#[],SetTable.fresh 0 0 led)
def iD(h:Heap)(S:Addr)(hs:Array Int)(t:SetTable):Prop:=∃o es ep,h.get? S=some o/\o.cls=.type "set"/\(o.dict=none/\o.slots=#[])/\o.data=.set es ep t/\es.map (·.1)=hs/\t.fits es.size=true
section
variable {prog:Program} {w:World} {A:Around} {E:Value->Shared->Prop} {s:Shared} {S:Addr}
theorem F2(es:Array (Int×Value)):(fun i=>(es[i]?.map (·.1)).getD 0)=F1 (es.map (·.1)):=by
 funext i;unfold F1;rw[Array.getElem?_map]
theorem j_(es:Array (Int×Value))(p:Nat)(x:Int×Value):(SetTable.insertAt es p x).map (·.1)=SetTable.insertAt (es.map (·.1)) p x.1:=by
 unfold SetTable.insertAt;simp
theorem lA(es:Array (Int×Value))(gY:Array Nat):(gY.filterMap (es[·]?)).map (·.1)=gY.filterMap ((es.map (·.1))[·]?):=by
 apply Array.ext';rw[qy,qk,qk,List.map_filterMap];congr 1;funext i;rw[Array.getElem?_map]
theorem vo(hS:iD s.heap S hs t)(hg:t.gaveWay=false)(hp:t.probe (F1 hs) h (t.probeStart h)=some (.empty j none))(q:Q (.free j false) s):
  wpAny (model prog w) A (setSearch S x h true) Q E s:=by
 obtain⟨o,es,ep,ho,hc,BY,hd,hm,hf⟩:=hS;unfold setSearch setSearchFrom;refine aw (qz ho hd hf ?_);dsimp only;rw[hg,ai bT];have IA:t.probe (fun i=>(es[i]?.map (·.1)).getD 0) h (t.probeStart h)=some (.empty j none):=by rw[F2,hm];exact hp
 refine aw (wpAny_pure ?_);erw[IA];exact wpAny_pure q
theorem xS(ho:s.heap.get? a=some o)(hc:o.cls=.type "tuple")(hd:o.data=.seq #[.int x t,.int y u] n)(q:Q true s):
  wpAny (model prog w) A (hashByValue 8 (.ref a)) Q E s:=by
 have hT:s.TypeIs (.ref a) "tuple":=⟨_,ho,hc⟩
 unfold hashByValue;refine aw (wpAny_specialOf hT PySem.F.slot_tuple_hash.lookup ?_);refine aw (ic ho hd ?_);refine aw ?_;show wpAny _ _ (forIn #[Value.int x t,Value.int y u] _ _) _ _ s;rw[<-Array.forIn_toList];refine wpAny_forIn_list _ (fun mn r s'=>r.1=none/\s'=s/\∀v∈mn,∃z k,v=Value.int z k) _ ?_ ?_ _ _ ⟨rfl,rfl,fun v hv=>?_⟩
 .rintro v mn r s' ⟨hr,rfl,sF⟩;obtain⟨z,k,rfl⟩:=sF v b_;refine aw (wpAny_pure ?_);exact wpAny_pure ⟨rfl,rfl,fun u' ww=>sF u' (bV _ ww)⟩
 .rintro⟨r1,r2⟩ s' ⟨hr,rfl,_⟩;have wz:r1=none:=hr;subst wz;exact wpAny_pure q
 .rcases aS.mp hv with z|z
  .exact⟨_,_,z⟩
  .rcases aS.mp z with z|z
   .exact⟨_,_,z⟩
   .cases z
theorem wA(hS:iD s.heap S hs t)(hf:t'.fits uh.size=true)(hz:uh.size<=4096)(q:∀h',Heap.SameBut S s.heap h'->iD h' S (uh.map (·.1)) t'->Q () { s with heap:=h' }):wpAny (model prog w) A (storeSet S uh t') Q E s:=by
 obtain⟨o,es,ep,ho,hc,BY,hd,hm,_⟩:=hS;refine wpAny_storeSet_of ho hd (q _ (Heap.SameBut.update s.heap S (Obj.putSet uh t')) ?_) (bn hz (by decide));have g:=uJ (Obj.putSet uh t') ho (by rw[putSet_of uh t' hd];rfl);rw[putSet_of uh t' hd] at g;exact⟨_,uh,ep+1,g,hc,BY,rfl,rfl,hf⟩
theorem CJ(hu:A.units<cLine)(hS:iD s.heap S hs t)(ho:s.heap.get? a=some o)(hc:o.cls=.type "tuple")(hd:o.data=.seq #[.int x tx,.int y ty] n)(jB:a≠S)(kH:d0 hs t (tupleKeyHash (intKind prog w) [x,y])=some (hs',t'))(q:∀h' tk,Heap.SameBut S s.heap h'->iD h' S hs' t'->Q true { s with heap:=h',toks:=tk }):wpAny (model prog w) A (setAdd S (.ref a)) Q E s:=by
 have hk:IsTupleKey (intKind prog w) s.heap [x,y] a:=⟨o,_,n,ho,hc,hd,.cons (intKind_is _ _ _ _) (.cons (intKind_is _ _ _ _) .nil)⟩
 unfold setAdd;refine ij (aw (wpAny_pyHash_tuple hu hk ?_));generalize NO:s.toks+([x,y].length+1)=tk;generalize hh:tupleKeyHash (intKind prog w) [x,y]=h at kH |-;have R4:=hS;obtain⟨ob,es,ep,hb,N9,W4,BQ,hm,hf⟩:=hS;unfold setAddHashed setAddHashedIn;refine ij (aw (qz (s:={ s with toks:=tk }) hb BQ hf ?_));dsimp only;have IC:byScan (.ref a) es=false:=by unfold byScan;rfl
 rw[IC,ai bT];unfold d0 at kH;cases hg:t.gaveWay with
 |true=>rw[hg,ak rfl] at kH;cases kH
 |false=>
  rw[hg,ai bT] at kH;split at kH
  .rename_i j hp;dsimp only at kH;split at kH
   .rename_i ML;rw[fQ,nJ] at ML;refine aw (vo (s:={ s with toks:=tk }) R4 hg hp ?_);dsimp only;refine aw (qz (s:={ s with toks:=tk }) hb BQ hf ?_);dsimp only;have Ut:∀ {kk:Bool->Sem Bool},wpAny (model prog w) A (kk true) Q E { s with toks:=tk }->wpAny (model prog w) A (if (t.put j).1.plain=true then hashByValue 8 (.ref a) >>= kk else pure true >>= kk) Q E { s with toks:=tk }:=fun {kk} hP=>by
     split
     .exact aw (xS (s:={ s with toks:=tk }) ho hc hd hP)
     .exact aw (wpAny_pure hP)
    refine Ut ?_;simp only[if_true];have hsz:(SetTable.insertAt es (t.put j).2 (h,Value.ref a)).size=(SetTable.insertAt hs (t.put j).2 h).size:=by
     rw[<-hm,<-j_ es (t.put j).2 (h,Value.ref a),gf]
    refine aw (wA (s:={ s with toks:=tk }) R4 (by rw[hsz];exact ML.1) (by rw[hsz];exact ML.2) fun h1 l4 S1=>?_);rw[j_,hm] at S1;split at kH
    .rename_i N_;rw[show (!false&&(t.put j).1.tooFull)=true by rw[N_];rfl,ak rfl];split at kH
     .rename_i t2 gY hr;split at kH
      .rename_i hq;rw[fQ,fQ,nJ,eS] at hq;obtain⟨⟨EH,MM⟩,R5⟩:=hq;cases kH;have Uu:es.size=hs.size:=by rw[<-hm,gf]
       refine aw ?_;unfold setRelay;obtain⟨o1,CK,W5,g1,g2,g3,g4,g5,g6⟩:=id S1;refine aw (qz (s:={ s with heap:=h1,toks:=tk }) g1 g4 g6 ?_);dsimp only;rw[Uu];rw[ai (by (have h4:(4096:Nat)<=sizeLine:=by decide);lia)];refine aw ?_;rw[g5,hr];have vp:(gY.filterMap (CK[·]?)).size=CK.size:=by
        have e1:=congrArg Array.size (lA CK gY);rw[gf,g5] at e1;rw[e1,EH,<-g5,gf]
       refine wpAny_of_eq (show _=(pure (gY.filterMap (CK[·]?),t'):Sem (Array (Int×Value)×SetTable)) from ?_) ?_
       .show (do
         let uh:=gY.filterMap (CK[·]?)
         if uh.size != CK.size then unsupported "internal:set-table-lost-an-element"
         pure (uh,t'):Sem (Array (Int×Value)×SetTable))=_
        simp[vp]
       dsimp only;have Oa:CK.size<=4096:=by
        have e1:=congrArg Array.size g5;rw[gf] at e1;rw[e1];exact ML.2
       have Uv:(gY.filterMap (CK[·]?)).size=(gY.filterMap ((SetTable.insertAt hs (t.put j).2 h)[·]?)).size:=by
        have e1:=congrArg Array.size (lA CK gY);rw[gf,g5] at e1;exact e1
       refine wA (s:={ s with heap:=h1,toks:=tk }) S1 (by rw[Uv];exact MM) (by rw[vp];exact Oa) fun h2 kK S2=>?_;rw[lA,g5] at S2;exact wpAny_pure (q h2 tk (l4.trans kK) S2)
      .cases kH
     .cases kH
    .rename_i N_;cases kH;have Ob:(t.put j).1.tooFull=false:=by simpa using N_
     rw[show (!false&&(t.put j).1.tooFull)=false by rw[Ob];rfl,ai bT];exact wpAny_pure (q h1 tk l4 S1)
   .cases kH
  .cases kH
end
section
variable {prog:Program} {w:World} {A:Around} {E:Value->Shared->Prop} {s:Shared} {S Ia l:Addr} {R:Result->Shared->Prop}
def gy(h:Heap)(vs:List Value)(ys:List (Int×Int)):Prop:=vs.length=ys.length/\∀i v,vs[i]?=some v->∃a o n t u,v=.ref a/\h.get? a=some o/\o.cls=.type "tuple"/\o.data=.seq #[.int (ys.getD i (0,0)).1 t,.int (ys.getD i (0,0)).2 u] n
theorem gy.keeps(p:gy h vs ys)(k:∀b o,(∃xs n,o.data=.seq xs n)->h.get? b=some o->h'.get? b=some o):gy h' vs ys:=
 ⟨p.1,fun i v e=>let ⟨a,o,n,t,u,e1,e2,c,d⟩:=p.2 i v e;⟨a,o,n,t,u,e1,k a o ⟨_,_,d⟩ e2,c,d⟩⟩
def dL(prog:Program)(w:World)(y:Int×Int):Int:=tupleKeyHash (intKind prog w) [y.1,y.2]
theorem zV(hh:A.handled=none)(hu:A.units+1<cLine)(Uw:l≠S)(Ux:l≠Ia)(Oc:S≠Ia):
  ∀ (k i:Nat) (s:Shared) (hs:Array Int) (t:SetTable),vs.length-i=k->i<=vs.length->s.heap.IsListIter Ia l i->s.heap.IsList l vs.toArray->gy s.heap vs ys->iD s.heap S hs t->
   ((ys.drop i).map (dL prog w)).foldlM (fun q h=>d0 q.1 q.2 h) (hs,t)=some (hsN,tN)->
   (∀h' tk,(∀b o,b≠S->b≠Ia->s.heap.get? b=some o->h'.get? b=some o)->iD h' S hsN tN->R (.ok (.ret .none)) { s with heap:=h',toks:=tk })->
   codeAny (model prog w) A (.builtin "set.update.loop" ⟨[.ref S,.ref Ia],[]⟩) R s:=by
 intro k;induction k with
 |zero=>
  intro i s hs t hk hi yZ hl hp hS hf hR;have e:i=vs.length:=by lia
  refine qK y4 ?_;rw[Around.under_plainId uq _];show wpAny _ A.in1 (pyNext (.ref Ia) >>= _) _ _ s;refine aw (wpAny_pyNext_list_end (show A.in1.handled=none from hh) yZ hl (by simp;lia) fun h' eb=>?_);show wpAny _ A.in1 (ret Value.none) _ _ _;have hd:ys.drop i=[]:=by rw[List.drop_eq_nil_iff];have:=hp.1;lia
  rw[hd] at hf;cases hf;obtain⟨o,es,ep,q1,q2⟩:=hS;exact wpAny_pure (hR h' s.toks (fun b o hb MN e=>eb b o MN e) ⟨o,es,ep,eb S o Oc q1,q2⟩)
 |succ k ih=>
  intro i s hs t hk hi yZ hl hp hS hf hR;have de:i<vs.length:=by lia
  refine qK y4 ?_;rw[Around.under_plainId uq _];show wpAny _ A.in1 (pyNext (.ref Ia) >>= _) _ _ s;have hv:vs[i]?=some vs[i]:=bC de;refine aw (wpAny_pyNext_list_item yZ hl (x:=vs[i]) (by simpa using hv) fun h1 Od l4=>?_);obtain⟨a,o,n,tx,ty,ea,eo,ec,ed⟩:=hp.2 i _ hv;rw[ea];have R6:∀b ob,(∃xs n,ob.data=.seq xs n)->s.heap.get? b=some ob->b≠Ia:=fun b ob ⟨xs,m,z⟩ e z'=>by
   obtain⟨oi,e1,_,d1⟩:=yZ;rw[z',e1] at e;cases e;rw[d1] at z;cases z
  have JX:gy h1 vs ys:=hp.keeps fun b ob hb e=>(l4.2 b (R6 b ob hb e)).trans e;have R7:iD h1 S hs t:=by
   obtain⟨oS,es,ep,q1,q2⟩:=hS;exact⟨oS,es,ep,(l4.2 S Oc).trans q1,q2⟩
  have MO:h1.IsList l vs.toArray:=by
   obtain⟨ol,q1,q2⟩:=hl;exact⟨ol,(l4.2 l Ux).trans q1,q2⟩
  have R8:h1.get? a=some o:=(l4.2 a (R6 a o ⟨_,_,ed⟩ eo)).trans eo;have R9:∀b ob,(∃xs n,ob.data=.seq xs n)->h1.get? b=some ob->b≠S:=fun b ob ⟨xs,m,z⟩ e z'=>by
   obtain⟨oS,es,ep,q1,_,_,q4,_⟩:=R7;rw[z',q1] at e;cases e;rw[q4] at z;cases z
  have vq:i<ys.length:=by have:=hp.1;lia
  have Uy:ys.drop i=ys[i]::ys.drop (i+1):=ur vq;have Uz:ys.getD i (0,0)=ys[i]:=by rw[bE,bC vq];rfl
  rw[Uy,eR,List.foldlM_cons] at hf;cases kH:d0 hs t (dL prog w ys[i]) with
  |none=>rw[kH] at hf;cases hf
  |some q=>
   obtain⟨l3,t2⟩:=q;rw[kH] at hf;have MQ:((ys.drop (i+1)).map (dL prog w)).foldlM (fun q h=>d0 q.1 q.2 h) (l3,t2)=some (hsN,tN):=hf;show wpAny _ A.in1 (holding [Value.ref a] (setAdd S (.ref a)) >>= _) _ _ _;refine aw (ij (CJ (s:={ s with heap:=h1 }) (by show A.units+1<cLine;exact hu) R7 R8 ec ed (R9 a o ⟨_,_,ed⟩ R8) (hs':=l3) (t':=t2) (by rw[Uz];exact kH) fun h2 tk kK S2=>?_));refine wpAny_pure ⟨plainId_quiet uq _,?_⟩;refine ih (i+1) { s with heap:=h2,toks:=tk } l3 t2 (by lia) de ?_ ?_ (JX.keeps fun b ob hb e=>(kK.2 b (R9 b ob hb e)).trans e) S2 MQ fun h3 UA k3 S3=>?_
   .obtain⟨oi,q1,q2⟩:=Od;exact⟨oi,(kK.2 Ia (eU Oc)).trans q1,q2⟩
   .obtain⟨ol,q1,q2⟩:=MO;exact⟨ol,(kK.2 l Uw).trans q1,q2⟩
   .exact hR h3 UA (fun b ob hb MN e=>k3 b ob hb MN ((kK.2 b hb).trans ((l4.2 b MN).trans e))) S3
theorem zW{vs:List Value}{ys:List (Int×Int)}{hsN:Bool->Array Int}{tN:Bool->SetTable}{Q:Value->Shared->Prop}(hh:A.handled=none)(hu:A.units+8<cLine)(hl:s.heap.IsList l vs.toArray)(hp:gy s.heap vs ys)(xT:∀led,q8 led (ys.map (dL prog w))=some (hsN led,tN led))(h:∀ (led:Bool) (h':Heap) (tk:Nat),iD h' s.heap.objs.size (hsN led) (tN led)->(∀b o,b<s.heap.objs.size->s.heap.get? b=some o->h'.get? b=some o)->Q (.ref s.heap.objs.size) { s with heap:=h',toks:=tk }):
  wpAny (model prog w) A (call (.type "set") [.ref l]) Q E s:=by
 obtain⟨c,tl,UB⟩:=lW.mro;have c1:=lW.made;have c2:=lW.sub;refine kZ (codeAny_of_tree ?_);show wpAny _ _ (callAny (.type "set") _) _ _ _;refine wpAny_pure ⟨Code.quiet_builtin _ (by decide +kernel),qK PySem.F.entry_type_call ?_⟩;rw[Around.under_plain (weight_type_call_type "set" [.ref l] []) rfl];have c3:=lW.notType;have c4:=lW.canCreate;have c5:=PySem.F.typeCall_set_1 (.ref l);repeat (any_goals (first|assumption|wp_step))
 refine jr (code_set_new_1 (.ref l) (E:=E) (Q₁:=fun obj s₁=>∃led:Bool,obj=.ref s.heap.objs.size/\s₁={ s with heap:=s.heap.push { cls:=.type "set",dict:=none,data:=.set #[] 0 (.fresh 0 0 led) } }) fun led=>⟨led,rfl,rfl⟩) fun r s₁ hr=>?_;cases r with
 |error e=>exact hr
 |ok fl=>
  cases fl with
  |next=>exact hr.elim
  |brk=>exact hr.elim
  |cont=>exact hr.elim
  |ret obj=>
   obtain⟨led,rfl,rfl⟩:=hr;generalize Oe:s.heap.push { cls:=.type "set",dict:=none,data:=.set #[] 0 (.fresh 0 0 led) }=hS;have hsz:hS.objs.size=s.heap.objs.size+1:=by rw[<-Oe,gU]
   have gS:hS.get? s.heap.objs.size=some { cls:=.type "set",dict:=none,data:=.set #[] 0 (.fresh 0 0 led) }:=by rw[<-Oe];exact cm _ rfl
   have up:∀b o,s.heap.get? b=some o->hS.get? b=some o:=fun b o e=>by rw[<-Oe];exact bN _ e
   have hT:Shared.TypeIs { s with heap:=hS } (.ref s.heap.objs.size) "set":=⟨_,gS,rfl⟩
   have c6:=lW.init.lookup;have c7:=lW.init.bind (.ref s.heap.objs.size);repeat (any_goals (first|assumption|wp_step))
   refine jr (uL (R:=wants (fun r s₂=>r=.none/\∃h' tk,s₂={ s with heap:=h',toks:=tk }/\iD h' s.heap.objs.size (hsN led) (tN led)/\
     (∀b o,b<s.heap.objs.size->s.heap.get? b=some o->h'.get? b=some o)) E) lW.init.plain PySem.F.entry_set_init (check_set_init_1 hT ?_)) fun r₂ s₂ JY=>?_
   .obtain⟨ol,EI,ED,nl,R_⟩:=hl;obtain⟨UC,Sa,Sb,Of⟩:=ol;simp only at ED R_;subst ED;subst R_;have Og:=up _ _ EI;have c8:=PySem.F.sub_list_set;have c9:=PySem.F.sub_list_frozenset;have W6:(Value.type "list"==Value.type "dict")=false:=by decide
    have MO:hS.IsList l vs.toArray:=⟨_,Og,rfl,nl,rfl⟩
    unfold Builtin.«set.__init__» noKeywords Builtin.Frozenset.updateFrom;generalize UD:pyIter=PI
    wp_walk
    subst UD;refine qA MO ?_;refine aw (wpAny_runValue ?_);have de:l<s.heap.objs.size:=aH EI;refine zV (l:=l) (vs:=vs) (ys:=ys) (hsN:=hsN led) (tN:=tN led) (by simp[hh]) (by simp;lia) (aU de) (by rw[hsz];exact aU (dC de)) (by rw[hsz];exact aU (jR _))
     (vs.length-0) 0 _ #[] (.fresh 0 0 led) rfl (cE _) ⟨_,cm _ rfl,rfl,rfl⟩ (MO.push _) (hp.keeps fun b o _ e=>bN _ (up b o e)) ⟨_,#[],0,bN _ gS,rfl,⟨rfl,rfl⟩,rfl,by simp,rfl⟩ (xT led) fun h' tk k S'=>?_
    show wpAny _ _ _ _ _ _;refine wpAny_pure ?_;show wpAny _ _ (ret Value.none) _ _ _;refine wpAny_pure ⟨rfl,h',tk,rfl,S',fun b o hb e=>?_⟩;exact k b o (aU hb) (by rw[hsz];exact aU (dC hb)) (bN _ (up b o e))
   .cases r₂ with
    |error e=>exact JY
    |ok UE=>
     cases UE with
     |next=>exact JY.elim
     |brk=>exact JY.elim
     |cont=>exact JY.elim
     |ret r=>
      obtain⟨rfl,h',tk,rfl,S',k⟩:=JY;repeat (any_goals (first|assumption|wp_step))
      exact h led h' tk S' k
end
open PySem
def zX(l:List Nat):Nat:=l.foldl (fun a x=>a ||| (1 <<< x)) 0
theorem xU(l:List Nat)(a j:Nat):(l.foldl (fun a x=>a ||| (1 <<< x)) a).testBit j=(a.testBit j||l.contains j):=by
 induction l generalizing a with
 |nil=>simp
 |cons x xs ih=>
  rw[qE,ih,Nat.testBit_or,List.contains_cons];have:(1 <<< x).testBit j=(j==x):=by
   rw[Nat.one_shiftLeft,Nat.testBit_two_pow];by_cases h:x=j
   .simp[h]
   .have h':¬ j=x:=fun e=>h e.symm;simp[h,h']
  rw[this,Bool.or_assoc]
theorem l6(h:zX l=2 ^ n-1)(hj:j<n):j∈l:=by
 have e:=xU l 0 j;have h':l.foldl (fun a x=>a ||| (1 <<< x)) 0=2 ^ n-1:=h;rw[h',Nat.testBit_two_pow_sub_one] at e;simp[hj] at e;exact e
def zY(M:Nat):Nat->Nat->Nat
 |0,i=>i
 |n+1,i=>zY M n ((i*5+1) % M)
theorem mU(M a:Nat):∀b i,zY M (b+a) i=zY M a (zY M b i)
 |0,i=>by rw[Nat.zero_add];rfl
 |b+1,i=>by
  rw[show b+1+a=(b+a)+1 by lia];show zY M (b+a) _=zY M a (zY M b _);exact mU M a b _
def F3(M:Nat):Nat->Nat->List Nat
 |0,_=>[]
 |n+1,i=>i::F3 M n ((i*5+1) % M)
theorem ow:∀ {n i},j∈F3 M n i->∃k,k<n/\zY M k i=j
 |0,_,h=>by cases h
 |n+1,i,h=>by
  rcases aS.mp h with z|z
  .exact⟨0,by lia,z.symm⟩
  .obtain⟨k,a,b⟩:=ow z;exact⟨k+1,by lia,b⟩
structure xV(M:Nat):Prop where
 all:zX (F3 M M 0)=2 ^ M-1
 back:zY M M 0=0
theorem Oh:xV 8:=⟨by decide +kernel,by decide +kernel⟩
theorem EJ:xV 32:=⟨by decide +kernel,by decide +kernel⟩
theorem zZ:xV 128:=⟨by decide +kernel,by decide +kernel⟩
theorem z4:xV 512:=⟨by decide +kernel,by decide +kernel⟩
theorem xV.cover(R:xV M)(hi:i<M)(hj:j<M):∃n,n<M/\zY M n i=j:=by
 obtain⟨a,ha,ea⟩:=ow (l6 R.all hi);obtain⟨b,hb,eb⟩:=ow (l6 R.all hj);by_cases h:a<=b
 .refine⟨b-a,by lia,?_⟩;rw[<-ea,<-mU,show a+(b-a)=b by lia,eb]
 .refine⟨M+b-a,by lia,?_⟩;rw[<-ea,<-mU,show a+(M+b-a)=M+b by lia,mU,R.back,eb]
def eF(mask:Nat):Nat->Nat×Nat->Nat×Nat
 |0,q=>q
 |n+1,q=>eF mask n (SetTable.leap mask q.1 q.2)
theorem pR(m a:Nat):∀b q,eF m (b+a) q=eF m a (eF m b q)
 |0,q=>by rw[Nat.zero_add];rfl
 |b+1,q=>by
  rw[show b+1+a=(b+a)+1 by lia];exact pR m a b _
theorem sJ:∀ {n:Nat} {q:Nat×Nat},q.1<m+1->(eF m n q).1<m+1
 |0,_,h=>h
 |n+1,q,h=>sJ (n:=n) (jt _ (qM _))
theorem wB:∀ {n:Nat} {q:Nat×Nat},(eF m n q).2=q.2 / 32 ^ n
 |0,_=>by simp[eF]
 |n+1,q=>by
  show (eF m n _).2=_;rw[wB];show q.2 / 32 / 32 ^ n=_;rw[pC,Nat.pow_succ,Nat.mul_comm]
theorem pS:∀ {n i:Nat},eF m n (i,0)=(zY (m+1) n i,0)
 |0,_=>rfl
 |n+1,i=>by
  show eF m n (SetTable.leap m i 0)=_;unfold SetTable.leap;simp only[Nat.zero_div,Nat.add_zero];exact pS
theorem l7(R:xV (m+1))(hi:i<m+1)(hp:p<2 ^ 64)(hj:j<m+1):∃n,n<m+14/\(eF m n (i,p)).1=j:=by
 have h1:=sJ (m:=m) (n:=13) (q:=(i,p)) hi;have h2:(eF m 13 (i,p)).2=0:=by
  rw[wB];exact uT (bX hp (by decide))
 obtain⟨n,hn,e⟩:=R.cover h1 hj;refine⟨13+n,by lia,?_⟩;rw[pR];have:eF m 13 (i,p)=((eF m 13 (i,p)).1,0):=gg rfl h2;rw[this,pS];exact e
theorem wC(h:Int):SetTable.bits h<2 ^ 64:=by
 unfold SetTable.bits;have a:=jn h (show (2 ^ 64:Int)≠0 by decide);have b:=jh h (show (0:Int)<2 ^ 64 by decide);lia
theorem JZ{M:Nat}{l:List Nat}(h:l.length<M):∃j,j<M/\j∉l:=by
 have key:∀ (a b:List Nat),a.Nodup->(∀x∈a,x∈b)->a.length<=b.length:=by
  intro a;induction a with
  |nil=>intro b _ _;exact cE _
  |cons x xs ih=>
   intro b hn hs;obtain⟨h1,h2⟩:=fR.mp hn;have hx:x∈b:=hs x b_;have:=ih (b.erase x) h2 fun y hy=>(List.mem_erase_of_ne (fun (e:y=x)=>h1 (e ▸ hy))).mpr (hs y (bV _ hy));rw[zg hx] at this;have:0<b.length:=List.length_pos_of_mem hx;rw[c_];lia
 apply qg;intro CH;have:=key (List.range M) l uV fun x hx=>qg fun qT=>CH ⟨x,cD.mp hx,qT⟩;rw[fN] at this;lia
def vt(mask i p:Nat):SetTable.Probe:={ j:=i,more:=SetTable.runEnd mask i-i,i:=i,perturb:=p,dummy:=none }
theorem F4(mask i:Nat):SetTable.runEnd mask i-i<=9:=by unfold SetTable.runEnd;split <;> lia
theorem q9{t:SetTable}(hd:t.dummies=#[])(j:Nat):t.slot j=.empty\/∃i,t.slot j=.live i/\t.place[i]?=some j:=by
 unfold SetTable.slot;dsimp only;split
 .rename_i h;exact .inr ⟨_,rfl,by simpa using h⟩
 .left;rw[hd];rfl
theorem vu{t:SetTable}(hd:t.dummies=#[]){j:Nat}(h:j∉t.place.toList):t.slot j=.empty:=by
 rcases q9 hd j with e|⟨i,_,e2⟩
 .exact e
 .exact absurd (by rw[<-nG] at e2;exact cC e2) h
section
variable {t:SetTable} {hashAt:Nat->Int} {h:Int}
theorem z5(hd:t.dummies=#[])(hh:∀i,i<t.place.size->hashAt i≠h)(i p:Nat):∀ (r:Nat) (j d9:Nat),
  (∃j',SetTable.probe.go t hashAt h (d9+r+1) { j:=j,more:=r,i:=i,perturb:=p,dummy:=none }=some (.empty j' none))\/
  SetTable.probe.go t hashAt h (d9+r+1) { j:=j,more:=r,i:=i,perturb:=p,dummy:=none }=SetTable.probe.go t hashAt h d9 (vt t.mask (SetTable.leap t.mask i p).1 (SetTable.leap t.mask i p).2)
 |0,j,d9=>by
  rcases q9 hd j with e|⟨k,e,e2⟩
  .exact .inl ⟨j,by unfold SetTable.probe.go;rw[e]⟩
  .right;have hk:k<t.place.size:=(ze.mp e2).1;conv=>lhs;unfold SetTable.probe.go
   rw[e];simp only[eS,hh k hk,ip];rfl
 |r+1,j,d9=>by
  rcases q9 hd j with e|⟨k,e,e2⟩
  .exact .inl ⟨j,by rw[show d9+(r+1)+1=(d9+r+1)+1 by lia];unfold SetTable.probe.go;rw[e]⟩
  .have hk:k<t.place.size:=(ze.mp e2).1;have st:SetTable.probe.go t hashAt h (d9+(r+1)+1) { j:=j,more:=r+1,i:=i,perturb:=p,dummy:=none }=SetTable.probe.go t hashAt h (d9+r+1) { j:=j+1,more:=r,i:=i,perturb:=p,dummy:=none }:=by
    rw[show d9+(r+1)+1=(d9+r+1)+1 by lia];conv=>lhs;unfold SetTable.probe.go
    rw[e];simp only[eS,hh k hk,ip];rfl
   rw[st];exact z5 hd hh i p r (j+1) d9
theorem wD(hd:t.dummies=#[])(hh:∀i,i<t.place.size->hashAt i≠h):∀ (m:Nat) (i p d9:Nat),10*(m+1)<=d9->t.slot (eF t.mask m (i,p)).1=.empty->
  ∃j',SetTable.probe.go t hashAt h d9 (vt t.mask i p)=some (.empty j' none)
 |0,i,p,d9,hf,e=>by
  obtain⟨f,rfl⟩:∃f,d9=f+1:=⟨d9-1,by lia⟩
  refine⟨i,?_⟩;have e':t.slot i=.empty:=e;unfold SetTable.probe.go vt;dsimp only;rw[e']
 |m+1,i,p,d9,hf,e=>by
  have hr:=F4 t.mask i;obtain⟨f,xW⟩:∃f,d9=f+(SetTable.runEnd t.mask i-i)+1:=⟨d9-(SetTable.runEnd t.mask i-i)-1,by lia⟩
  rcases z5 (hashAt:=hashAt) (h:=h) hd hh i p (SetTable.runEnd t.mask i-i) i f with z|z
  .rw[xW];exact z
  .rw[xW];show ∃j',SetTable.probe.go t hashAt h _ { j:=i,more:=_,i:=i,perturb:=p,dummy:=none }=_;rw[z];exact wD hd hh m _ _ f (by lia) e
theorem vv(R:xV (t.mask+1))(hd:t.dummies=#[])(hs:t.place.size<=t.mask)(hh:∀i,i<t.place.size->hashAt i≠h):∃j,t.probe hashAt h (t.probeStart h)=some (.empty j none):=by
 obtain⟨j,hj,hn⟩:=JZ (M:=t.mask+1) (l:=t.place.toList) (by simpa using Nat.lt_succ_of_le hs);obtain⟨m,hm,e⟩:=l7 R (jt (SetTable.bits h) (qM t.mask)) (wC h) hj;refine wD hd hh m _ _ _ ?_ (by rw[e];exact vu hd hn);unfold SetTable.turns;lia
end
theorem z6{α β:Type}{f:α->Option β}:∀ {l:List α},(∀q∈l,(f q).isSome=true)->(l.filterMap f).length=l.length
 |[],_=>rfl
 |q::l,h=>by
  have hq:=h q b_;cases e:f q with
  |none=>rw[e] at hq;cases hq
  |some b=>rw[zi e,c_,c_,z6 fun x hx=>h x (bV _ hx)]
theorem pT:∀ (m d9 i p:Nat),m<d9->owner.getD (eF mask m (i,p)).1 (some 0)=none->∃j,SetTable.layClean.free mask owner d9 i p=some j/\owner.getD j (some 0)=none
 |m,0,_,_,h,_=>by lia
 |m,d9+1,i,p,h,e=>by
  unfold SetTable.layClean.free;cases hf:(List.range (SetTable.runEnd mask i+1-i)).find? fun k=>(owner.getD (i+k) (some 0)).isNone with
  |some k=>
   refine⟨i+k,rfl,?_⟩;have:=List.find?_some hf;simpa using this
  |none=>
   cases m with
   |zero=>
    have h0:(0:Nat)∈List.range (SetTable.runEnd mask i+1-i):=cD.mpr (by unfold SetTable.runEnd;split <;> lia);have:=uI.mp hf 0 h0;have e':owner.getD i (some 0)=none:=e;rw[Nat.add_zero,e'] at this;exact absurd rfl this
   |succ m=>
    exact pT m d9 _ _ (by lia) e
structure sK(M:Nat)(owner:Array (Option Nat))(k:Nat):Prop where
 size:owner.size=M
 cnt:owner.toList.countP Option.isSome=k
 lt:∀x,some x∈owner.toList->x<k
theorem vw{l:List (Option Nat)}{j:Nat}{x:Nat}(hj:l[j]?=some none):(l.set j (some x)).countP Option.isSome=l.countP Option.isSome+1:=by
 induction l generalizing j with
 |nil=>cases hj
 |cons a l ih=>
  cases j with
  |zero=>
   obtain rfl:a=none:=by simpa using hj
   simp
  |succ j=>
   rw[List.set_cons_succ,nU,nU,ih (by simpa using hj)];lia
theorem sK.one{mask:Nat}{owner:Array (Option Nat)}{k:Nat}(L:sK (mask+1) owner k)(R:xV (mask+1))(hk:k<mask+1)(h:Int):
  ∃j,SetTable.layClean.free mask owner (SetTable.turns mask) (SetTable.bits h % (mask+1)) (SetTable.bits h)=some j/\sK (mask+1) (owner.setIfInBounds j (some k)) (k+1):=by
 have CH:∃j,j<mask+1/\owner.toList[j]?=some none:=by
  apply qg;intro CH;have sF:∀x∈owner.toList,x.isSome=true:=by
   intro x hx;obtain⟨j,hj,e⟩:=qo.mp hx;cases x with
   |some _=>rfl
   |none=>
    refine absurd ⟨j,?_,?_⟩ CH
    .rw[<-L.size];simpa using hj
    .rw[bC hj,e]
  have:=List.countP_eq_length.mpr sF;rw[L.cnt,kN,L.size] at this;lia
 obtain⟨j0,UF,e0⟩:=CH;obtain⟨m,hm,em⟩:=l7 R (jt (SetTable.bits h) (qM mask)) (wC h) UF;obtain⟨j,ej,en⟩:=pT (mask:=mask) (owner:=owner) m (SetTable.turns mask) (SetTable.bits h % (mask+1)) (SetTable.bits h) (by unfold SetTable.turns;lia)
  (by rw[em,qf,<-nG,e0];rfl)
 refine⟨j,ej,?_⟩;have UG:owner.toList[j]?=some none:=by
  rw[qf,<-nG] at en;cases hq:owner.toList[j]? with
  |none=>rw[hq] at en;cases en
  |some v=>rw[hq] at en;rw[show v=none from en]
 have J0:(owner.setIfInBounds j (some k)).toList=owner.toList.set j (some k):=by simp
 refine⟨by simp[L.size],by rw[J0,vw UG,L.cnt],fun x hx=>?_⟩;rw[J0] at hx;rcases List.mem_or_eq_of_mem_set hx with z|z
 .exact dC (L.lt x z)
 .cases z;exact jR _
theorem wE(R:xV (mask+1)):∀ (l:List Int) (owner:Array (Option Nat)) (k:Nat),sK (mask+1) owner k->k+l.length<=mask->
  ∃z7,l.foldl (fun du h=>do
   let (owner,k) <- du
   let j <- SetTable.layClean.free mask owner (SetTable.turns mask) (SetTable.bits h % (mask+1)) (SetTable.bits h)
   pure (owner.setIfInBounds j (some k),k+1)) (some (owner,k))=some (z7,k+l.length)/\sK (mask+1) z7 (k+l.length)
 |[],owner,k,L,_=>⟨owner,rfl,L⟩
 |h::l,owner,k,L,hl=>by
  rw[c_] at hl;obtain⟨j,ej,L'⟩:=L.one R (by lia) h;obtain⟨o',e,L2⟩:=wE R l _ _ L' (by lia);refine⟨o',?_,by rw[c_,show k+(l.length+1)=k+1+l.length by lia];exact L2⟩;rw[qE];have:(do
   let (owner,k) <- some (owner,k)
   let j <- SetTable.layClean.free mask owner (SetTable.turns mask) (SetTable.bits h % (mask+1)) (SetTable.bits h)
   pure (owner.setIfInBounds j (some k),k+1):Option (Array (Option Nat)×Nat))=some (owner.setIfInBounds j (some k),k+1):=by
   show (SetTable.layClean.free mask owner (SetTable.turns mask) (SetTable.bits h % (mask+1)) (SetTable.bits h)).bind _=_;rw[ej];rfl
  rw[this,e,c_,show k+(l.length+1)=k+1+l.length by lia]
theorem sO(R:xV (mask+1))(hs:Array Int)(h:hs.size<=mask):∃owner,SetTable.layClean mask hs=some owner/\sK (mask+1) owner hs.size:=by
 have L0:sK (mask+1) (Array.replicate (mask+1) none) 0:=⟨by simp,by simp[List.countP_replicate],fun x hx=>by simp at hx⟩
 obtain⟨o,e,L⟩:=wE R hs.toList _ 0 L0 (by simpa using h);refine⟨o,?_,by simpa using L⟩;unfold SetTable.layClean;rw[<-Array.foldl_toList];have e':=congrArg (Option.map (·.1)) e;exact e'
theorem vx(L:sK M owner n):
  ((List.range M).filterMap fun j=>(owner.getD j none).map (j,·)).length=n/\∀q∈(List.range M).filterMap (fun j=>(owner.getD j none).map (j,·)),q.2<n:=by
 constructor
 .rw[<-L.cnt];have e:owner.toList=(List.range M).map fun j=>owner.getD j none:=by
   apply nR
   .simp[L.size]
   .intro i h1 h2;simp only[List.getElem_map,List.getElem_range,Array.getElem_toList];rw[qf,ut (by simpa using h1)];rfl
  conv=>rhs;rw[e]
  rw[List.countP_map];generalize List.range M=l;induction l with
  |nil=>rfl
  |cons a l ih=>
   rw[nU,<-ih];cases hq:owner.getD a none with
   |none=>rw[List.filterMap_cons_none (by rw[hq];rfl),show (Option.isSome ∘ fun j=>owner.getD j none) a=false by show (owner.getD a none).isSome=false;rw[hq];rfl];simp
   |some x=>rw[zi (b:=(a,x)) (by rw[hq];rfl),show (Option.isSome ∘ fun j=>owner.getD j none) a=true by show (owner.getD a none).isSome=true;rw[hq];rfl];simp
 .intro q hq;obtain⟨j,_,e⟩:=jg.mp hq;cases hx:owner.getD j none with
  |none=>rw[hx] at e;cases e
  |some x=>
   rw[hx] at e;cases e;refine L.lt x ?_;rw[qf,<-nG] at hx;cases hy:owner.toList[j]? with
   |none=>rw[hy] at hx;cases hx
   |some v=>rw[hy] at hx;obtain rfl:v=some x:=hx;exact cC hy
structure sP(hs:Array Int)(t:SetTable):Prop where
 dm:t.dummies=#[]
 sz:t.place.size=hs.size
 ms:(t.mask=7/\hs.size<=4)\/(t.mask=31/\hs.size<=18)\/(t.mask=127/\hs.size<=76)\/(t.mask=511/\hs.size<=306)
theorem sP.UH(T:sP hs t):xV (t.mask+1):=by
 rcases T.ms with ⟨e,_⟩|⟨e,_⟩|⟨e,_⟩|⟨e,_⟩ <;> rw[e]
 .exact Oh
 .exact EJ
 .exact zZ
 .exact z4
theorem i9(xs:Array α)(p:Nat)(x:α):(SetTable.insertAt xs p x).size=xs.size+1:=by
 unfold SetTable.insertAt;simp;lia
theorem ka(h:y∈(SetTable.insertAt xs p x).toList):y=x\/y∈xs.toList:=by
 unfold SetTable.insertAt at h;rw[dv,kQ,uB,uB] at h;rcases dk.mp h with z|z
 .rcases dk.mp z with z|z
  .right;rw[List.extract_eq_drop_take] at z;exact qm (ny z)
  .left;simpa using z
 .right;rw[List.extract_eq_drop_take] at z;exact qm (ny z)
theorem vy{hs:Array Int}{t:SetTable}{h:Int}(T:sP hs t)(hn:h∉hs.toList)(hl:hs.size<300):∃hs' t',d0 hs t h=some (hs',t')/\sP hs' t'/\hs'.size=hs.size+1/\∀x∈hs'.toList,x=h\/x∈hs.toList:=by
 have Oa:t.place.size<=t.mask:=by rw[T.sz];rcases T.ms with ⟨e,z⟩|⟨e,z⟩|⟨e,z⟩|⟨e,z⟩ <;> lia
 have hh:∀i,i<t.place.size->F1 hs i≠h:=by
  intro i hi e;rw[T.sz] at hi;unfold F1 at e;rw[ut hi] at e;exact hn (by rw[<-e];simp)
 obtain⟨j,hp⟩:=vv (hashAt:=F1 hs) (h:=h) T.UH T.dm Oa hh;have hg:t.gaveWay=false:=by
  unfold SetTable.gaveWay;rcases T.ms with ⟨e,_⟩|⟨e,_⟩|⟨e,_⟩|⟨e,_⟩ <;> rw[e] <;> rfl
 have q1:(t.put j).1.place=SetTable.insertAt t.place (SetTable.below t.place j) j:=rfl;have q2:(t.put j).1.dummies=#[]:=by
  show (if SetTable.has t.dummies j=true then _ else t.dummies)=_;rw[T.dm];rfl
 have q3:(t.put j).1.mask=t.mask:=rfl;have s1:(SetTable.insertAt hs (t.put j).2 h).size=hs.size+1:=i9 _ _ _;have s2:(t.put j).1.place.size=hs.size+1:=by rw[q1,i9,T.sz]
 have fl:(t.put j).1.fill=hs.size+1:=by unfold SetTable.fill;rw[s2,q2];rfl
 have UI:(t.put j).1.fits (SetTable.insertAt hs (t.put j).2 h).size=true:=by
  unfold SetTable.fits;rw[s1,s2,fl,q3];simp;rcases T.ms with ⟨e,z⟩|⟨e,z⟩|⟨e,z⟩|⟨e,z⟩ <;> lia
 unfold d0;rw[hg,ai bT,hp];dsimp only;rw[ak (by rw[UI,s1];simp;lia)];by_cases hf:(t.put j).1.tooFull=true
 .rw[ak hf];have xW:=hf;unfold SetTable.tooFull at xW;rw[fl,q3] at xW;have MQ:(hs.size+1)*5>=t.mask*3:=by simpa using xW
  have gr:SetTable.grown (hs.size+1)=(hs.size+1)*4:=by unfold SetTable.grown;rw[ai (by lia)]
  obtain⟨m2,Sc,Oi,R2⟩:∃m2,SetTable.sizeAbove (SetTable.grown (hs.size+1))=m2+1/\((m2=31/\hs.size+1<=18)\/(m2=127/\hs.size+1<=76)\/(m2=511/\hs.size+1<=306))/\xV (m2+1):=by
   rw[gr];rcases T.ms with ⟨e,z⟩|⟨e,z⟩|⟨e,z⟩|⟨e,z⟩
   .have:hs.size=4:=by lia
    exact⟨31,by rw[this];rfl,.inl ⟨rfl,by lia⟩,EJ⟩
   .have:hs.size=18:=by lia
    exact⟨127,by rw[this];rfl,.inr (.inl ⟨rfl,by lia⟩),zZ⟩
   .have:hs.size=76:=by lia
    exact⟨511,by rw[this];rfl,.inr (.inr ⟨rfl,by lia⟩),z4⟩
   .lia
  have Se:(SetTable.insertAt hs (t.put j).2 h).size<=m2:=by rw[s1];rcases Oi with ⟨e,z⟩|⟨e,z⟩|⟨e,z⟩ <;> lia
  obtain⟨owner,eo,L⟩:=sO R2 (SetTable.insertAt hs (t.put j).2 h) Se;obtain⟨J1,Oj⟩:=vx L;rw[s1] at J1 Oj;generalize J2:(List.range (m2+1)).filterMap (fun j=>(owner.getD j none).map (j,·))=live at J1 Oj;have er:(t.put j).1.relaid (SetTable.insertAt hs (t.put j).2 h) (SetTable.grown (hs.size+1))=some ({ mask:=m2,place:=(live.map (·.1)).toArray,dummies:=#[],finger:=(t.put j).1.finger,led:=(t.put j).1.led,moves:=(t.put j).1.movedTo m2,plain:=(t.put j).1.plain },(live.map (·.2)).toArray):=by
   unfold SetTable.relaid SetTable.laid;rw[Sc];simp only[uH];rw[eo];show some _=some _;rw[<-J2]
  rw[er];dsimp only;have vp:((live.map (·.2)).toArray.filterMap ((SetTable.insertAt hs (t.put j).2 h)[·]?)).size=hs.size+1:=by
   rw[<-kN,qk];show ((live.map (·.2)).filterMap _).length=_;rw[<-J1,List.filterMap_map];refine z6 fun q hq=>?_;show ((SetTable.insertAt hs (t.put j).2 h)[q.2]?).isSome=true;rw[ut (by rw[s1];exact Oj q hq)];rfl
  have UJ:∀x,({ mask:=m2,place:=(live.map (·.1)).toArray,dummies:=#[],finger:=(t.put j).1.finger,led:=(t.put j).1.led,moves:=(t.put j).1.movedTo m2,plain:=(t.put j).1.plain }:SetTable).fits x=(decide (hs.size+1=x)&&decide (hs.size+1<=m2)):=by
   intro x;unfold SetTable.fits SetTable.fill;simp[J1];rw[hX];simp
  rw[ak (by
   rw[vp,s1,UJ,Sc];have:hs.size+1<=m2:=by rw[<-s1];exact Se
   simp[this];rcases Oi with ⟨e,z⟩|⟨e,z⟩|⟨e,z⟩ <;> lia)]
  refine⟨_,_,rfl,⟨rfl,?_,?_⟩,vp,fun x hx=>?_⟩
  .rw[vp];simp[J1]
  .rw[vp];exact .inr Oi
  .rw[qk] at hx;obtain⟨k,_,ek⟩:=jg.mp hx;refine ka (p:=(t.put j).2) ?_;rw[<-nG] at ek;exact cC ek
 .rw[ai hf];refine⟨_,_,rfl,⟨q2,by rw[s2,s1],?_⟩,s1,fun x hx=>ka hx⟩;have xW:¬ (hs.size+1)*5>=t.mask*3:=by
   intro z;refine hf ?_;unfold SetTable.tooFull;rw[fl,q3];simpa using z
  rw[s1,q3];rcases T.ms with ⟨e,z⟩|⟨e,z⟩|⟨e,z⟩|⟨e,z⟩ <;> lia
theorem l8:∀ (l:List Int) (hs:Array Int) (t:SetTable),sP hs t->(∀x∈l,x∉hs.toList)->l.Nodup->hs.size+l.length<=300->∃hs' t',l.foldlM (fun q h=>d0 q.1 q.2 h) (hs,t)=some (hs',t')/\hs'.size=hs.size+l.length
 |[],hs,t,_,_,_,_=>⟨hs,t,rfl,rfl⟩
 |h::l,hs,t,T,hn,nd,hl=>by
  rw[c_] at hl;obtain⟨n1,n2⟩:=fR.mp nd;obtain⟨EG,t1,e1,T1,z1,m1⟩:=vy T (hn h b_) (by lia);obtain⟨l3,t2,e2,z2⟩:=l8 l EG t1 T1 (fun x hx hy=>by
   rcases m1 x hy with e|e
   .exact n1 (e ▸ hx)
   .exact hn x (bV _ hx) e) n2 (by lia)
  refine⟨l3,t2,?_,by rw[z2,z1,c_];lia⟩;rw[List.foldlM_cons];show (d0 hs t h).bind _=_;rw[e1];exact e2
theorem xX(led:Bool)(nd:l.Nodup)(hl:l.length<=300):∃hs t,q8 led l=some (hs,t)/\hs.size=l.length:=by
 obtain⟨hs,t,e,z⟩:=l8 l #[] (SetTable.fresh 0 0 led) ⟨rfl,rfl,.inl ⟨rfl,by decide⟩⟩ (fun x _ h=>by simp at h) nd (by simpa using hl);exact⟨hs,t,e,by simpa using z⟩
def wF:List Nat->Nat->Bool
 |[],_=>true
 |x::xs,du=>bif Nat.testBit du x then false else wF xs (du ||| (1 <<< x))
theorem sQ:∀ (l:List Nat) (du:Nat),wF l du=true->l.Nodup/\∀x∈l,du.testBit x=false
 |[],_,_=>⟨qH,fun x h=>(nomatch h)⟩
 |x::xs,du,h=>by
  unfold wF at h;cases hb:du.testBit x with
  |true=>rw[hb] at h;cases h
  |false=>
   rw[hb] at h;obtain⟨nd,hx⟩:=sQ xs _ h;have Sf:∀y∈xs,du.testBit y=false/\y≠x:=by
    intro y hy;have:=hx y hy;rw[Nat.testBit_or,Nat.one_shiftLeft,Nat.testBit_two_pow] at this;rw[Bool.or_eq_false_iff] at this;exact⟨this.1,fun e=>by have:=this.2;simp[e] at this⟩
   refine⟨fR.mpr ⟨fun hm=>(Sf x hm).2 rfl,nd⟩,fun y hy=>?_⟩;rcases aS.mp hy with z|z
   .rw[z];exact hb
   .exact(Sf y z).1
def oy:List (Int×Int):=(List.range 32).flatMap fun a=>(List.range 32).map fun b=>(Int.ofNat a,Int.ofNat b)
def EK(h:Int):Nat:=(h % 6554).toNat
theorem xY(P:Program)(w:World):wF (oy.map fun y=>EK (dL P w y)) 0=true:=by kernel_rfl
theorem wG(h1:0<=y.1/\y.1<32)(h2:0<=y.2/\y.2<32):y∈oy:=by
 unfold oy;refine uW.mpr ⟨y.1.toNat,cD.mpr (by lia),bQ.mpr ⟨y.2.toNat,cD.mpr (by lia),gg ?_ ?_⟩⟩
 .show ((y.1.toNat:Nat):Int)=y.1;lia
 .show ((y.2.toNat:Nat):Int)=y.2;lia
theorem i_:∀ {l:List α},(l.map f).Nodup->∀x∈l,∀y∈l,f x=f y->x=y
 |[],_,_,h,_,_,_=>by cases h
 |a::l,h,x,hx,y,hy,e=>by
  rw[eR] at h;obtain⟨h1,h2⟩:=fR.mp h;rcases aS.mp hx with z|z <;> rcases aS.mp hy with z'|z'
  .rw[z,z']
  .exact absurd (bQ.mpr ⟨y,z',by rw[<-e,z]⟩) h1
  .exact absurd (bQ.mpr ⟨x,z,by rw[e,z']⟩) h1
  .exact i_ h2 x z y z' e
theorem q_(hx:(0<=x.1/\x.1<32)/\(0<=x.2/\x.2<32))(hy:(0<=y.1/\y.1<32)/\(0<=y.2/\y.2<32))(e:dL P w x=dL P w y):x=y:=
 i_ (sQ _ _ (xY P w)).1 x (wG hx.1 hx.2) y (wG hy.1 hy.2) (congrArg EK e)
theorem lB:∀ {l:List α},l.Nodup->(∀x∈l,∀y∈l,f x=f y->x=y)->(l.map f).Nodup
 |[],_,_=>qH
 |a::l,h,hf=>by
  obtain⟨h1,h2⟩:=fR.mp h;rw[eR];refine fR.mpr ⟨fun z=>?_,lB h2 fun x hx y hy=>hf x (bV _ hx) y (bV _ hy)⟩;obtain⟨y,hy,e⟩:=bQ.mp z;have:=hf y (bV _ hy) a b_ e;exact h1 (this ▸ hy)
theorem sR{P:Program}{w:World}(led:Bool){ys:List (Int×Int)}(nd:ys.Nodup)(hr:∀y∈ys,(0<=y.1/\y.1<32)/\(0<=y.2/\y.2<32))(hl:ys.length<=300):
  ∃hs t,q8 led (ys.map (dL P w))=some (hs,t)/\hs.size=ys.length:=by
 obtain⟨hs,t,e,z⟩:=xX led (lB nd fun x hx y hy e=>q_ (P:=P) (w:=w) (hr x hx) (hr y hy) e) (by rw[aI];exact hl);exact⟨hs,t,e,by rw[z,aI]⟩
theorem wH:∀ {as:List Addr} {its:List Value},aZ (as.map V.ref) its->its=as.map Value.ref
 |[],_,r=>by cases r;rfl
 |a::as,_,r=>by
  cases r with
  |cons r rr=>
   obtain rfl:=(show _=Value.ref a from r)
   rw[wH rr];rfl
def CL(D:Addr)(n:Nat):HO:=.ext fun h=>∃hs t,iD h D hs t/\hs.size=n
section
variable {X:Cx}
def J3(K:PySem.W.Frag):List V->Hp->VK->Prop:=fun xs H Q=>∃ (l:Addr) (as:List Addr) (ys:List (Int×Int)),xs=[.ref l]/\a_ K H l (as.map V.ref)/\as.length=ys.length/\
 (∀i,i<ys.length->zU K H (as.getD i 0) (ys.getD i (0,0)))/\ys.Nodup/\(∀y∈ys,(0<=y.1/\y.1<32)/\(0<=y.2/\y.2<32))/\ys.length<=300/\∀D,H D=none->Q (.ref D) (upd H D (CL D ys.length))
theorem xZ(hc:X.calm=true)(hu:X.A.units+8<cLine):fu X (.type "set") (J3 X.K):=by
 intro ae s σ H xs us Q I r h;obtain⟨l,as,ys,rfl,hl,dq,hp,nd,rg,h3,q⟩:=h;obtain⟨u1,rfl,r1⟩:=r.one;obtain rfl:u1=Value.ref l:=r1;obtain⟨its,rv,pl,hz⟩:=I.list hl;have e:=wH rv;subst e;have UK:gy s.heap (as.map Value.ref) ys:=⟨by rw[aI,dq],fun i v hv=>by
  rw[bh] at hv;cases ea:as[i]? with
  |none=>rw[ea] at hv;cases hv
  |some a=>
   rw[ea] at hv;obtain rfl:Value.ref a=v:=bA hv;have hi:i<as.length:=(di.mp ea).1;obtain⟨o,n,t,u,e1,c,d⟩:=vn I (hp i (by lia));have eg:as.getD i 0=a:=by rw[bE,ea];rfl
   rw[eg] at e1;exact⟨a,o,n,t,u,rfl,e1,c,d⟩⟩
 have xT:∀led,∃q:Array Int×SetTable,q8 led (ys.map (dL X.prog X.w))=some q/\q.1.size=ys.length:=fun led=>
  let ⟨hs,t,e,z⟩:=sR (P:=X.prog) (w:=X.w) led nd rg h3;⟨(hs,t),e,z⟩
 refine zW (I.ok.hd hc) hu pl.isList UK (hsN:=fun led=>(xT led).choose.1) (tN:=fun led=>(xT led).choose.2) (fun led=>(xT led).choose_spec.1) fun led h' tk S' k=>?_;refine⟨.ref s.heap.objs.size,_,I.EF (t':=tk) (o:=CL s.heap.objs.size ys.length) (fun b u e=>k b u (aH e) e) (qv (aF _)) ⟨⟨_,_,S',(xT led).choose_spec.2⟩,?_,fun h1 h2 ⟨hs,t,⟨o,es,ep,q1,q2⟩,z⟩ kk=>⟨hs,t,⟨o,es,ep,kk o q1,q2⟩,z⟩⟩,rfl,q _ I.fresh⟩;obtain⟨o,_,_,q1,_⟩:=S';exact⟨o,q1⟩
theorem sS:fu X (.builtin "len") (fun xs H Q=>∃D n,xs=[.ref D]/\H D=some (CL D n)/\n<=4096/\Q (.int n) H):=by
 intro ae s σ H xs us Q I r h;obtain⟨D,n,rfl,e,hn,q⟩:=h;obtain⟨u1,rfl,r1⟩:=r.one;obtain rfl:u1=Value.ref D:=r1;obtain⟨⟨hs,t,⟨o,es,ep,q1,q2,q3,q4,q5,q6⟩,z⟩,_⟩:=(show bG X.prog X.w H s.heap D (CL D n) from I.bp D _ e)
 have hsz:es.size=n:=by rw[<-z,<-q5,gf]
 exact call_len_set q1 ⟨q2,q3.1,q3.2⟩ q4 q6 (by rw[hsz];lia) ⟨.int n,H,I.tok _,⟨_,by rw[hsz]⟩,q⟩
end
def l9(e:V->V->Bool):List V->List V->Bool
 |[],[]=>true
 |x::xs,y::ys=>e x y&&l9 e xs ys
 |_,_=>false
theorem l_:∀ {xs ys:List V},xs.length=ys.length->l9 e xs ys=(List.range xs.length).all fun i=>e (xs.getD i .bD) (ys.getD i .bD)
 |[],[],_=>rfl
 |x::xs,y::ys,h=>by
  have h':xs.length=ys.length:=by simpa using h
  rw[l9,l_ h',c_,qj,ig,List.all_map];rfl
 |[],_::_,h=>by simp at h
 |_::_,[],h=>by simp at h
section
variable {X:Cx}
theorem x_(hc:X.calm=true):fu X (.builtin "any") (fun xs H Q=>∃ (p:Addr) (bs:List Bool),xs=[.ref p]/\a_ X.K H p (bs.map V.bl)/\Q (.bl (bs.any id)) H):=by
 intro ae s σ H xs us Q I r h;obtain⟨p,bs,rfl,hp,q⟩:=h;obtain⟨u1,rfl,r1⟩:=r.one;obtain rfl:u1=Value.ref p:=r1;obtain⟨its,rv,pl,hz⟩:=I.list hp;have z8:its=bs.map Value.bool:=by
  have go:∀ (bs:List Bool) (its:List Value),aZ (bs.map V.bl) its->its=bs.map Value.bool:=by
   intro bs;induction bs with
   |nil=>intro its r;cases r;rfl
   |cons b bs ih=>
    intro its r;cases r with
    |cons r rr=>
     obtain rfl:=(show _=Value.bool b from r)
     rw[ih _ rr];rfl
  exact go bs its rv
 subst z8;obtain⟨ob,Ol,_⟩:=id pl.isList;have de:p<s.heap.objs.size:=aH Ol;refine call_any_walk (qA pl.isList ⟨s.heap.objs.size,_,_,_,_,_,fun i=>bs.getD i false,rfl,Walks.list (show X.A.in1.handled=none from I.ok.hd hc) _ p (aU de) _,⟨⟨_,cm _ rfl,rfl,rfl⟩,pl.isList.push _⟩,fun i v s1 Q' E' hv hq=>?_,fun h' tk k=>?_⟩)
 .have vd:(bs.map Value.bool)[i]?=some v:=by simpa using hv
  rw[bh] at vd;cases eb:bs[i]? with
  |none=>rw[eb] at vd;cases vd
  |some b=>
   rw[eb] at vd;obtain rfl:Value.bool b=v:=bA vd;have:bs.getD i false=b:=by rw[bE,eb];rfl
   have Cr:Q' b s1:=by rw[<-this];exact hq
   exact wpAny_pure Cr
 .have keep:∀b o,s.heap.get? b=some o->h'.get? b=some o:=fun b o e=>k b o (by simpa using aU (aH e)) (bN _ e);refine⟨.bl (bs.any id),H,I.kept (t':=tk) keep,?_,q⟩;show Value.bool _=Value.bool _;congr 1;have go:∀ (bs:List Bool),((List.range bs.length).any fun i=>bs.getD i false)=bs.any id:=by
   intro bs;induction bs with
   |nil=>rfl
   |cons b bs ih=>
    rw[c_,qj,ie,List.any_map,ie,<-ih];rfl
  rw[<-go bs];simp
end
def md(c:Addr)(qual:Str):HO:=.ext fun h=>h.CodeRec (.ref c) qual
theorem z9(x:h.CodeRec (.ref c) qual):bG P w H h c (md c qual):=by
 refine⟨x,?_,?_⟩
 .obtain⟨c',o,vs,t,e,ho,_⟩:=x;cases e;exact⟨o,ho⟩
 .rintro h1 h2 ⟨c',o,vs,t,e,ho,r⟩ k;cases e;exact⟨c,o,vs,t,rfl,k o ho,r⟩
def EL(f:Addr)(qual:Str)(params:Arguments)(body:Expr)(scope:Scope)(cells:List (Str×Addr))(c:Addr)(h:Heap):Prop:=
 ∃ (cz:List (Str×Addr)) (pm ra:Value),(∀x a,cz.lookup x=some a->cells.lookup x=some a)/\(∀x,(x,NameKind.free)∈scope.names->∃a,cz.lookup x=some a)/\
  h.get? f=some (PySem.W.kla_obj "<lambda>" qual params body scope cz pm c ra)
def oz(f:Addr)(qual:Str)(params:Arguments)(body:Expr)(scope:Scope)(cells:List (Str×Addr))(c:Addr):HO:=.ext (EL f qual params body scope cells c)
theorem wI(x:EL f qual params body scope cells c h):
  bG P w H h f (oz f qual params body scope cells c):=by
 refine⟨x,?_,?_⟩
 .obtain⟨_,_,_,_,_,e⟩:=x;exact⟨_,e⟩
 .rintro h1 h2 ⟨cz,pm,ra,a,b,e⟩ k;exact⟨cz,pm,ra,a,b,k _ e⟩
def d_(lp:Pos)(qual:Str)(P:Addr)(H:Hp):Prop:=H P=some (.mO #[])\/∃c,H P=some (.mO #[rawInt lp.line,rawInt lp.col,.ref c])/\H c=some (md c qual)
structure CM(X:Cx)(c P:Addr):Prop where
 code:X.env.code=.ref c
 hd:PySem.W.CodeHd X.base c P
 bm:∃bm o,X.mg "__builtins__"=some (.ref bm)/\bm≠builtinsNs/\bm≠mainGlobals/\X.base.get? bm=some o/\o.cls=.type "module"/\o.dict=some builtinsNs/\o.data=.plain
def Om(lp:Pos)(qual:Str)(P:Addr)(params:Arguments)(body:Expr)(scope:Scope)(cells:List (Str×Addr)):TE:=fun _ H Q=>d_ lp qual P H/\
 ∀ (f c:Addr) (H2:Hp),d_ lp qual P H2->(∀b o,H b=some o->b≠P->H2 b=some o)->H2 c=some (md c qual)->H2 f=some (oz f qual params body scope cells c)->Q (.ref f) H2
theorem sT{lp:Pos}{c:Addr}:TriplesOk (#[rawInt lp.line,rawInt lp.col,.ref c]:Array Value).toList:=trivial
theorem ya:codeAmong lp (#[rawInt lp.line,rawInt lp.col,.ref c]:Array Value).toList=some (.ref c):=by
 show (if ((lp.line:Int)==(lp.line:Int)&&(lp.col:Int)==(lp.col:Int))=true then some (Value.ref c) else _)=_;simp
section
variable {X:Cx} {c P:Addr} {params:Arguments} {body:Expr} {scope:Scope} {lp:Pos} {NB:List Str} {src:List (Option Nat)}
theorem CM.at(C:CM X c P)(I:aD X ae σ H s)(hP:H P=some (.mO ps)):s.heap.BuiltinsAt X.mg P:=by
 obtain⟨bm,o,b1,b2,b3,b4,b5,b6,b7⟩:=C.bm;refine⟨bm,o,b1,b2,b3,fun z=>?_,I.bk _ _ b4,b5,b6,b7⟩;have:=(I.bs _ _ b4).2;rw[z,hP] at this;cases this
theorem aD.EM(I:aD X ae σ H s):s.heap.Ns mainGlobals X.mg:=I.mod.glob.keeps I.bk
theorem z_(C:CM X c P)(S:eX NB src scope X)(On:defaultsOf params X.env=([],[]):=by rfl):PE X (.Lambda params body scope lp) (Om lp (X.env.qual++"<lambda>") P params body scope X.env.cells):=by
 intro ae s σ H Q I h;obtain⟨UL,h⟩:=h;obtain⟨cz,Sh,c1,c2⟩:=jA I.ok S;refine PySem.W.kla_eval On ?_;have hsz:∀b o,s.heap.get? b=some o->b<s.heap.objs.size:=fun b o e=>aH e;rcases UL with hP|⟨c',hP,B_⟩
 .-- UM first time
  have J4:s.heap.get? P=some (PySem.W.tabObj #[]):=I.bp P _ hP;have UN:X.env.locals≠P:=fun z=>by have f:=I.free;rw[z,hP] at f;cases f
  have UO:mainGlobals≠P:=fun z=>by
   obtain⟨o,es,ep,e,d,_⟩:=I.mod.glob;have:=(I.bs _ _ e).2;rw[z,hP] at this;cases this
  refine PySem.W.kla_makeFunction (mg:=X.mg) Sh I.ok.glob I.EM C.code (C.hd.keeps I.bk) J4 (by trivial) rfl UO (C.at I hP) fun c' ra h' tk hx CN de Oo Si=>?_;have CO:∀b o,b≠P->s.heap.get? b=some o->(h'.push (PySem.W.kla_obj "<lambda>" (X.env.qual++"<lambda>") params body scope cz ((X.mg "__name__").getD .none) c' ra)).get? b=some o:=fun b o hb e=>bN _ (hx b o hb e);have UP:c'≠P:=hZ (bX (hsz _ _ J4) CN);have UQ:h'.objs.size≠P:=hZ (bX (hsz _ _ J4) (bn CN (jq de)));have UR:h'.objs.size≠c':=hZ de;have nf:H h'.objs.size=none:=I.bp.fresh (by lia);have nc:H c'=none:=I.bp.fresh CN
  let H2:Hp:=upd (upd (upd H P (.mO #[rawInt lp.line,rawInt lp.col,.ref c'])) c' (md c' (X.env.qual++"<lambda>"))) h'.objs.size (oz h'.objs.size (X.env.qual++"<lambda>") params body scope X.env.cells c')
  have eP:H2 P=some (.mO #[rawInt lp.line,rawInt lp.col,.ref c']):=by
   show upd _ _ _ _=_;rw[am UQ.symm,am UP.symm,af]
  have ec:H2 c'=some (md c' (X.env.qual++"<lambda>")):=by
   show upd _ _ _ _=_;rw[am UR.symm,af]
  have ef:H2 h'.objs.size=some (oz h'.objs.size (X.env.qual++"<lambda>") params body scope X.env.cells c'):=af;have eo:∀b,b≠P->b≠c'->b≠h'.objs.size->H2 b=H b:=fun b h1 h2 h3=>by
   show upd _ _ _ _=_;rw[am h3,am h2,am h1]
  have fK:∀b o,H b=some o->b≠P->H2 b=some o:=fun b o e hb=>by
   rw[eo b hb (ao e nc) (ao e nf)];exact e
  have I2:aD X ae σ H2 { s with heap:=h'.push (PySem.W.kla_obj "<lambda>" (X.env.qual++"<lambda>") params body scope cz ((X.mg "__name__").getD .none) c' ra),toks:=tk }:=by
   refine I.step (g':=s.gens) (d':=s.drawn) (ch:=[]) (fun _ z=>absurd z (by simp)) (fun b o _ _ _ e n=>CO b o (fun z=>by rw[z,hP] at n;cases n) e) (fun b o _ _ _ e n=>⟨o.slots,CO b o (fun z=>by rw[z,hP] at n;cases n) e⟩)
    (fun b o _ e n=>?_) (fun b o _ e=>?_) (fun b xs e=>fK b _ e fun z=>by rw[z,hP] at e;cases e) (fun b o u e=>fK b _ e fun z=>by rw[z,hP] at e;cases e) (fun b ps e=>?_) (fun m hm=>?_) (fun b o e=>?_) I.bare
   .rw[eo b (fun z=>by rw[z,hP] at n;cases n) (aU (bX (hsz b o e) CN)) (aU (bX (hsz b o e) (bn CN (jq de))))];exact n
   .by_cases hb:b=P
    .exact⟨_,by rw[hb];exact bN _ Si⟩
    .exact⟨o,CO b o hb e⟩
   .by_cases hb:b=P
    .rw[hb] at e |-;rw[hP] at e;cases e;exact⟨#[rawInt lp.line,rawInt lp.col,.ref c'],by rw[eP];simp⟩
    .exact⟨#[],by rw[fK b _ e hb];simp⟩
   .exact(hm.extBut hx UN).push _
   .by_cases Sj:b=h'.objs.size
    .subst Sj;rw[ef] at e;cases e;exact wI ⟨cz,_,ra,c1,c2,cm _ rfl⟩
    .by_cases N9:b=c'
     .subst N9;rw[ec] at e;cases e;refine z9 ?_;obtain⟨c₂,oc,vs,t,e2,Mw,r⟩:=Oo;exact⟨c₂,oc,vs,t,e2,bN _ Mw,r⟩
     .by_cases Op:b=P
      .subst Op;rw[eP] at e;cases e;exact bN _ Si
      .rw[eo b Op N9 Sj] at e;refine(I.bp b o e).jU (fun d u hd q=>CO d u ?_ q) (fun d q=>fK d _ q fun z=>by rw[z,hP] at q;cases q) fun d xs q=>fK d _ q fun z=>by rw[z,hP] at q;cases q
       rintro rfl;rcases hd with z|z
       .exact Op z.symm
       .rw[hP] at z;cases z
  exact⟨.ref h'.objs.size,H2,I2,rfl,h _ c' H2 (.inr ⟨c',eP,ec⟩) fK ec ef⟩
 .-- again
  have J4:s.heap.get? P=some (PySem.W.tabObj #[rawInt lp.line,rawInt lp.col,.ref c']):=I.bp P _ hP;refine PySem.W.kla_makeFunctionHit (mg:=X.mg) Sh I.ok.glob I.EM C.code (C.hd.keeps I.bk) J4 sT ya (C.at I hP) fun ra h' tk hk CN=>?_;have nf:H h'.objs.size=none:=I.bp.fresh CN
  let H2:Hp:=upd H h'.objs.size (oz h'.objs.size (X.env.qual++"<lambda>") params body scope X.env.cells c')
  have ef:H2 h'.objs.size=some (oz h'.objs.size (X.env.qual++"<lambda>") params body scope X.env.cells c'):=af;have fK:∀b o,H b=some o->H2 b=some o:=fun b o e=>by
   show upd _ _ _ _=_;rw[am (ao e nf)];exact e
  have CO:∀b o,s.heap.get? b=some o->(h'.push (PySem.W.kla_obj "<lambda>" (X.env.qual++"<lambda>") params body scope cz ((X.mg "__name__").getD .none) c' ra)).get? b=some o:=fun b o e=>bN _ (hk b o e);have I2:aD X ae σ H2 { s with heap:=h'.push (PySem.W.kla_obj "<lambda>" (X.env.qual++"<lambda>") params body scope cz ((X.mg "__name__").getD .none) c' ra),toks:=tk }:=by
   refine I.step (g':=s.gens) (d':=s.drawn) (ch:=[]) (fun _ z=>absurd z (by simp)) (fun b o _ _ _ e n=>CO b o e) (fun b o _ _ _ e n=>⟨o.slots,CO b o e⟩)
    (fun b o _ e n=>?_) (fun b o _ e=>⟨o,CO b o e⟩) (fun b xs e=>fK b _ e) (fun b o u e=>fK b _ e) (fun b ps e=>⟨#[],by rw[fK b _ e];simp⟩) (fun m hm=>(hm.keeps hk).push _) (I.bp.laid CO CN (wI ⟨cz,_,ra,c1,c2,cm _ rfl⟩)) I.bare
   .show upd _ _ _ _=_;rw[am (aU (bX (hsz b o e) CN))];exact n
  exact⟨.ref h'.objs.size,H2,I2,rfl,h _ c' H2 (.inr ⟨c',fK _ _ hP,fK _ _ B_⟩) (fun b o e _=>fK b o e) (fK _ _ B_) ef⟩
end
def Aa(X:Cx)(id:String)(ks:List Str)(r:St->List V->List V->Hp->VK->Prop):Prop:=
 ∀ (ae:List (Addr×Obj)) (s:Shared) (σ:St) (H:Hp) (vs zs:List V) (us ws:List Value) (Q:VK),aD X ae σ H s->aZ vs us->aZ zs ws->r σ vs zs H Q->
  wpAny (model X.prog X.w) X.A (call (.builtin id) us (ks.zip ws)) (EP X ae σ Q) X.xe s
def Oq(r:St->List V->List V->Hp->VK->Prop)(t tk:TA):TE:=fun σ H Q=>t σ H fun vs H1=>tk σ H1 fun zs H2=>r σ vs zs H2 Q
section
variable {X:Cx} {x:Str} {p pos:Pos} {e:Expr} {es:List Expr} {zI:List Keyword} {t tk:TA} {id:String} {ks:List Str} {r:St->List V->List V->Hp->VK->Prop}
theorem yb(hc:Aa X id ks r)(hg:Gl X x)(hm:X.mg x=none)(hv:bootBuiltins x=some (.builtin id))(ha:PA X (e::es) t)(US:PK X zI tk)(hn:x≠"__name__":=by decide)(vk:(x==("__debug__":Str))=false:=by decide)(UT:(backToKw pos (keywordEach zI X.env)).filterMap (·.1)=ks:=by rfl)(he:backTo pos (starEach (e::es) X.env)=(false,eval e X.env)::backTo pos (starEach es X.env):=by rfl)(oo:(backTo pos (starEach (e::es) X.env)).any (·.1)=false:=by rfl)(sF:(backToKw pos (keywordEach zI X.env)).all (·.1.isSome)=true:=by rfl)(CH:(backToKw pos (keywordEach zI X.env)).any (·.1.isNone)=false:=by rfl):PE X (.Call (.Name x p) (e::es) zI pos) (Oq r t tk):=by
 intro ae s σ H Q I h;refine ji (gl I hg hm hv ?_ hn vk);refine PyProof.Rows.callWith_kw (bS (ha pos ae s σ H _ I h) fun us s1 ⟨vs,H1,I1,r1,q1⟩=>?_) he oo sF CH;refine bS (US pos ae s1 σ H1 _ I1 q1) fun ws s2 ⟨zs,H2,I2,rz,q2⟩=>?_;rw[UT];exact hc ae s2 σ H2 vs zs us ws Q I2 r1 rz q2
end
def F5(za zb:Int)(ns a7:List Int):Prop:=∃ps:List (Int×Int),ps.Perm (ns.map fun z=>((z-za) % zb,z))/\a7=ps.map (·.2)/\ps.Pairwise fun p q=>p.1<=q.1
def F6(X:Cx)(qual:Str)(params:Arguments)(body:Expr)(scope:Scope)(ia ib:Nat):St->List V->List V->Hp->VK->Prop:=fun σ vs zs H Q=>
 ∃ (l f c:Addr) (ns:List Int) (za zb:Int),vs=[.ref l]/\zs=[.ref f]/\a_ X.K H l (ns.map V.int)/\ns.length<64/\H f=some (oz f qual params body scope X.env.cells c)/\H c=some (md c qual)/\
  σ[ia]?=some (some (.int za))/\σ[ib]?=some (some (.int zb))/\0<zb/\∀ (r:Addr) (a7:List Int),H r=none->F5 za zb ns a7->Q (.ref r) (upd H r (.lst (a7.map V.int)))
theorem pU:∀ {ns:List Int} {vs:List Value},aZ (ns.map V.int) vs->IntsAre vs ns
 |[],_,.nil=>.nil
 |_::_,_,.cons ⟨t,e⟩ r=>by subst e;exact .cons _ t (pU r)
structure J5(X:Cx)(qual:Str)(params:Arguments)(body:Expr)(scope:Scope)(y a b:Str)(ia ib:Nat):Prop where
 bd:∃p1 p2 p3 p4 p5,body=.BinOp (.BinOp (.Name y p1) .Sub (.Name a p2) p3) .Mod (.Name b p4) p5
 bind:∀cz pm c ra v,bindArgs (PySem.W.kla_fn "<lambda>" qual params body scope cz pm (.ref c) ra) ⟨[v],[]⟩=pure [(y,v)]
 na:X.N[ia]?=some a
 nb:X.N[ib]?=some b
 ca:X.env.scope.names.lookup a=some .cell
 cb:X.env.scope.names.lookup b=some .cell
 ly:scope.names.lookup y=some .local
 fa:scope.names.lookup a=some .free
 fb:scope.names.lookup b=some .free
 ma:(a,NameKind.free)∈scope.names
 mb:(b,NameKind.free)∈scope.names
 rb:∀z∈scope.names,z.2≠.cell
 kind:scope.kind=.function
 co:scope.isCoroutine=false
 gen:scope.isGenerator=false
 dy:(y==("__debug__":Str))=false
 da:(a==("__debug__":Str))=false/\(a==("__classdict__":Str))=false
 db:(b==("__debug__":Str))=false/\(b==("__classdict__":Str))=false
theorem vz(S:J5 X qual params body scope y a b ia ib)(hr:bO k X.A):
  Aa X "sorted" ["key"] (F6 X qual params body scope ia ib):=by
 intro ae s σ H vs zs us ws Q I r rz h;obtain⟨l,f,c,ns,za,zb,rfl,rfl,hl,Sk,hf,hc,sa,sb,W7,q⟩:=h;obtain⟨u1,rfl,r1⟩:=r.one;obtain rfl:u1=Value.ref l:=r1;obtain⟨w1,rfl,UU⟩:=rz.one;obtain rfl:w1=Value.ref f:=UU;obtain⟨its,rv,pl,hz⟩:=I.list hl;have hI:=pU rv;obtain⟨m,F⟩:=I.fr;obtain⟨p1,p2,p3,p4,p5,rfl⟩:=S.bd;obtain⟨cz,pm,ra,c1,c2,FW⟩:=(I.bp f _ hf).1;have Os:s.heap.CodeRec (.ref c) qual:=(I.bp c _ hc).1;obtain⟨m',Mv,Sl⟩:=I.loc;have J6:∃ca ta,cz.lookup a=some ca/\s.heap.IsCell ca (some (.int za ta)):=by
  obtain⟨u,⟨ta,rfl⟩,lk⟩:=Sl ia a (.int za) S.na sa (.inr (.inl S.ca));obtain⟨ca,e1⟩:=c2 a S.ma;rcases lk with ⟨z,_⟩|⟨_,W8,e2,e3⟩
  .have z':X.env.scope.names.lookup a=some .local:=z;rw[S.ca] at z';cases z'
  .have e4:=c1 a ca e1;rw[e2] at e4;cases e4;exact⟨ca,ta,e1,e3⟩
 have J7:∃cb tb,cz.lookup b=some cb/\s.heap.IsCell cb (some (.int zb tb)):=by
  obtain⟨u,⟨tb,rfl⟩,lk⟩:=Sl ib b (.int zb) S.nb sb (.inr (.inl S.cb));obtain⟨cb,e1⟩:=c2 b S.mb;rcases lk with ⟨z,_⟩|⟨_,W9,e2,e3⟩
  .have z':X.env.scope.names.lookup b=some .local:=z;rw[S.cb] at z';cases z'
  .have e4:=c1 b cb e1;rw[e2] at e4;cases e4;exact⟨cb,tb,e1,e3⟩
 obtain⟨ca,ta,ea,ha⟩:=J6;obtain⟨cb,tb,eb,hb⟩:=J7;have MR:∀b' (o:Obj),s.heap.get? b'=some o->(∀es ep,o.data≠.dict es ep)->b'≠X.env.locals:=fun b' o e d z=>by
  obtain⟨o',es,ep,e',d',_⟩:=F.ns;rw[z,e'] at e;cases e;exact d _ _ d'
 have len:(ns.map fun z=>(z-za) % zb).length=its.length:=by rw[aI,hI.length]
 refine ksk_sorted (b:=false) (f:=.ref f) (kz:=ns.map fun z=>(z-za) % zb) F zk pl.isList len (by rw[hI.length];exact Sk) (ksk_s1 _ _) (fun x=>ksk_l1 _ _) (fun x=>ksk_t1 _ _) ?_ ?_
 .-- one key
  intro i v k hv hk h tk own F' N';have at_:∀b' u,b'≠X.env.locals->s.heap.get? b'=some u->h.get? b'=some u:=fun b' u jB e=>by
   cases z:X.base.get? b' with
   |some o=>
    have:=I.bk b' o z;rw[e] at this;cases this;exact F'.keep b' _ z
   |none=>exact(N' (b',u) (jP _ (iu jB z e))).1
  have Ot:=at_ f _ (MR f _ FW (by intro es ep z;cases z)) FW;have Ou:h.CodeRec (.ref c) qual:=by
   obtain⟨c0,o,UV,t0,e0,ho,hd,UX⟩:=Os;refine⟨c0,o,UV,t0,e0,at_ _ _ (MR _ _ ho (by rw[hd];intro es ep z;cases z)) ho,hd,UX⟩
  have JK:h.IsCell ca (some (.int za ta)):=by
   obtain⟨o,ho,hd⟩:=ha;exact⟨o,at_ _ _ (MR _ _ ho (by rw[hd];intro es ep z;cases z)) ho,hd⟩
  have iZ:h.IsCell cb (some (.int zb tb)):=by
   obtain⟨o,ho,hd⟩:=hb;exact⟨o,at_ _ _ (MR _ _ ho (by rw[hd];intro es ep z;cases z)) ho,hd⟩
  obtain⟨z,tz,rfl,rfl⟩:∃z tz,v=.int z tz/\k=(z-za) % zb:=by
   obtain⟨n,t,e⟩:=hI.all v (cC hv);refine⟨n,t,e,?_⟩;rw[bh] at hk;have hn:=hI.nums;have e1:(its.map numOf)[i]?=some n:=by rw[bh,hv,e];rfl
   rw[hn] at e1;rw[e1] at hk;exact(bA hk).symm
  have Ab:X.A.in1.in1.depth<recursionLimit:=by
   have:=hr.dp;show X.A.depth<_;lia
  refine kZ (PySem.W.kla_callFunE Ab Ot rfl S.co S.gen rfl Ou ?_);rw[S.bind];refine wpAny_pure (wpAny_newFunctionEnv S.rb (fun x hx=>by rw[cN.mp hx];exact S.ly) (fun h₁ sU J8=>⟨((I.ok.mod.nolimit).keeps F'.keep).fresh _ J8,?_⟩) S.kind);have F7:∀b o,h.get? b=some o->h₁.get? b=some o:=fun b o e=>J8.extBut b o (aU (aH e)) (bN _ e);have UY:=JK.keeps F7;have UZ:=iZ.keeps F7;refine PySem.W.kla_codeExpr ?_;refine wpAny_BinOp (wpAny_BinOp ?_);refine k4 (uK S.kind S.ly sU (v:=.int z tz) (by simp) ?_) S.dy;refine k4 (uR S.kind S.fa ea UY ?_ S.da.2) S.da.1;refine sub_int ?_;refine k4 (uR S.kind S.fb eb UZ ?_ S.db.2) S.db.1;refine mod_int' (by lia) ?_;rw[y_ _ (by lia)];refine KskEnd.intro (news':=gk X.base s.heap X.env.locals++own) ⟨F'.ns.keeps F7,fun b o e=>F7 b o (F'.keep b o e),F'.above⟩ (fun p hp=>⟨F7 _ _ (N' p hp).1,(N' p hp).2⟩) fun p hp=>hp
 .-- UM list
  intro D h' tk a7 cc F' N' de Ov;have hD:=o_ I N' de;obtain⟨ps,hp,ho,hs⟩:=Ov;have CF:∀p∈ps,∃n t,p.2=.int n t:=fun p IA=>by
   have:=hp.mem_iff.mp IA;exact hI.all _ (kT this).2
  have U0:((ns.map fun z=>(z-za) % zb).zip its).map (fun p=>(p.1,numOf p.2))=ns.map fun z=>((z-za) % zb,z):=by
   have hn:=hI.nums;rw[<-hn];have go:∀ (l:List Value),((((l.map numOf).map fun z=>(z-za) % zb).zip l).map fun p=>(p.1,numOf p.2))=(l.map numOf).map fun z=>((z-za) % zb,z):=by
    intro l;induction l with
    |nil=>rfl
    |cons x l ih=>simp only[eR,List.zip_cons_cons,ih]
   exact go its
  have zO:aZ ((ps.map fun p=>(p.1,numOf p.2)).map (fun p=>V.int p.2)) (ps.map Prod.snd):=by
   have go:∀ (l:List (Int×Value)),(∀p∈l,∃n t,p.2=.int n t)->aZ ((l.map fun p=>(p.1,numOf p.2)).map (fun p=>V.int p.2)) (l.map Prod.snd):=by
    intro l;induction l with
    |nil=>intro _;exact .nil
    |cons x l ih=>
     intro hx;refine .cons ?_ (ih fun p hp=>hx p (bV _ hp));obtain⟨n,t,e⟩:=hx x b_;show ∃t,x.2=Value.int (numOf x.2) t;rw[e];exact⟨t,rfl⟩
   exact go ps CF
  have yc:F5 za zb ns ((ps.map fun p=>(p.1,numOf p.2)).map (·.2)):=by
   refine⟨ps.map fun p=>(p.1,numOf p.2),?_,rfl,?_⟩
   .rw[<-U0];exact hp.map _
   .refine lX.mpr (hs.imp fun {p q} z=>?_);simpa using z
  have U1:h'.get? D=some (seqObj "list" a7 cc):=(N' _ b_).1;have I2:aD X ae σ (upd H D (.lst (((ps.map fun p=>(p.1,numOf p.2)).map (·.2)).map V.int))) { s with heap:=h',toks:=tk }:=by
   refine I.JW F F' (fun p hp=>N' p (bV _ hp)) hD ⟨?_,ps.map Prod.snd,cc,?_,?_⟩
   .have h1:=hp.length_eq;rw[List.length_zip,len,Nat.min_self] at h1;simp only[aI];rw[h1,hI.length];exact bn (jq Sk) (by decide)
   .have ev:=zO;simp only[gW] at ev |-;exact ev
   .rw[U1,<-ho]
  exact⟨.ref D,_,I2,rfl,q D _ (I.bp.q0 hD) yc⟩
def pb(mg:Str->Option Value)(base:Heap):Prop:=∃bm o,mg "__builtins__"=some (.ref bm)/\bm≠builtinsNs/\bm≠mainGlobals/\base.get? bm=some o/\o.cls=.type "module"/\o.dict=some builtinsNs/\o.data=.plain
def wJ(ts:List Addr)(H:Hp):Prop:=(∀P∈ts,H P=some (.mO #[]))/\∀b,H b=none\/(b∈ts/\H b=some (.mO #[]))\/∃o xs,H b=some (.pE o (.lst xs))
theorem yd{P:Program}{w:World}{K:PySem.W.Frag}{mg mb:Str->Option Value}{CX:sA}{k:Nat}{fa a:Addr}{fd:FuncData}{x:Str}{sp:Sp}{s₁:Shared}{vs:List Value}{ns:List Int}{ts:List Addr}(KX:K.In s₁.heap)(sU:s₁.heap.Ns mainGlobals mg)(hb:s₁.heap.Ns builtinsNs mb)(U2:∀x:Str,x≠"__name__"->mb x=bootBuiltins x)(Ow:s₁.heap.NoLimit)(hg:s₁.gens=#[])(U3:pb mg s₁.heap)(J9:∀P∈ts,s₁.heap.get? P=some (PySem.W.tabObj #[]))(oZ:∀P∈ts,∃c,PySem.W.codeHdIn K c P=true)(Ox:∀P∈ts,K.lookup P=none)(ha:s₁.heap.get? a=some { cls:=.type "list",data:=.seq vs.toArray })(hi:IntsAre vs ns)(hl:ns.length<=sizeLine)(hr:bO k callerA)(F:∀base:Heap,K.In base->base.Ns mainGlobals mg->pb mg base->bi P w K mg base CX k fa fd [x] sp)(J_:∀ (s:Shared) (u:Value),BindsTo s fd ⟨[u],[]⟩ [(x,u)])(yW:∀H:Hp,wJ ts H->a_ K H a (ns.map V.int)->sp [.ref a] H (fun v _=>v=.bl true) fun _ _ _=>False)(Oy:∀H e s',CX [] H s₁ (fun _ _ _=>False) e s'->False):
  codeAny (model P w) callerA (.call (.ref fa) ⟨[.ref a],[]⟩) (fun r s'=>r=.ok (.ret (.bool true))/\OldK s₁.heap s'.heap/\s'.os=s₁.os/\AllBare s'.gens) s₁:=by
 have rv:=pP hi;have Oz:=hi.length;have MS:a∉ts:=fun z=>by
  have:=J9 a z;rw[ha] at this;cases this
 have Ka:∀H:Hp,wJ ts H->a_ K H a (ns.map V.int)->ge P w H s₁.heap->(∀b,H b≠none->b=a\/b∈ts)->(H a≠none->K.lookup a=none)->
   codeAny (model P w) callerA (.call (.ref fa) ⟨[.ref a],[]⟩) (fun r s'=>r=.ok (.ret (.bool true))/\OldK s₁.heap s'.heap/\s'.os=s₁.os/\AllBare s'.gens) s₁:=by
  intro H hO hS bp hA hK;have rc:∀ {b:Addr} {o:Obj},s₁.heap.get? b=some o->H b=none->(o3 s₁.heap H).get? b=some o:=fun e n=>zj e n;have Iv:∀ {b:Addr} {o:Obj},s₁.heap.get? b=some o->(∀v n,o.data≠.seq v n)->(∀v,o.data≠.fields v)->H b=none:=fun {b o} e d1 d2=>by
   cases q:H b with
   |none=>rfl
   |some u=>
    rcases hA b (by rw[q];simp) with e'|e'
    .subst e';rw[ha] at e;cases e;exact absurd rfl (d1 _ _)
    .rw[J9 b e'] at e;cases e;exact absurd rfl (d2 _)
  have MT:∀ {b:Addr} {m:Str->Option Value},s₁.heap.Ns b m->(o3 s₁.heap H).Ns b m:=fun {b m} ⟨o,es,ep,e,d,r⟩=>⟨o,es,ep,rc e (Iv e (by rw[d];intro v n z;cases z) (by rw[d];intro v z;cases z)),d,r⟩
  have Sm:K.In (o3 s₁.heap H):=fun b o e=>rc (KX b o e) (by
   cases q:H b with
   |none=>rfl
   |some u=>
    rcases hA b (by rw[q];simp) with e'|e'
    .subst e';rw[hK (by rw[q];simp)] at e;cases e
    .rw[Ox b e'] at e;cases e)
  have hB:pb mg (o3 s₁.heap H):=by
   obtain⟨bm,o,b1,b2,b3,b4,b5,b6,b7⟩:=U3;exact⟨bm,o,b1,b2,b3,rc b4 (Iv b4 (by rw[b7];intro v n z;cases z) (by rw[b7];intro v z;cases z)),b5,b6,b7⟩
  have hM:Mod K mg (o3 s₁.heap H):=⟨Sm,MT sU,⟨mb,MT hb,U2⟩,let ⟨mc,h1,h2⟩:=Ow;⟨mc,MT h1,h2⟩⟩
  have e0:sB P w K mg (o3 s₁.heap H) callerA [] s₁ H:=⟨rfl,hM,fun b o e=>B7 e,qN (xC _ _),trivial,fun b hb=>absurd (show b∈([]:List Addr) from hb) (by simp),bp,.of_eq hg⟩
  refine jr ((F _ Sm (MT sU) hB).run callerA [] s₁ H ⟨[.ref a],[]⟩ [.ref a] [.ref a] _ _ hr e0 (J_ s₁ (.ref a)) (.cons rfl .nil) (yW H hO hS)) fun r s' h=>?_;cases r with
  |error e=>exact(Oy H e s' h).elim
  |ok fl=>
   cases fl with
   |next=>exact False.elim h
   |brk=>exact False.elim h
   |cont=>exact False.elim h
   |ret u=>
    obtain⟨v,H',os,bare,un,Kb,r',q⟩:=h;have q':v=.bl true:=q;subst q';obtain rfl:u=Value.bool true:=r';refine⟨rfl,⟨fun b o e=>?_,fun b o e=>un.there b o e (by simp)⟩,os,bare⟩;cases q:H b with
    |none=>exact .inl (un.keep b o e q (by intro z;exact absurd (show b∈([]:List Addr) from z) (by simp)) (by simp))
    |some u=>
     rcases hO.2 b with z|⟨zt,z⟩|⟨ob,xs,z⟩
     .rw[q] at z;cases z
     .obtain⟨more,z2⟩:=un.ir b _ z;have e1:=J9 b zt;rw[e] at e1;cases e1;have e2:s'.heap.get? b=some { cls:=.none,data:=.fields (#[]++more) }:=Kb b _ z2;obtain⟨c,hc⟩:=oZ b zt;obtain⟨oc,U4,_,_,_,_,_,_,_,g1,g2,g3,g4,_⟩:=PySem.W.codeHd_of_K KX hc;exact .inr (.inl ⟨⟨c,oc,U4,g1,g2,g3,g4⟩,rfl,#[],more,rfl,e2⟩)
     .have z2:=un.iq b ob _ z;obtain⟨e1,_⟩:=bp b _ z;obtain⟨e2,_⟩:=Kb b _ z2;rw[e] at e1;cases e1;exact .inl e2
 have Sn:∀ (H:Hp),(∀P∈ts,H P=some (.mO #[]))->True:=fun _ _=>trivial
 classical
 cases hk:K.lookup a with
 |some o=>
  have e:=KX a o hk;rw[ha] at e;cases e;refine Ka (fun b=>if b∈ts then some (.mO #[]) else none) ⟨fun P hP=>ak hP,fun b=>?_⟩ (.inr ⟨_,vs.toArray,_,hk,rfl,rfl,rfl,by rw[cw,Oz];exact hl,by simpa using rv⟩) (fun b u z=>?_) (fun b z=>?_) fun z=>absurd (ai MS) z
  .by_cases hb:b∈ts
   .exact .inr (.inl ⟨hb,ak hb⟩)
   .exact .inl (ai hb)
  .by_cases hb:b∈ts
   .have z':=(ak hb).symm.trans z;cases z';exact J9 b hb
   .have z':=(ai hb).symm.trans z;cases z'
  .by_cases hb:b∈ts
   .exact .inr hb
   .exact absurd (ai hb) z
 |none=>
  refine Ka (fun b=>if b=a then some (.pE { cls:=.type "list",data:=.seq vs.toArray } (.lst (ns.map V.int))) else if b∈ts then some (.mO #[]) else none) ⟨fun P hP=>?_,fun b=>?_⟩ (.inl (.inr ⟨{ cls:=.type "list",data:=.seq vs.toArray },ak rfl⟩)) (fun b u z=>?_) (fun b z=>?_) fun _=>hk
  .have:P≠a:=fun z=>MS (z ▸ hP);show (if P=a then _ else if P∈ts then _ else _)=_;rw[ai this,ak hP]
  .by_cases hb:b=a
   .exact .inr (.inr ⟨_,_,ak hb⟩)
   .by_cases ht:b∈ts
    .exact .inr (.inl ⟨ht,by show (if b=a then _ else if b∈ts then _ else _)=_;rw[ai hb,ak ht]⟩)
    .exact .inl (by show (if b=a then _ else if b∈ts then _ else _)=_;rw[ai hb,ai ht])
  .by_cases hb:b=a
   .have z':=(ak hb).symm.trans z;cases z';subst hb;exact⟨ha,by rw[aI];exact hl,vs,_,rv,ha⟩
   .have z1:(if b∈ts then some (HO.mO #[]) else none)=some u:=(ai hb).symm.trans z;by_cases ht:b∈ts
    .rw[ak ht] at z1;cases z1;exact J9 b ht
    .rw[ai ht] at z1;cases z1
  .by_cases hb:b=a
   .exact .inl hb
   .by_cases ht:b∈ts
    .exact .inr ht
    .exact absurd (by show (if b=a then _ else if b∈ts then _ else _)=_;rw[ai hb,ai ht]) z
theorem Ac{l:PySem.W.OpenLaw}{n k:Nat}{q:Program}{pO:List Str}{XP:(Str->Option Value)->Heap->Prop}{YP:World->Heap->Prop}{d:DefRec}{K:Params->PySem.W.Frag}{CX:World->sA}{sp:World->Sp}{x:Str}{ts:List Addr}(hn:l.most=some n)(Iu:n<=sizeLine)(JI:d.params.defaults=[])(hr:bO k callerA)(hY:∀ (w:World) (h:Heap),YP w h->(K w.params).In h)(hT:∀ (w:World) (h:Heap),YP w h->∀P∈ts,h.get? P=some (PySem.W.tabObj #[]))(oZ:∀ (w:World),∀P∈ts,∃c,PySem.W.codeHdIn (K w.params) c P=true)(Ox:∀ (w:World),∀P∈ts,(K w.params).lookup P=none)(F:∀ (w:World) (mg:Str->Option Value) (fa:Addr) (h:Heap),(K w.params).In h->h.Ns mainGlobals mg->mg d.name=some (.ref fa)->
   ∃fd:FuncData,(∀ (s:Shared) (u:Value),BindsTo s fd ⟨[u],[]⟩ [(x,u)])/\
    ∀base:Heap,(K w.params).In base->base.Ns mainGlobals mg->pb mg base->bi l.prog w (K w.params) mg base (CX w) k fa fd [x] (sp w))(yW:∀ (w:World) (H:Hp) (a:Addr) (ns:List Int),ns.length<=n->wJ ts H->a_ (K w.params) H a (ns.map V.int)->sp w [.ref a] H (fun v _=>v=.bl true) fun _ _ _=>False)(Oy:∀ (w:World) (H:Hp) (s:Shared) (e:Value) (s':Shared),CX w [] H s (fun _ _ _=>False) e s'->False):
  PySem.W.WalkO q pO XP YP l.row.toRowW d [] (fun f vs=>PySem.call f vs):=by
 refine RV.sG hn JI fun w s₀ s₁ mg mb fa o pm cd jL a vs ns G Y ho hd U5 JJ FV zP dq hg=>?_;have KX:=hY w _ Y;obtain⟨fd,hb,hF⟩:=F w mg fa _ KX G.T.g JJ;have hB:pb mg s₁.heap:=by
  obtain⟨bm,ob,b1,b2,b3,b4,b5,b6⟩:=G.T.bmain;refine⟨bm,ob,b1,b2,fun z=>?_,b3,b4,b5,b6⟩;obtain⟨o',es,ep,e,Ft,_⟩:=G.T.g;rw[z,e] at b3;cases b3;rw[Ft] at b6;cases b6
 exact yd KX G.T.g G.T.b G.T.builtins G.T.nolimit hg hB (hT w _ Y) (oZ w) (Ox w) FV zP (bn dq Iu) hr hF hb (fun H hO hS=>yW w H a ns dq hO hS) fun H e s'=>Oy w H s₁ e s'
structure sV(K:PySem.W.Frag)(x qual:Str)(st:Stmt)(f:Addr)(fd:FuncData)(c:Addr):Prop where
 ex:∃ (oc:Value) (od:Option Addr) (kV jL pm:Value) (an:Option Addr) (ct:Value) (qV:Array (Option Value)),
  fd=PySem.W.fnOf x qual (ci st) (bz st) (aq st) .none kV jL pm an (.ref c) ct/\K.lookup f=some ⟨oc,od,.func fd,qV⟩/\PySem.W.codeIn K (.ref c) qual=true
 kp:PySem.W.keepIn K (.ref f)=true
theorem sV.fun{K:PySem.W.Frag}{x qual:Str}{st:Stmt}{f:Addr}{fd:FuncData}{c:Addr}(F:sV K x qual st f fd c):eh K x qual st f fd:=by
 obtain⟨oc,od,kV,jL,pm,an,ct,qV,e,lk,oZ⟩:=F.ex;exact⟨⟨oc,od,kV,jL,pm,an,_,ct,qV,e,lk,oZ⟩,F.kp⟩
section
variable {P:Program} {w:World} {K:PySem.W.Frag} {mg:Str->Option Value} {base:Heap}
theorem sV.ok{x qual:Str}{st:Stmt}{f:Addr}{fd:FuncData}{c:Addr}{N ps:List Str}{k:Nat}{sp:Sp}(F:sV K x qual st f fd c)(S:aB N ps (aq st))(len:∀vs H Q E,sp vs H Q E->vs.length=ps.length)(on:∀ (A:Around) (outer:List Env) (s:Shared) (H:Hp) (vs:List V) (Q:VK) (E:XK),bO k (A.deeper (envOfC qual (aq st) s.heap.objs.size f (.ref c)))->sp vs H Q E->
   ∃t,ui (gv bg P w K mg base N qual (aq st) f (.ref c) A outer s H E).Ew (bz st) t/\t { nx:=fun _ H'=>Q .bD H',rt:=Q } (start N vs) H):bi P w K mg base bg (k+1) f fd ps sp:=by
 obtain⟨oc,od,kV,jL,pm,an,ct,qV,rfl,lk,oZ⟩:=F.ex;refine zJ lk oZ S len fun A outer s H vs Q E hr yW=>?_;obtain⟨t,h,q⟩:=on A outer s H vs Q E hr yW;exact⟨t,h.Ew,q⟩
theorem CP{x qual:Str}{st:Stmt}{f c:Addr}{oc:Value}{od an:Option Addr}{qV:Array (Option Value)}{kV jL pm ct:Value}(l:K.lookup f=some ⟨oc,od,.func (PySem.W.fnOf x qual (ci st) (bz st) (aq st) .none kV jL pm an (.ref c) ct),qV⟩)(oZ:PySem.W.codeIn K (.ref c) qual=true)(kp:PySem.W.keepIn K (.ref f)=true):sV K x qual st f (PySem.W.fnOf x qual (ci st) (bz st) (aq st) .none kV jL pm an (.ref c) ct) c:=⟨⟨oc,od,kV,jL,pm,an,ct,qV,rfl,l,oZ⟩,kp⟩
theorem wK(kb:K.In base)(hb:pb mg base)(hc:PySem.W.codeHdIn K c P'=true):
  CM (gv CX P w K mg base N qual scope f (.ref c) A outer s H E).Ew c P':=⟨rfl,PySem.W.codeHd_of_K kb hc,hb⟩
end
def mV(sc OA:Scope)(y:Str×NameKind):Bool:=match y.2 with
 |.cell=>(match sc.names.lookup y.1 with|some .cell=>true|_=>false)
 |.local=>(match sc.names.lookup y.1 with|some .local=>true|_=>false)
 |.free=>(match OA.names.lookup y.1 with|some .cell=>true|some .free=>true|_=>false)
 |_=>true
def Ad(NB:List Str)(src:List (Option Nat))(sc:Scope)(N:List Str)(i:Nat):Bool:=match NB[i]?,src[i]? with
 |some x,some (some j)=>(N[j]?==some x)&&(match sc.names.lookup x with|some .free=>true|_=>false)
 |_,_=>true
def wL(sc:Scope):Bool:=match sc.kind with|.function=>true|_=>false
def Ae(NB:List Str)(src:List (Option Nat))(sc OA:Scope)(N:List Str):Bool:=
 wL sc&&decide NB.Nodup&&(src.length==NB.length)&&(sc.names.all (mV sc OA))&&(List.range NB.length).all (Ad NB src sc N)
theorem cA(h:Ae NB src sc X.env.scope X.N=true):eX NB src sc X:=by
 unfold Ae at h;simp only[fQ,nJ,eS,hV] at h;obtain⟨⟨⟨⟨h1,h2⟩,h3⟩,h4⟩,h5⟩:=h;refine⟨?_,h2,h3,fun y hy z=>?_,fun y hy z=>?_,fun y hy z=>?_,fun i x j e1 e2=>?_⟩
 .unfold wL at h1;split at h1
  .assumption
  .cases h1
 .have:=h4 y hy;obtain⟨n,k⟩:=y;obtain rfl:k=.cell:=z;dsimp only[mV] at this |-;split at this
  .assumption
  .cases this
 .have:=h4 y hy;obtain⟨n,k⟩:=y;obtain rfl:k=.local:=z;dsimp only[mV] at this |-;split at this
  .assumption
  .cases this
 .have:=h4 y hy;obtain⟨n,k⟩:=y;obtain rfl:k=.free:=z;dsimp only[mV] at this |-;split at this
  .exact .inl (by assumption)
  .exact .inr (by assumption)
  .cases this
 .have hi:i<NB.length:=(di.mp e1).1;have:=h5 i (cD.mpr hi);unfold Ad at this;rw[e1,e2] at this;simp only[fQ,eS] at this;refine⟨this.1,?_⟩;have t2:=this.2;split at t2
  .assumption
  .cases t2
theorem dW{K:PySem.W.Frag}{a D:Addr}{xs:List V}{g:TG}{tt:TT}{te:TE}{dB:Hp->Prop}{σB:St}{H0:Hp}(Pv:Nat->List V->St->Hp->Prop)(h0:Pv 0 [] σB H0)(hl:∀i ys σ H,i<=xs.length->Pv i ys σ H->a_ K H a xs)(hs:∀i x ys σ H (Kt:V->St->Hp->Prop) (Kf:St->Hp->Prop),xs[i]?=some x->Pv i ys σ H->
   (∀v σ2 H4,H4 D=some (.lst ys)->ys.length<sizeLine->Pv (i+1) (ys++[v]) σ2 (upd H4 D (.lst (ys++[v])))->Kt v σ2 H4)->(∀σ2 H3,Pv (i+1) ys σ2 H3->Kf σ2 H3)->
   g x σ H fun σ2 H2=>tt σ2 H2 fun b H3=>if b=true then te σ2 H3 fun v H4=>Kt v σ2 H4 else Kf σ2 H3)(hd:∀ys σ H,Pv xs.length ys σ H->dB H):fY (Cf K a) g tt te D dB σB H0:=by
 refine⟨fun i m σ H=>m=xs.length-i/\i<=xs.length/\∃ys,Pv i ys σ H,⟨xs.length,by simp,cE _,[],h0⟩,?_⟩;rintro i m σ H ⟨rfl,hi,ys,p⟩;have q:=hl i ys σ H hi p;by_cases de:i<xs.length
 .refine .inr ⟨⟨xs,xs[i],q,by simp[de]⟩,?_⟩;rintro x H' ⟨rfl,y⟩;exact hs i x ys σ _ (fun v σ2 H4=>∃ys,H4 D=some (.lst ys)/\ys.length<sizeLine/\∃m',m'<xs.length-i/\m'=xs.length-(i+1)/\i+1<=xs.length/\∃pc,Pv (i+1) pc σ2 (upd H4 D (.lst (ys++[v]))))
   (fun σ2 H3=>∃m',m'<xs.length-i/\m'=xs.length-(i+1)/\i+1<=xs.length/\∃pc,Pv (i+1) pc σ2 H3) (y xs q) p
   (fun v σ2 H4 z1 z2 z3=>⟨ys,z1,z2,_,by lia,rfl,de,_,z3⟩) (fun σ2 H3 z=>⟨_,by lia,rfl,de,_,z⟩)
 .have e:i=xs.length:=by lia
  subst e;exact .inl ⟨⟨xs,q,aF _⟩,hd ys σ H p⟩
theorem jD{lo:Int}{n:Nat}{D:Addr}{g:TG}{tt:TT}{te:TE}{dB:Hp->Prop}{σB:St}{H0:Hp}(Pv:Nat->List V->St->Hp->Prop)(h0:Pv 0 [] σB H0)(hs:∀i ys σ H (Kt:V->St->Hp->Prop) (Kf:St->Hp->Prop),i<n->Pv i ys σ H->
   (∀v σ2 H4,H4 D=some (.lst ys)->ys.length<sizeLine->Pv (i+1) (ys++[v]) σ2 (upd H4 D (.lst (ys++[v])))->Kt v σ2 H4)->(∀σ2 H3,Pv (i+1) ys σ2 H3->Kf σ2 H3)->
   g (.int (lo+i)) σ H fun σ2 H2=>tt σ2 H2 fun b H3=>if b=true then te σ2 H3 fun v H4=>Kt v σ2 H4 else Kf σ2 H3)(hd:∀ys σ H,Pv n ys σ H->dB H):fY (Ex lo n) g tt te D dB σB H0:=by
 refine⟨fun i m σ H=>m=n-i/\i<=n/\∃ys,Pv i ys σ H,⟨n,by simp,cE _,[],h0⟩,?_⟩;rintro i m σ H ⟨rfl,hi,ys,p⟩;by_cases de:i<n
 .refine .inr ⟨de,?_⟩;rintro x H' ⟨rfl,rfl⟩;exact hs i ys σ _ (fun v σ2 H4=>∃ys,H4 D=some (.lst ys)/\ys.length<sizeLine/\∃m',m'<n-i/\m'=n-(i+1)/\i+1<=n/\∃pc,Pv (i+1) pc σ2 (upd H4 D (.lst (ys++[v]))))
   (fun σ2 H3=>∃m',m'<n-i/\m'=n-(i+1)/\i+1<=n/\∃pc,Pv (i+1) pc σ2 H3) de p
   (fun v σ2 H4 z1 z2 z3=>⟨ys,z1,z2,_,by lia,rfl,de,_,z3⟩) (fun σ2 H3 z=>⟨_,by lia,rfl,de,_,z⟩)
 .have e:i=n:=by lia
  subst e;exact .inl ⟨aF _,hd ys σ H p⟩
section
variable {κ:Type} [DecidableEq κ]
def fg(a8:List (κ×V))(k:κ):Option V:=(a8.find? fun kv=>decide (kv.1=k)).map (·.2)
def lC(a8:List (κ×V))(k:κ)(v:V):List (κ×V):=
 if (a8.any fun kv=>decide (kv.1=k))=true then a8.map (fun kv=>if kv.1=k then (kv.1,v) else kv) else a8++[(k,v)]
theorem cT{p:κ×V}{r:List (κ×V)}{k:κ}(e:p.1=k):fg (p::r) k=some p.2:=by simp[fg,kU,e]
theorem cU{p:κ×V}{r:List (κ×V)}{k:κ}(e:¬ p.1=k):fg (p::r) k=fg r k:=by simp[fg,kU,e]
theorem kd(k:κ):∀a8:List (κ×V),(a8.any fun kv=>decide (kv.1=k))=(fg a8 k).isSome
 |[]=>rfl
 |p::r=>by
  rw[ie];by_cases e:p.1=k
  .simp only[cT e,bK e,Bool.true_or,Option.isSome_some]
  .rw[cU e,dD e,Bool.false_or];exact kd k r
theorem sW(k j:κ)(y:V):∀a8:List (κ×V),fg (a8.map fun kv=>if kv.1=k then (kv.1,y) else kv) j=(fg a8 j).map fun x=>if j=k then y else x
 |[]=>rfl
 |p::r=>by
  have ih:=sW k j y r;rw[eR];by_cases h:p.1=k
  .rw[ak h];by_cases e:p.1=j
   .rw[cT (p:=(p.1,y)) e,cT e,jS,ak (e.symm.trans h)]
   .rw[cU (p:=(p.1,y)) e,cU e,ih]
  .rw[ai h];by_cases e:p.1=j
   .rw[cT (p:=p) e,cT e,jS,ai (fun z=>h (e.trans z))]
   .rw[cU (p:=p) e,cU e,ih]
theorem pV(k j:κ)(y:V):∀a8:List (κ×V),fg a8 k=none->fg (a8++[(k,y)]) j=if j=k then some y else fg a8 j
 |[],_=>by
  by_cases e:k=j
  .rw[ak e.symm];exact cT (p:=(k,y)) e
  .rw[ai (fun z=>e z.symm)];exact cU (p:=(k,y)) e
 |p::r,hn=>by
  rw[List.cons_append];have hk:¬ p.1=k:=fun z=>by rw[cT z] at hn;cases hn
  rw[cU hk] at hn;have ih:=pV k j y r hn;by_cases e:p.1=j
  .rw[cT e,cT e,ai (fun z=>hk (e.trans z))]
  .rw[cU e,cU e,ih]
theorem Af(a8:List (κ×V))(k j:κ)(y:V):fg (lC a8 k y) j=if j=k then some y else fg a8 j:=by
 unfold lC;by_cases a:(a8.any fun kv=>decide (kv.1=k))=true
 .rw[ak a,sW];rw[kd] at a;by_cases e:j=k
  .obtain⟨x,hx⟩:=pB.mp a;rw[ak e,e,hx,jS,ak rfl]
  .rw[ai e];cases fg a8 j with
   |none=>rfl
   |some x=>rw[jS,ai e]
 .rw[ai a];refine pV k j y a8 ?_;rw[kd] at a;cases q:fg a8 k with
  |none=>rfl
  |some x=>rw[q] at a;exact(a rfl).elim
theorem iE(a8:List (κ×V))(k:κ)(v:V):(lC a8 k v).length<=a8.length+1:=by
 unfold lC;split
 .rw[aI];lia
 .rw[fk,c_,List.length_nil];lia
theorem jT.lD(r:jT o u):o.isSome=u.isSome:=by
 cases o with
 |none=>cases u with
  |none=>rfl
  |some _=>exact(show False from r).elim
 |some _=>cases u with
  |none=>exact(show False from r).elim
  |some _=>rfl
theorem KV.val{a8:List (κ×V)}{vs:List (κ×Value)}(r:KV a8 vs)(k:κ):jT (fg a8 k) (valueAt vs k):=by
 unfold KV at r;induction r with
 |nil=>exact True.intro
 |@cons p q ps qs h t ih=>
  obtain⟨h1,h2⟩:=h;by_cases e:p.1=k
  .have e':q.1=k:=h1.symm.trans e;have b:valueAt (q::qs) k=some q.2:=by simp[valueAt,kU,e']
   rw[cT e,b];exact h2
  .have e':¬ q.1=k:=fun z=>e (h1.trans z);have b:valueAt (q::qs) k=valueAt qs k:=by simp[valueAt,kU,e']
   rw[cU e,b];exact ih
theorem KV.any{a8:List (κ×V)}{vs:List (κ×Value)}(r:KV a8 vs)(k:κ):(a8.any fun kv=>decide (kv.1=k))=vs.any fun kv=>decide (kv.1=k):=by
 unfold KV at r;induction r with
 |nil=>rfl
 |cons h t ih=>rw[ie,ie,ih,h.1]
theorem KV.F8{a8:List (κ×V)}{vs:List (κ×Value)}(r:KV a8 vs)(k:κ){y:V}{u:Value}(ry:bf y u):
  KV (a8.map fun kv=>if kv.1=k then (kv.1,y) else kv) (vs.map fun kv=>if kv.1=k then (kv.1,u) else kv):=by
 unfold KV at r |-;induction r with
 |nil=>exact .nil
 |@cons p q ps qs h t ih=>
  rw[eR,eR];refine .cons ?_ ih;obtain⟨h1,h2⟩:=h;by_cases e:p.1=k
  .rw[ak e,ak (h1.symm.trans e)];exact⟨h1,ry⟩
  .rw[ai e,ai (fun z=>e (h1.trans z))];exact⟨h1,h2⟩
theorem KV.put{a8:List (κ×V)}{vs:List (κ×Value)}(r:KV a8 vs)(k:κ){y:V}{u:Value}(ry:bf y u):KV (lC a8 k y) (stored vs k u):=by
 unfold lC stored;rw[r.any k];by_cases e:(vs.any fun kv=>decide (kv.1=k))=true
 .rw[ak e,ak e];exact r.F8 k ry
 .rw[ai e,ai e];exact Paired.snoc r ⟨rfl,ry⟩
theorem KV.length{a8:List (κ×V)}{vs:List (κ×Value)}(r:KV a8 vs):a8.length=vs.length:=Paired.length r
end
theorem Ag(r:bf (kV k) u):(cH P w).is k u=true:=by
 cases k with
 |inl i=>obtain⟨t,e⟩:=(show ∃t,u=Value.int i t from r);subst e;exact sf P w i t
 |inr x=>obtain⟨t,e⟩:=(show ∃t,u=Value.str x t from r);subst e;exact sg P w x t
theorem pW:∀ {ks:List gh} {us:List Value},aZ (ks.map kV) us->ItemsAre (cH P w) ks us
 |[],_,r=>by rw[List.map_nil] at r;cases r;exact .nil
 |k::ks,_,r=>by
  rw[eR] at r;cases r with
  |cons h t=>exact .cons (Ag h) (pW t)
abbrev KT(H:Hp):List (List gh×V)->List (List gh×Addr×Value)->Prop:=Paired fun p q=>p.1=q.1/\H q.2.1=some (.tup (p.1.map kV))/\bf p.2 q.2.2
theorem KT.val{H:Hp}{a8:List (List gh×V)}{xs:List (List gh×Addr×Value)}(r:KT H a8 xs)(k:List gh):jT (fg a8 k) ((atKey xs k).map (·.2)):=by
 induction r with
 |nil=>exact True.intro
 |@cons p q ps qs h t ih=>
  obtain⟨h1,_,h2⟩:=h;by_cases e:p.1=k
  .have e':q.1=k:=h1.symm.trans e;have b:atKey (q::qs) k=some q.2:=by simp[atKey,kU,e']
   rw[cT e,b];exact h2
  .have e':¬ q.1=k:=fun z=>e (h1.trans z);have b:atKey (q::qs) k=atKey qs k:=by simp[atKey,kU,e']
   rw[cU e,b];exact ih
theorem KT.F8(r:KT H a8 xs)(k:List gh)(ry:bf y u):
  KT H (a8.map fun kv=>if kv.1=k then (kv.1,y) else kv) (xs.map (putAt k u)):=by
 induction r with
 |nil=>exact .nil
 |@cons p q ps qs h t ih=>
  rw[eR,eR];refine .cons ?_ ih;obtain⟨h1,h2,h3⟩:=h;unfold putAt;by_cases e:p.1=k
  .rw[ak e,ak (h1.symm.trans e)];exact⟨h1,h2,ry⟩
  .rw[ai e,ai (fun z=>e (h1.trans z))];exact⟨h1,h2,h3⟩
theorem KT.put(r:KT H a8 xs)(k:List gh)(hb:H b=some (.tup (k.map kV)))(ry:bf y u):
  KT H (lC a8 k y) (storedH xs k b u):=by
 have e:(a8.any fun kv=>decide (kv.1=k))=(atKey xs k).isSome:=by
  rw[kd,(r.val k).lD,Option.isSome_map]
 unfold lC storedH;rw[e];by_cases q:(atKey xs k).isSome=true
 .rw[ak q,ak q];exact r.F8 k ry
 .rw[ai q,ai q];exact Paired.snoc r ⟨rfl,hb,ry⟩
theorem KT.keeps(r:KT H a8 xs)(ht:∀b ys,H b=some (.tup ys)->H' b=some (.tup ys)):KT H' a8 xs:=
 Paired.Fq r fun _ _ z=>⟨z.1,ht _ _ z.2.1,z.2.2⟩
section
variable {P:Program} {w:World} {H:Hp} {h:Heap} {a:Addr}
theorem EN(ok:ge P w H h)(e:Rd H a u):bG P w H h a u:=e.ok ok
theorem EO(ok:ge P w H h)(e:Rd H a (.dK a8)):a8.length<=sizeLine/\(a==sysModules)=false/\∃vs,KV a8 vs/\h.DictOf (cH P w) a vs:=
 show bG P w H h a (.dK a8) from EN ok e
theorem Kc{a8:List (gh×V)}(ok:ge P w H h)(e:H a=some (.dK a8)):a8.length<=sizeLine/\(a==sysModules)=false/\∃vs,KV a8 vs/\h.DictOf (cH P w) a vs:=EO ok (.inl e)
theorem lE(ok:ge P w H h)(e:H a=some (.tup (ks.map kV))):(tupleKind (cH P w)).is h ks a:=by
 obtain⟨_,its,r,o,h1,h2,n,h3,_⟩:=(show bG P w H h a (.tup (ks.map kV)) from ok a _ e)
 exact⟨o,its.toArray,n,h1,h2,h3,by simpa using pW r⟩
theorem EQ(ok:ge P w H h)(e:Rd H a (.dT a8)):a8.length<=sizeLine/\(a==sysModules)=false/\
  ∃xs,KT H a8 xs/\h.DictOfH (tupleKind (cH P w)) a xs:=by
 obtain⟨z,y,xs,r,o,es,ep,h1,h2,h3,h4,h5⟩:=(show bG P w H h a (.dT a8) from EN ok e)
 refine⟨z,y,xs,r,o,es,ep,h1,h2,h3,h4,fun x hx=>?_,h5⟩;have all:∀ {l:List (List gh×V)} {m:List (List gh×Addr×Value)},KT H l m->∀x∈m,(tupleKind (cH P w)).is h x.1 x.2.1:=by
  intro l m q;induction q with
  |nil=>intro x hx;exact nomatch hx
  |@cons p q ps qs hq t ih=>
   intro x hx;rcases aS.mp hx with e|hx
   .subst e;exact lE ok (by rw[<-hq.1];exact hq.2.1)
   .exact ih x hx
 exact all r x hx
theorem Kd{a8:List (List gh×V)}(ok:ge P w H h)(e:H a=some (.dT a8)):a8.length<=sizeLine/\(a==sysModules)=false/\
  ∃xs,KT H a8 xs/\h.DictOfH (tupleKind (cH P w)) a xs:=EQ ok (.inl e)
end
def Ah(H:Hp)(a:Addr)(y:V)(r:Option V):Prop:=
 (∃a8 k,Rd H a (.dK a8)/\y=kV k/\r=fg a8 k)\/∃a8 k b,Rd H a (.dT a8)/\y=.ref b/\H b=some (.tup (k.map kV))/\r=fg a8 k
def Ai(H:Hp)(a:Addr)(y v:V)(H':Hp):Prop:=
 (∃a8 k,H a=some (.dK a8)/\y=kV k/\a8.length<sizeLine/\H'=upd H a (.dK (lC a8 k v)))\/
 ∃a8 k b,H a=some (.dT a8)/\y=.ref b/\H b=some (.tup (k.map kV))/\a8.length<sizeLine/\H'=upd H a (.dT (lC a8 k v))
theorem Ah.t(e:H a=some (.dT a8))(eb:H b=some (.tup (k.map kV))):Ah H a (.ref b) (fg a8 k):=.inr ⟨a8,k,b,.inl e,rfl,eb,rfl⟩
theorem Ai.t{H:Hp}{a b:Addr}{a8:List (List gh×V)}{k:List gh}{v:V}(e:H a=some (.dT a8))(eb:H b=some (.tup (k.map kV)))(hl:a8.length<sizeLine):
  Ai H a (.ref b) v (upd H a (.dT (lC a8 k v))):=.inr ⟨a8,k,b,e,rfl,eb,hl,rfl⟩
section
variable {X:Cx} {ae:List (Addr×Obj)} {σ:St} {H:Hp} {s:Shared} {a:Addr} {y v:V} {u r:Value} {o:Option V} {A:Around} {E:Value->Shared->Prop}
theorem aD.big(I:aD X ae σ H s):sysModules<s.heap.objs.size:=by
 have h:mainGlobals<s.heap.objs.size:=(I.mod.glob.keeps I.bk).lt;exact Nat.lt_trans (by decide) h
theorem CQ{Q:Value->Shared->Prop}(hu:A.units+1<cLine)(I:aD X ae σ H s)(g:Ah H a y o)(ry:bf y u)(h:∀s',aD X ae σ H s'->Q (.bool (!o.isSome)) s'):
  wpAny (model X.prog X.w) A (compareOp .NotIn u (.ref a)) Q E s:=by
 rcases g with ⟨a8,k,e,ey,l⟩|⟨a8,k,b,e,ey,eb,l⟩
 .subst ey;obtain⟨z,hd,vs,Aj,dd⟩:=EO I.bp e;refine wpAny_notIn_of (Ag ry) hd dd.mapOf ?_;rw[<-(Aj.val k).lD,<-l];exact h _ (I.tok _)
 .subst ey;cases (show u=Value.ref b from ry);obtain⟨z,hd,xs,Aj,dd⟩:=EQ I.bp e;refine wpAny_notIn_heap (tupleKind_room_in1 hu) (lE I.bp eb) hd dd ?_;have q:=(Aj.val k).lD;rw[Option.isSome_map] at q;rw[<-q,<-l];exact h _ (I.tok _)
theorem wM{h':Heap}{t':Nat}{ob:HO}(I:aD X ae σ H s)(mu:I0 (H a))(hs:Heap.SameBut a s.heap h')(he:∃q,h'.get? a=some q)(new:bG X.prog X.w (upd H a ob) h' a ob):
  aD X ae σ (upd H a ob) { s with heap:=h',toks:=t' }:=
 I.write (x:=a) (e:=a) mu (.inl rfl) (fun b q hb z=>(hs.2 b hb).trans z) he new
theorem F9{P:Program}{w:World}{H':Hp}{h':Heap}{a8:List (gh×V)}{vs:List (gh×Value)}(z:a8.length<=sizeLine)(hd:(a==sysModules)=false)(Aj:KV a8 vs)(dd:h'.DictOf (cH P w) a vs):
  bG P w H' h' a (.dK a8):=⟨z,hd,vs,Aj,dd⟩
theorem ye{H':Hp}{Q:Unit->Shared->Prop}(hu:A.units+1<cLine)(I:aD X ae σ H s)(g:Ai H a y v H')(ry:bf y u)(rv:bf v r)(h:∀s',aD X ae σ H' s'->Q () s'):
  wpAny (model X.prog X.w) A (setItem (.ref a) u r) Q E s:=by
 rcases g with ⟨a8,k,e,ey,l,eH⟩|⟨a8,k,b,e,ey,eb,l,eH⟩
 .subst ey eH;obtain⟨z,hd,vs,Aj,dd⟩:=Kc I.bp e;have hz:vs.length<=sizeLine:=by rw[<-Aj.length];exact z
  have hl:(lC a8 k v).length<=sizeLine:=by have:=iE a8 k v;lia
  refine wpAny_setItem_pairs (hsz:=hz) (Ag ry) dd fun h' MU hs=>h _ ?_;have he:∃q,h'.get? a=some q:=let ⟨q,_,_,hq,_⟩:=MU;⟨q,hq⟩;exact wM I (by rw[e];exact True.intro) hs he (F9 hl hd (Aj.put k rv) MU)
 .subst ey eH;cases (show u=Value.ref b from ry);obtain⟨z,hd,xs,Aj,dd⟩:=Kd I.bp e;have hz:xs.length<=sizeLine:=by rw[<-Paired.length Aj];exact z
  have hl:(lC a8 k v).length<=sizeLine:=by have:=iE a8 k v;lia
  refine wpAny_setItem_heap (hsz:=hz) (tupleKind_room_in1 hu) (lE I.bp eb) dd fun h' MU hs=>h _ ?_;obtain⟨q,es,ep,hq,h2,h3,h4,_,h5⟩:=MU;refine wM I (by rw[e];exact True.intro) hs ⟨q,hq⟩ ⟨hl,hd,_,(Aj.put k eb rv).keeps fun c ys ec=>?_,q,es,ep,hq,h2,h3,h4,h5⟩;rw[am (dF ec e (fun z=>nomatch z))];exact ec
end
section
variable {X:Cx} {ae:List (Addr×Obj)} {σ:St} {H:Hp} {s:Shared} {a:Addr} {a8:List (gh×V)} {k:gh} {u:Value} {A:Around} {E:Value->Shared->Prop}
end
def CU(ty td:TE):TE:=fun σ H Q=>ty σ H fun y H1=>td σ H1 fun x H2=>∃a o,x=.ref a/\Ah H2 a y o/\Q (.bl (!o.isSome)) H2
def Ke(td ty tv:TE):TS:=fun D σ H=>tv σ H fun v H1=>td σ H1 fun x H2=>ty σ H2 fun y H3=>∃a H4,x=.ref a/\Ai H3 a y v H4/\D.nx σ H4
section
variable {X:Cx} {o i e value:Expr} {pos so qU:Pos} {td ty tv:TE}
theorem yf(hu:X.A.units+1<cLine)(hi:PE X i ty)(ho:PE X o td):PC X .NotIn i o (CU ty td):=by
 intro ae s σ H Q I h;refine bS (hi ae s σ H _ I h) fun iv s1 ⟨y,H1,I1,ry,q1⟩=>bS (ho ae s1 σ H1 _ I1 q1) fun u s2 ⟨x,H2,I2,rx,a,ov,ex,g,q2⟩=>?_;subst ex;obtain rfl:u=Value.ref a:=rx;exact CQ hu I2 g ry fun s3 I3=>⟨.bl (!ov.isSome),H2,I3,rfl,q2⟩
theorem CV(hu:X.A.units+1<cLine)(ho:PE X o td)(hi:PE X i ty)(hv:PE X value tv)(hs:swapsWith value (some (.Subscript o i so)) pos.line X.env=pure false):
  PS X (.Assign [.Subscript o i so] value pos) (Ke td ty tv):=by
 intro ae s σ H D I h;refine wpAny_Assign_Subscript (bS (hv ae s σ H _ I h) fun r s1 ⟨v,H1,I1,rv,q1⟩=>bS (ho ae s1 σ H1 _ I1 q1) fun u s2 ⟨x,H2,I2,rx,q2⟩=>bS (hi ae s2 σ H2 _ I2 q2) fun iv s3 ⟨y,H3,I3,ry,a,H4,ex,g,q3⟩=>?_) hs;subst ex;obtain rfl:u=Value.ref a:=rx;exact ye hu I3 g ry rv fun s4 I4=>⟨σ,H4,I4,q3⟩
end
theorem Ak{P:Program}{w:World}{H:Hp}(h:Heap)(hb:sysModules<h.objs.size):bG P w H (h.push { cls:=.type "dict",data:=.dict #[] }) h.objs.size (.dT []):=
 ⟨cE _,nA.mpr (eU (aU hb)),[],.nil,_,#[],0,cm _ rfl,⟨rfl,rfl,rfl⟩,rfl,rfl,qH⟩
def F_:TE:=fun _ H Q=>∀p,H p=none->Q (.ref p) (upd H p (.dT []))
section
variable {X:Cx} {pos:Pos}
theorem Al:PE X (.Dict [] [] pos) F_:=fun ae s σ H Q I h=>
 wpAny_Dict_empty ⟨.ref s.heap.objs.size,_,I.laid (a:=s.heap.objs.size) (o:=.dT []) (t':=s.toks) (fun _ _ q=>bN _ q) (aF _) (Ak s.heap I.big),rfl,h _ (I.bp.fresh (aF _))⟩
end
section
variable {X:Cx} {ae:List (Addr×Obj)} {σ:St} {H:Hp} {s:Shared} {a:Addr} {y d:V} {u r:Value} {o:Option V} {A:Around} {E:Value->Shared->Prop}
end
section
variable {X:Cx} {o e f:Expr} {mr fV:Pos} {td ty tx:TE}
end
section
variable {X:Cx} {ae:List (Addr×Obj)} {σ:St} {H:Hp} {s:Shared} {a:Addr} {a8:List (gh×V)} {A:Around} {E:Value->Shared->Prop}
end
section
variable {X:Cx} {ae:List (Addr×Obj)} {σ:St} {H:Hp} {s:Shared} {a:Addr} {y:V} {u:Value} {A:Around} {E:Value->Shared->Prop}
end
section
variable {X:Cx}
end
section
variable {κ:Type} [DecidableEq κ]
end
section
variable {X:Cx}
theorem oA:∀ {xs:List V} {its:List Value},aZ xs its->xs.all dJ=true->its.countP (xK x)=xs.countP (fun z=>kJ z x)
 |[],_,.nil,_=>rfl
 |y::xs,_,.cons (b:=u) r rr,f=>by
  have fy:dJ y=true:=by rw[ig,fQ] at f;exact f.1
  have fx:xs.all dJ=true:=by rw[ig,fQ] at f;exact f.2
  have h1:[u].any (xK x)=[y].any (fun z=>kJ z x):=mT (.cons r .nil) (by simp[fy]);have h2:xK x u=kJ y x:=by simpa using h1
  rw[nU,nU,oA rr fx,h2]
end
def OB(K:PySem.W.Frag)(a:Addr):It:=
 ⟨fun i H=>∃xs x,a_ K H a xs/\xs[i]?=some x,fun i H x H'=>∃p v,x=.ref p/\H p=none/\H'=upd H p (.tup [.int i,v])/\∀xs,a_ K H a xs->xs[i]?=some v,fun i H=>∃xs,a_ K H a xs/\xs.length<=i⟩
theorem aD.wO(I:aD X ae σ H s)(fe:ff X ae H e)(fi:ff X ae H it)(k:∀b o,b≠e->b≠it->s.heap.get? b=some o->h'.get? b=some o)(ke:∃o,h'.get? e=some o)(ki:∃o,h'.get? it=some o)(hp:s.heap.objs.size<=p)(hl:xs.length<=sizeLine)(r:aZ xs its)(ht:h'.get? p=some { cls:=.type "tuple",data:=.seq its.toArray }):aD X ae σ (upd H p (.tup xs)) { s with heap:=h',toks:=t' }:=by
 have hn:=I.bp.fresh hp;obtain⟨e0,e1,e2,e3,e4,e5⟩:=fe;obtain⟨i0,i1,i2,i3,i4,i5⟩:=fi;have ne:∀b o,s.heap.get? b=some o->b≠p:=fun b o q=>aU (bX (aH q) hp);have wP:∀b o,H b=some o->b≠e/\b≠it:=fun b o q=>⟨(fun z=>by rw[z,e0] at q;cases q),(fun z=>by rw[z,i0] at q;cases q)⟩
 refine I.step (g':=s.gens) (d':=s.drawn) (ch:=[e,it]) (fun b hb=>?_) (fun b o _ _ hb q _=>?_) (fun b o _ _ hb q _=>⟨o.slots,?_⟩) (fun b o hb q n=>by rw[am (ne b o q)];exact n) (fun b o hb q=>⟨o,?_⟩)
  (fun b ys q=>by rw[am (ao q hn)];exact q) (fun b o u q=>by rw[am (ao q hn)];exact q) (fun b ps q=>⟨#[],by rw[am (ao q hn),q];simp⟩) (fun m hm=>?_) (fun b o q=>?_) I.bare
 .rcases aS.mp hb with rfl|hb
  .exact⟨e3,e1,e4,e5⟩
  .rw[cN.mp hb];exact⟨i3,i1,i4,i5⟩
 .exact k b o (fun z=>hb (z ▸ b_)) (fun z=>hb (z ▸ bV _ b_)) q
 .exact k b o (fun z=>hb (z ▸ b_)) (fun z=>hb (z ▸ bV _ b_)) q
 .exact k b o (fun z=>hb (z ▸ b_)) (fun z=>hb (z ▸ bV _ b_)) q
 .obtain⟨o,es,ep,q,d,r'⟩:=hm;exact⟨o,es,ep,k _ _ e1.symm i1.symm q,d,r'⟩
 .by_cases hb:b=p
  .subst hb;rw[af] at q;cases q;exact⟨hl,its,r,_,ht,rfl,_,rfl,rfl⟩
  .rw[am hb] at q;refine(I.bp b o q).jU (fun c u hc z=>k c u ?_ ?_ z) (fun c z=>by rw[am (ao z hn)];exact z) fun c ys z=>by rw[am (ao z hn)];exact z
   .rcases hc with rfl|hc
    .exact(wP _ _ q).1
    .exact(wP _ _ hc).1
   .rcases hc with rfl|hc
    .exact(wP _ _ q).2
    .exact(wP _ _ hc).2
theorem yg{P:Program}{w:World}{K:PySem.W.Frag}{es:List Expr}{x1:Nat}{pos:Pos}(a e it:Addr)(jB:e≠it):
  o6 P w K (.Tuple es x1 pos) (OB K a) [e,it] e (fun i h=>(∃fK,IsEnum h e it (i:Int) fK)/\h.IsListIter it a i) where
 mem:=by simp
 obj:=fun i h st b hb=>by
  obtain⟨⟨fK,he⟩,⟨o,q,c,d⟩⟩:=st;rcases aS.mp hb with rfl|hb
  .exact⟨_,he,fun v z=>by
    have z':Data.fields _=Data.cell v:=z;cases z'⟩
  .rw[cN.mp hb];exact⟨o,q,fun v z=>by rw[d] at z;cases z⟩
 keep:=fun i h h' st k=>by
  obtain⟨⟨fK,he⟩,hi⟩:=st;exact⟨⟨fK,k e (by simp) _ he⟩,hi.at fun o q=>k it (by simp) o q⟩
 item:=by
  intro X hP hw hK hc i ae s σ H E I hf st hg;subst hP hw hK;obtain⟨xs,x,hq,hx⟩:=hg;obtain⟨its,rv,p,hz⟩:=I.list hq;obtain⟨u,hu,ru⟩:=rv.get hx;obtain⟨⟨fK,he⟩,hi⟩:=st;refine wpAny_pyNext_enum_item he hi p.isList (x:=u) (by simpa using hu) jB fun h' ho BZ ht hsz k=>?_;refine⟨_,rfl,wpAny_letOwnedTupleGo_enum ho fun h2 Ga l3=>?_⟩;have Kg:s.heap.objs.size≠e:=hZ (aH he);have vq:h2.IsListIter it a (i+1):=BZ.extBut l3.extBut jB.symm;have fe:=hf e (by simp);have fi:=hf it (by simp);have I2:aD X ae σ (upd H s.heap.objs.size (.tup [.int i,x])) { s with heap:=h2,toks:=s.toks+1 }:=by
   refine I.wO (its:=[.int i s.toks,u]) fe fi (fun b o h1 h3 q=>(l3.2 b h1).trans (k b o h1 h3 q)) ⟨_,Ga⟩ ?_ (aF _) (by show 2<=sizeLine;decide) (.cons ⟨_,rfl⟩ (.cons ru .nil)) ((l3.2 _ Kg).trans ht);obtain⟨o,q,_⟩:=vq;exact⟨o,q⟩
  refine⟨.ref s.heap.objs.size,_,I2,rfl,⟨_,x,rfl,I.bp.fresh (aF _),rfl,fun ys hy=>by rw[I.jX hy hq];exact hx⟩,⟨⟨u,Ga⟩,vq⟩,fun b hb=>?_⟩;have f0:=(hf b hb).1;rw[am]
  .exact f0
  .rcases aS.mp hb with rfl|hb
   .exact Kg.symm
   .rw[cN.mp hb];obtain⟨o,q,_⟩:=hi;exact aU (aH q)
 done:=by
  intro X hP hw hK hc i ae s σ H E I hf st hg;subst hP hw hK;obtain⟨xs,hq,hx⟩:=hg;obtain⟨its,rv,p,hz⟩:=I.list hq;obtain⟨f0,f1,f2,f3,f4,f5⟩:=hf it (by simp);obtain⟨⟨fK,he⟩,hi⟩:=st;have hl:=rv.length;exact wpAny_pyNext_enum_end (I.ok.hd hc) he hi p.isList (by simp;lia) fun h' eb=>⟨rfl,I.turned (t':=s.toks) (fun b o hb e=>eb b o hb e) f0 f1 f3 f4 f5⟩
 self:=fun _ _ _ _ _ st h=>by
  obtain⟨⟨fK,he⟩,_⟩:=st;exact qB he h
section
variable {X:Cx}
def Kh(K:PySem.W.Frag)(ta:TA):TI:=fun σ H R=>ta σ H fun vs H1=>∃a xs,vs=[.ref a]/\H1 a=some (.lst xs)/\R (OB K a) H1
theorem CW(hg:Gl X "enumerate")(hm:X.mg "enumerate"=none)(ha:PA X [a] ta)(hs:starEach [a] X.env=[(false,eval a X.env)]:=by rfl):
  PI X (.Tuple es x1 qU) (.Call (.Name "enumerate" p) [a] [] pos) (Kh X.K ta):=by
 intro ae s σ H R I h;refine Call_ (gl I hg hm (by decide +kernel:bootBuiltins "enumerate"=some (.type "enumerate")) (pz (bS (ha pos ae s σ H _ I h) fun us s1 ⟨vs,H1,I1,r1,q1⟩=>?_) hs rfl));obtain⟨l,xs,rfl,hl,q⟩:=q1;obtain⟨u1,rfl,Gb⟩:=r1.one;obtain rfl:u1=Value.ref l:=Gb;obtain⟨z,its,n,r,_,e⟩:=I1.Cw hl;refine call_enumerate_1 e fun h' he hi hsz k=>?_;have jB:s1.heap.objs.size+1≠s1.heap.objs.size:=Nat.succ_ne_self _;refine qB he ?_;have I2:aD X ae σ H1 { s1 with heap:=h' }:=I1.kept (t':=s1.toks) k;refine⟨s1.heap.objs.size+1,[s1.heap.objs.size+1,s1.heap.objs.size],_,_,H1,rfl,I2,yg l _ _ jB,⟨⟨_,he⟩,hi⟩,fun b hb=>?_,q⟩;have iZ:s1.heap.objs.size<=b:=by
  rcases aS.mp hb with rfl|hb
  .exact Nat.le_succ _
  .rw[cN.mp hb];exact aF _
 exact I1.sq iZ (I1.bp.fresh iZ)
theorem yh{K:PySem.W.Frag}{a D:Addr}{xs:List V}{g:TG}{tt:TT}{te:TE}{dB:Hp->Prop}{σB:St}{H0:Hp}(Pv:Nat->List V->St->Hp->Prop)(h0:Pv 0 [] σB H0)(hl:∀i ys σ H,i<=xs.length->Pv i ys σ H->a_ K H a xs)(hs:∀i x p ys σ H (Kt:V->St->Hp->Prop) (Kf:St->Hp->Prop),xs[i]?=some x->Pv i ys σ H->H p=none->
   (∀v σ2 H4,H4 D=some (.lst ys)->ys.length<sizeLine->Pv (i+1) (ys++[v]) σ2 (upd H4 D (.lst (ys++[v])))->Kt v σ2 H4)->(∀σ2 H3,Pv (i+1) ys σ2 H3->Kf σ2 H3)->
   g (.ref p) σ (upd H p (.tup [.int i,x])) fun σ2 H2=>tt σ2 H2 fun b H3=>if b=true then te σ2 H3 fun v H4=>Kt v σ2 H4 else Kf σ2 H3)(hd:∀ys σ H,Pv xs.length ys σ H->dB H):fY (OB K a) g tt te D dB σB H0:=by
 refine⟨fun i m σ H=>m=xs.length-i/\i<=xs.length/\∃ys,Pv i ys σ H,⟨xs.length,by simp,cE _,[],h0⟩,?_⟩;rintro i m σ H ⟨rfl,hi,ys,p⟩;have q:=hl i ys σ H hi p;by_cases de:i<xs.length
 .refine .inr ⟨⟨xs,xs[i],q,by simp[de]⟩,?_⟩;rintro x H' ⟨pp,v,rfl,hn,rfl,hv⟩;exact hs i v pp ys σ _ (fun v σ2 H4=>∃ys,H4 D=some (.lst ys)/\ys.length<sizeLine/\∃m',m'<xs.length-i/\m'=xs.length-(i+1)/\i+1<=xs.length/\∃pc,Pv (i+1) pc σ2 (upd H4 D (.lst (ys++[v]))))
   (fun σ2 H3=>∃m',m'<xs.length-i/\m'=xs.length-(i+1)/\i+1<=xs.length/\∃pc,Pv (i+1) pc σ2 H3) (hv xs q) p hn
   (fun v σ2 H4 z1 z2 z3=>⟨ys,z1,z2,_,by lia,rfl,de,_,z3⟩) (fun σ2 H3 z=>⟨_,by lia,rfl,de,_,z⟩)
 .have e:i=xs.length:=by lia
  subst e;exact .inl ⟨⟨xs,q,aF _⟩,hd ys σ H p⟩
end
section
variable {prog:Program} {w:World} {A:Around} {E:Value->Shared->Prop} {s:Shared}
theorem jE(yZ:s.heap.IsTupleIter it t i)(ht:s.heap.IsTuple t xs)(hx:xs[i]?=some x)(q:∀h',h'.IsTupleIter it t (i+1)->Heap.SameBut it s.heap h'->Q x { s with heap:=h' }):wpAny (model prog w) A (Builtin.SmallTypes.nextOf (.ref it)) Q E s:=by
 obtain⟨o,h1,h2,h3⟩:=id yZ;obtain⟨p,k1,_,n,k3⟩:=ht;unfold Builtin.SmallTypes.nextOf;refine aw (nF (name:=Str.ofString "__next__") yZ.typeIs F.slot_tuple_iterator_next (kW F.slot_tuple_iterator_next yZ.typeIs F.entry_tuple_iterator_next ?_ (F.args_tuple_iterator_next_1 _)));change wpAny _ _ (field (.ref it) 0 >>= _) _ _ s;refine aw (fT h1 h3 (x:=.ref t) rfl ?_);change wpAny _ _ (if (Value.ref t==Value.none)=true then _ else _) _ _ s;rw[ai (by exact bT)];change wpAny _ _ (field (.ref it) 1 >>= _) _ _ s;refine aw (fT h1 h3 (x:=.int i 0) rfl ?_);change wpAny _ _ (seqItems? (.ref t) >>= _) _ _ s;refine aw (ic k1 k3 ?_);simp only[nK,hx];refine aw (wpAny_setField h1 h3 (by simp) (wpAny_pure ⟨x,rfl,wpAny_pure (q _ ?_ (Heap.SameBut.update ..))⟩));refine⟨_,uJ _ h1 (Obj.isFreed_of_fields (Obj.data_mapFields h3 _)),(Obj.cls_mapFields ..).trans h2,?_⟩;rw[Obj.data_mapFields h3];simp[rawInt]
theorem lF(hh:A.handled=none)(yZ:s.heap.IsTupleIter it t i)(ht:s.heap.IsTuple t xs)(hx:xs[i]?=none)(q:∀h' e,Heap.ExtBut it s.heap h'->(∃o,h'.get? e=some o/\o.cls=.type "StopIteration")->E (.ref e) { s with heap:=h' }):wpAny (model prog w) A (Builtin.SmallTypes.nextOf (.ref it)) Q E s:=by
 obtain⟨o,h1,h2,h3⟩:=id yZ;obtain⟨p,k1,_,n,k3⟩:=ht;unfold Builtin.SmallTypes.nextOf;refine aw (nF (name:=Str.ofString "__next__") yZ.typeIs F.slot_tuple_iterator_next (kW F.slot_tuple_iterator_next yZ.typeIs F.entry_tuple_iterator_next ?_ (F.args_tuple_iterator_next_1 _)));change wpAny _ _ (field (.ref it) 0 >>= _) _ _ s;refine aw (fT h1 h3 (x:=.ref t) rfl ?_);change wpAny _ _ (if (Value.ref t==Value.none)=true then _ else _) _ _ s;rw[ai (by exact bT)];change wpAny _ _ (field (.ref it) 1 >>= _) _ _ s;refine aw (fT h1 h3 (x:=.int i 0) rfl ?_);change wpAny _ _ (seqItems? (.ref t) >>= _) _ _ s;refine aw (ic k1 k3 ?_);simp only[nK,hx];refine aw (fE (aw (wpAny_setField h1 h3 (by simp) ?stop)));case stop=>
  change wpAny _ _ (newExc (.type "StopIteration") [] >>= _) _ _ _;refine aw ?_;simp only[newExc,newTuple];refine aw (qC (aw (m:=firstArgMember _ _) (wpAny_of_eq (a:=Value.none) (by simp only[firstArgMember];rfl) (qC ?_ (by size_fits)))) (by size_fits));simp only[raiseNew];refine aw (wpAny_handled ?_);rw[show A.in1.handled=none from hh];exact aw (wpAny_pure (wpAny_throw (q _ _ (fun b u hb z=>bN _ (bN _ ((uF _ _ (eU hb)).trans z))) ⟨_,cm _ rfl,rfl⟩)))
theorem sX(hh:A.handled=none)(it t:Addr)(jB:t≠it)(xs:Array Value):Draws prog w A it [it,t] xs.size (fun i v=>xs[i]?=some v) (fun i h=>h.IsTupleIter it t i/\h.IsTuple t xs) where
 live:=fun _ _ st=>let ⟨o,ho,_⟩:=st.1;⟨o,ho⟩
 frame:=fun _ _ _ st hk=>⟨st.1.at fun o e=>hk it (by simp) o e,let ⟨o,e,r⟩:=st.2;⟨o,hk t (by simp) o e,r⟩⟩
 item:=fun i s Q E hi st q=>by
  refine jE st.1 st.2 (x:=xs[i]) (by simp[hi]) fun h' a b=>?_;obtain⟨o,e,r⟩:=st.2;exact q _ h' s.toks (by simp[hi]) ⟨a,o,(b.2 t jB).trans e,r⟩ b
 done:=fun s Q E st q=>lF hh st.1 st.2 (by simp) q
end
theorem yi(t:Addr)(xs:Array Value):
  Meets (Builtin.«enumerate.__new__» ⟨[.type "enumerate",.ref t],[]⟩) (fun _ R s=>s.heap.IsTuple t xs/\
   R (.ok (.ret (.ref (s.heap.push { cls:=.type "tuple_iterator",data:=.fields #[.ref t,.int 0 0] }).objs.size)))
    { s with heap:=(s.heap.push { cls:=.type "tuple_iterator",data:=.fields #[.ref t,.int 0 0] }).push { cls:=.type "enumerate",data:=.fields #[.none,.bool false,.ref s.heap.objs.size,rawInt 0,.none,.none] } }):=
 .of_wp fun prog w A R s h=>by
  obtain⟨hp,g,d,tk,os⟩:=s;obtain⟨hT,h⟩:=h;have hs:=sub_enumerate
  wp_walk
  refine wpAny_stack_any fun st=>wpAny_pure ?_;split
  .rename_i c _ _ _ _ _;cases (c==Value.type "enumerate") <;> (wp_walk using nQ hT;exact⟨_,rfl,h⟩)
  .wp_walk using nQ hT
   exact⟨_,rfl,h⟩
theorem vA(ht:s.heap.IsTuple t xs)(h:∀h',IsEnum h' (s.heap.objs.size+1) s.heap.objs.size 0 .none->h'.IsTupleIter s.heap.objs.size t 0->(∀b o,s.heap.get? b=some o->h'.get? b=some o)->Q (.ref (s.heap.objs.size+1)) { s with heap:=h' }):
  wpAny (model prog w) A (call (.type "enumerate") [.ref t]) Q E s:=by
 refine callType_new F.called_enumerate (by decide) (F.typeCall_enumerate_1 _) (F.newCall_enumerate_1 _) (fun obj=>F.args_object_init_2 obj _) F.entry_enumerate_new (yi t xs) ⟨ht,?_⟩;have hz:(s.heap.push { cls:=.type "tuple_iterator",data:=.fields #[.ref t,.int 0 0] }).objs.size=s.heap.objs.size+1:=gU ..;have he:IsEnum ((s.heap.push { cls:=.type "tuple_iterator",data:=.fields #[.ref t,.int 0 0] }).push
   { cls:=.type "enumerate",data:=.fields #[.none,.bool false,.ref s.heap.objs.size,rawInt 0,.none,.none] }) (s.heap.objs.size+1) s.heap.objs.size 0 .none:=by
  have q:=cm (s.heap.push { cls:=.type "tuple_iterator",data:=.fields #[.ref t,.int 0 0] }) (o:={ cls:=.type "enumerate",data:=.fields #[.none,.bool false,.ref s.heap.objs.size,rawInt 0,.none,.none] }) rfl;rw[hz] at q;exact q
 show _/\_;rw[hz];exact⟨⟨_,he,rfl⟩,h _ he ⟨_,bN _ (cm _ rfl),rfl,rfl⟩ fun b o x=>bN _ (bN _ x)⟩
def Gc(K:PySem.W.Frag)(a:Addr):It:=
 ⟨fun i H=>∃xs x,be K H a xs/\xs[i]?=some x,fun i H x H'=>∃p v,x=.ref p/\H p=none/\H'=upd H p (.tup [.int i,v])/\∀xs,be K H a xs->xs[i]?=some v,fun i H=>∃xs,be K H a xs/\xs.length<=i⟩
theorem vB{P:Program}{w:World}{K:PySem.W.Frag}{es:List Expr}{x1:Nat}{pos:Pos}(a e it:Addr)(jB:e≠it)(U6:a≠e)(U7:a≠it):
  o6 P w K (.Tuple es x1 pos) (Gc K a) [e,it] e (fun i h=>(∃fK,IsEnum h e it (i:Int) fK)/\h.IsTupleIter it a i) where
 mem:=by simp
 obj:=fun i h st b hb=>by
  obtain⟨⟨fK,he⟩,⟨o,q,c,d⟩⟩:=st;rcases aS.mp hb with rfl|hb
  .exact⟨_,he,fun v z=>by
    have z':Data.fields _=Data.cell v:=z;cases z'⟩
  .rw[cN.mp hb];exact⟨o,q,fun v z=>by rw[d] at z;cases z⟩
 keep:=fun i h h' st k=>by
  obtain⟨⟨fK,he⟩,hi⟩:=st;exact⟨⟨fK,k e (by simp) _ he⟩,hi.at fun o q=>k it (by simp) o q⟩
 item:=by
  intro X hP hw hK hc i ae s σ H E I hf st hg;subst hP hw hK;obtain⟨xs,x,hq,hx⟩:=hg;obtain⟨its,rv,p,hz⟩:=I.tuple hq;obtain⟨u,hu,ru⟩:=rv.get hx;obtain⟨⟨fK,he⟩,hi⟩:=st;have de:i<its.toArray.size:=by
   have:=(di.mp hu).1;simpa using this
  have D:=sX (prog:=X.prog) (w:=X.w) (A:=X.A.in1) (I.ok.hd hc) it a U7 its.toArray;refine wpAny_pyNext_enum_itemD D he ⟨hi,p⟩ de jB (by simp[jB,U6.symm]) fun u' h' tk ww ho kH ht hsz k=>?_;have eu:u'=u:=by
   have h1:its.toArray[i]?=some u:=by simpa using hu
   rw[h1] at ww;exact(bA ww).symm
  subst eu;refine⟨_,rfl,wpAny_letOwnedTupleGo_enum ho fun h2 Ga l3=>?_⟩;have Kg:s.heap.objs.size≠e:=hZ (aH he);have vq:h2.IsTupleIter it a (i+1):=kH.1.at fun o q=>(l3.2 it jB.symm).trans q;have fe:=hf e (by simp);have fi:=hf it (by simp);have I2:aD X ae σ (upd H s.heap.objs.size (.tup [.int i,x])) { s with heap:=h2,toks:=tk+1 }:=by
   refine I.wO (its:=[.int i tk,u']) fe fi (fun b o h1 h3 q=>(l3.2 b h1).trans (k b o h1 h3 q)) ⟨_,Ga⟩ ?_ (aF _) (by show 2<=sizeLine;decide) (.cons ⟨_,rfl⟩ (.cons ru .nil)) ((l3.2 _ Kg).trans ht);obtain⟨o,q,_⟩:=vq;exact⟨o,q⟩
  refine⟨.ref s.heap.objs.size,_,I2,rfl,⟨_,x,rfl,I.bp.fresh (aF _),rfl,fun ys hy=>by rw[I.dS hy hq];exact hx⟩,⟨⟨u',Ga⟩,vq⟩,fun b hb=>?_⟩;have f0:=(hf b hb).1;rw[am]
  .exact f0
  .rcases aS.mp hb with rfl|hb
   .exact Kg.symm
   .rw[cN.mp hb];obtain⟨o,q,_⟩:=hi;exact aU (aH q)
 done:=by
  intro X hP hw hK hc i ae s σ H E I hf st hg;subst hP hw hK;obtain⟨xs,hq,hx⟩:=hg;obtain⟨its,rv,p,hz⟩:=I.tuple hq;obtain⟨f0,f1,f2,f3,f4,f5⟩:=hf it (by simp);obtain⟨⟨fK,he⟩,hi⟩:=st;have hl:=rv.length;unfold pyNext;have hT:s.TypeIs (.ref e) "enumerate":=⟨_,he,rfl⟩
  refine aw (qO (nF (name:=Str.ofString "__next__") hT F.slot_enumerate_next (kW F.slot_enumerate_next hT F.entry_enumerate_next ?_ (F.args_enumerate_next_1 _))));change wpAny _ _ (field (.ref e) 2 >>= _) _ _ _;refine aw (fT he rfl (x:=.ref it) rfl (aw (lF (I.ok.hd hc) hi p (by simp;lia) fun h' x eb qT=>?_)));obtain⟨o,ho,ED⟩:=qT;exact aw (wpAny_isInstance (T:="StopIteration") (b:=true) ⟨o,ho,ED⟩ isSubtype_stop (wpAny_pure ⟨rfl,I.turned (t':=s.toks) (fun b o hb e=>eb b o hb e) f0 f1 f3 f4 f5⟩))
 self:=fun _ _ _ _ _ st h=>by
  obtain⟨⟨fK,he⟩,_⟩:=st;exact qB he h
section
variable {X:Cx}
def Gd(K:PySem.W.Frag)(ta:TA):TI:=fun σ H R=>ta σ H fun vs H1=>∃a xs,vs=[.ref a]/\be K H1 a xs/\R (Gc K a) H1
theorem Am(hg:Gl X "enumerate")(hm:X.mg "enumerate"=none)(ha:PA X [a] ta)(hs:starEach [a] X.env=[(false,eval a X.env)]:=by rfl):
  PI X (.Tuple es x1 qU) (.Call (.Name "enumerate" p) [a] [] pos) (Gd X.K ta):=by
 intro ae s σ H R I h;refine Call_ (gl I hg hm (by decide +kernel:bootBuiltins "enumerate"=some (.type "enumerate")) (pz (bS (ha pos ae s σ H _ I h) fun us s1 ⟨vs,H1,I1,r1,q1⟩=>?_) hs rfl));obtain⟨l,xs,rfl,hl,q⟩:=q1;obtain⟨u1,rfl,Gb⟩:=r1.one;obtain rfl:u1=Value.ref l:=Gb;obtain⟨its,rv,pt,hz⟩:=I1.tuple hl;have de:l<s1.heap.objs.size:=by obtain⟨o,e,_⟩:=pt;exact aH e
 refine vA (show s1.heap.IsTuple l its.toArray from pt) fun h' he hi k=>?_;have jB:s1.heap.objs.size+1≠s1.heap.objs.size:=Nat.succ_ne_self _;refine qB he ?_;have I2:aD X ae σ H1 { s1 with heap:=h' }:=I1.kept (t':=s1.toks) k;refine⟨s1.heap.objs.size+1,[s1.heap.objs.size+1,s1.heap.objs.size],_,_,H1,rfl,I2,vB l _ _ jB (aU (dC de)) (aU de),⟨⟨_,he⟩,hi⟩,fun b hb=>?_,q⟩;have iZ:s1.heap.objs.size<=b:=by
  rcases aS.mp hb with rfl|hb
  .exact Nat.le_succ _
  .rw[cN.mp hb];exact aF _
 exact I1.sq iZ (I1.bp.fresh iZ)
theorem vC{K:PySem.W.Frag}{a D:Addr}{xs:List V}{g:TG}{tt:TT}{te:TE}{dB:Hp->Prop}{σB:St}{H0:Hp}(Pv:Nat->List V->St->Hp->Prop)(h0:Pv 0 [] σB H0)(hl:∀i ys σ H,i<=xs.length->Pv i ys σ H->be K H a xs)(hs:∀i x p ys σ H (Kt:V->St->Hp->Prop) (Kf:St->Hp->Prop),xs[i]?=some x->Pv i ys σ H->H p=none->
   (∀v σ2 H4,H4 D=some (.lst ys)->ys.length<sizeLine->Pv (i+1) (ys++[v]) σ2 (upd H4 D (.lst (ys++[v])))->Kt v σ2 H4)->(∀σ2 H3,Pv (i+1) ys σ2 H3->Kf σ2 H3)->
   g (.ref p) σ (upd H p (.tup [.int i,x])) fun σ2 H2=>tt σ2 H2 fun b H3=>if b=true then te σ2 H3 fun v H4=>Kt v σ2 H4 else Kf σ2 H3)(hd:∀ys σ H,Pv xs.length ys σ H->dB H):fY (Gc K a) g tt te D dB σB H0:=by
 refine⟨fun i m σ H=>m=xs.length-i/\i<=xs.length/\∃ys,Pv i ys σ H,⟨xs.length,by simp,cE _,[],h0⟩,?_⟩;rintro i m σ H ⟨rfl,hi,ys,p⟩;have q:=hl i ys σ H hi p;by_cases de:i<xs.length
 .refine .inr ⟨⟨xs,xs[i],q,by simp[de]⟩,?_⟩;rintro x H' ⟨pp,v,rfl,hn,rfl,hv⟩;exact hs i v pp ys σ _ (fun v σ2 H4=>∃ys,H4 D=some (.lst ys)/\ys.length<sizeLine/\∃m',m'<xs.length-i/\m'=xs.length-(i+1)/\i+1<=xs.length/\∃pc,Pv (i+1) pc σ2 (upd H4 D (.lst (ys++[v]))))
   (fun σ2 H3=>∃m',m'<xs.length-i/\m'=xs.length-(i+1)/\i+1<=xs.length/\∃pc,Pv (i+1) pc σ2 H3) (hv xs q) p hn
   (fun v σ2 H4 z1 z2 z3=>⟨ys,z1,z2,_,by lia,rfl,de,_,z3⟩) (fun σ2 H3 z=>⟨_,by lia,rfl,de,_,z⟩)
 .have e:i=xs.length:=by lia
  subst e;exact .inl ⟨⟨xs,q,aF _⟩,hd ys σ H p⟩
end
section
variable {X:Cx} {tg:Expr}
end
section
variable {prog:Program} {w:World} {A:Around} {E:Value->Shared->Prop} {s:Shared} {R:Result->Shared->Prop} {l d Ia:Addr}
end
section
variable {prog:Program} {w:World} {A:Around} {E:Value->Shared->Prop} {s:Shared} {l:Addr}
end
section
variable {X:Cx}
theorem yj(hc:X.calm=true):fu X (.builtin "all") (fun xs H Q=>∃ (p:Addr) (bs:List Bool),xs=[.ref p]/\a_ X.K H p (bs.map V.bl)/\Q (.bl (bs.all id)) H):=by
 intro ae s σ H xs us Q I r h;obtain⟨p,bs,rfl,hp,q⟩:=h;obtain⟨u1,rfl,r1⟩:=r.one;obtain rfl:u1=Value.ref p:=r1;obtain⟨its,rv,pl,hz⟩:=I.list hp;have z8:its=bs.map Value.bool:=by
  have go:∀ (bs:List Bool) (its:List Value),aZ (bs.map V.bl) its->its=bs.map Value.bool:=by
   intro bs;induction bs with
   |nil=>intro its r;cases r;rfl
   |cons b bs ih=>
    intro its r;cases r with
    |cons r rr=>
     obtain rfl:=(show _=Value.bool b from r)
     rw[ih _ rr];rfl
  exact go bs its rv
 subst z8;obtain⟨ob,Ol,_⟩:=id pl.isList;have de:p<s.heap.objs.size:=aH Ol;refine call_all_walk (qA pl.isList ⟨s.heap.objs.size,_,_,_,_,_,fun i=>bs.getD i true,rfl,Walks.list (show X.A.in1.handled=none from I.ok.hd hc) _ p (aU de) _,⟨⟨_,cm _ rfl,rfl,rfl⟩,pl.isList.push _⟩,fun i v s1 Q' E' hv hq=>?_,fun h' tk k=>?_⟩)
 .have vd:(bs.map Value.bool)[i]?=some v:=by simpa using hv
  rw[bh] at vd;cases eb:bs[i]? with
  |none=>rw[eb] at vd;cases vd
  |some b=>
   rw[eb] at vd;obtain rfl:Value.bool b=v:=bA vd;have:bs.getD i true=b:=by rw[bE,eb];rfl
   have Cr:Q' b s1:=by rw[<-this];exact hq
   exact wpAny_pure Cr
 .have keep:∀b o,s.heap.get? b=some o->h'.get? b=some o:=fun b o e=>k b o (by simpa using aU (aH e)) (bN _ e);refine⟨.bl (bs.all id),H,I.kept (t':=tk) keep,?_,q⟩;show Value.bool _=Value.bool _;congr 1;have go:∀ (bs:List Bool),((List.range bs.length).all fun i=>bs.getD i true)=bs.all id:=by
   intro bs;induction bs with
   |nil=>rfl
   |cons b bs ih=>
    rw[c_,qj,ig,List.all_map,ig,<-ih];rfl
  rw[<-go bs];simp
end
structure bZ(P:Program)(w:World)(K:PySem.W.Frag)(mg:Str->Option Value)(base:Heap)(CX:sA)(k:Nat)(x:Str)(ps:List Str)(sp:Sp):Prop where
 ex:∃f fd,mg x=some (.ref f)/\PySem.W.keepIn K (.ref f)=true/\gX K fd ps []/\bi P w K mg base CX k f fd ps sp
theorem aA(C:bZ X.prog X.w X.K X.mg X.base CX k x ps sp)(hr:bO k X.A)(hx:gu CX X E)(ha:PA X (e::es) t)(hg:Gl X x:=by rfl)(vk:(x==("__debug__":Str))=false:=by decide)(he:starEach (e::es) X.env=(false,eval e X.env)::starEach es X.env:=by rfl)(r_:(backTo pos (starEach es X.env)).any (·.1)=false:=by rfl):
  PE X (.Call (.Name x p) (e::es) [] pos) (om sp [] E t):=by
 obtain⟨f,fd,a,b,c,d⟩:=C.ex;exact Cq d hr hg a b c .nil hx ha vk he r_
theorem aj(h:H D=none):aE H (upd H D o):=fun b u e=>by rw[am (ao e h)];exact e
def cj(p:Addr)(H H':Hp):Prop:=∀b o,H b=some o->b≠p->H' b=some o
theorem cj.trans(a:cj p H H1)(b:cj p H1 H2):cj p H H2:=fun c o h n=>b c o (a c o h n) n
theorem cj.upd:cj p H (upd H p o):=fun b u h n=>by rw[am n];exact h
theorem cj.of(s:aE H H'):cj p H H':=fun b o h _=>s b o h
theorem iV(h:j<n):yX n (j:Int)=some j:=by
 unfold yX;rw[ak (by lia),ak (by lia)];simp
theorem pX(h:as.length=n):(as++[t]).getD j 0=if j=n then t else as.getD j 0:=by
 rw[bE,bE];by_cases hj:j=n
 .subst hj;subst h;rw[ak rfl,nu (aF _),Nat.sub_self];rfl
 .rw[ai hj];by_cases de:j<as.length
  .rw[lT de]
  .rw[nu (by lia),lU (by simp;lia),lU (by lia)]
def Holds(H:Hp)(as:List Addr)(n:Nat)(o:Nat->HO):Prop:=as.length=n/\∀j,j<n->H (as.getD j 0)=some (o j)
theorem Holds.nil:Holds H [] 0 o:=⟨rfl,fun j hj=>absurd hj (by lia)⟩
theorem Holds.snoc(h:Holds H as n o)(ht:H t=some (o n)):Holds H (as++[t]) (n+1) o:=by
 refine⟨by rw[fk,h.1];rfl,fun j hj=>?_⟩;rw[pX h.1];by_cases e:j=n
 .rw[ak e,e];exact ht
 .rw[ai e];exact h.2 j (by lia)
theorem Holds.mono(h:Holds H as n o)(e:∀j,j<n->H (as.getD j 0)=some (o j)->H' (as.getD j 0)=some (o j)):Holds H' as n o:=⟨h.1,fun j hj=>e j hj (h.2 j hj)⟩
end L2
namespace PyProof.Rows
open PySem
def fw:Bool->Keyed->Array Keyed->Nat->Nat->Nat->StateT SortSt Sem (Option Nat):=sortPriv% PySem.Builtin.gallop
def oB:Array Keyed->Array Keyed->StateT SortSt Sem (Array Keyed):=sortPriv% PySem.Builtin.mergeLo
def oC:Array Keyed->Array Keyed->StateT SortSt Sem (Array Keyed):=sortPriv% PySem.Builtin.mergeHi
def fG:Nat->StateT SortSt Sem Unit:=sortPriv% PySem.Builtin.setMinGallop
def sY(prog:Program)(w:World)(A:Around)(s:Shared)(κ:SortKind)(a₀:Array Keyed):Prop:=
 ∀x y,x∈a₀.toList->y∈a₀.toList->∀ (Q:Bool->Shared->Prop) (E:Value->Shared->Prop),(∀b,Q b s)->wpAny (model prog w) A (keyLt' κ x.1 y.1) Q E s
structure SQ(κ:SortKind)(a₀:Array Keyed)(pd:Array (Nat×Nat×Nat))(st:SortSt):Prop where
 perm:(arrOf st).Perm a₀
 kind:kindOf st=κ
 failed:failedOf st=none
 pend:pendingOf st=pd
section
variable {prog:Program} {w:World} {A:Around} {E:Value->Shared->Prop} {s:Shared} {κ:SortKind} {a₀:Array Keyed} {pd:Array (Nat×Nat×Nat)}
theorem SQ.size{st:SortSt}(h:SQ κ a₀ pd st):(arrOf st).size=a₀.size:=h.perm.size_eq
theorem SQ.setArr{st:SortSt}(h:SQ κ a₀ pd st){xs:Array Keyed}(hp:xs.Perm (arrOf st)):SQ κ a₀ pd (setArr st xs):=⟨hp.trans h.perm,h.kind,h.failed,h.pend⟩
theorem SQ.at{st:SortSt}(h:SQ κ a₀ pd st){i:Nat}(hi:i<a₀.size):∃p,(arrOf st)[i]?=some p/\p∈a₀.toList:=by
 have BZ:i<(arrOf st).size:=by rw[h.size];exact hi
 exact⟨(arrOf st)[i],cy _ i BZ,(jN.mp h.perm).mem_iff.mp (by simp)⟩
theorem oE{st:SortSt}{x y:Keyed}{Q:Option Bool->SortSt->Prop}(hC:sY prog w A s κ a₀)(hk:kindOf st=κ)(hx:x∈a₀.toList)(hy:y∈a₀.toList)(h:∀b,Q (some b) st):wpS (model prog w) A E s (lt' x y) Q st:=by
 rw[lt'_eq];refine au (eV ?_);rw[hk];refine au (jv (qO (hC x y hx hy _ _ fun b=>⟨rfl,?_⟩)));exact aG (h b)
theorem ba{st:SortSt}{arr:Array Keyed}{i:Nat}{p:Keyed}{Q:Keyed->SortSt->Prop}(hi:arr[i]?=some p)(h:Q p st):wpS (model prog w) A E s (elem' arr i) Q st:=by
 rw[elem'_eq,hi];exact aG h
theorem dM{st:SortSt}{i j:Nat}{Q:Option Bool->SortSt->Prop}(hC:sY prog w A s κ a₀)(hB:SQ κ a₀ pd st)(hi:i<a₀.size)(hj:j<a₀.size)(h:∀b,Q (some b) st):wpS (model prog w) A E s (ltAt' i j) Q st:=by
 obtain⟨p,e1,m1⟩:=hB.at hi;obtain⟨q,e2,m2⟩:=hB.at hj;rw[ltAt'_eq];refine au (eV ?_);exact au (ba e1 (au (ba e2 (oE hC hB.kind m1 m2 h))))
theorem eJ{st:SortSt}{i j:Nat}{Q:Unit->SortSt->Prop}(hB:SQ κ a₀ pd st)(h:∀aP,SQ κ a₀ pd aP->Q () aP):wpS (model prog w) A E s (reverseSlice' i j) Q st:=by
 rw[reverseSlice'_eq];exact ei (h _ (hB.setArr (mirror_perm _ _ _ _)))
theorem An{st:SortSt}{i j:Nat}{Q:Unit->SortSt->Prop}(hB:SQ κ a₀ pd st)(h:∀aP,SQ κ a₀ pd aP->Q () aP):wpS (model prog w) A E s (moveDown' i j) Q st:=by
 rw[moveDown'_eq];exact ei (h _ (hB.setArr (bubble_perm _ _ _)))
theorem CY{st:SortSt}{lo n ok:Nat}{Q:Bool->SortSt->Prop}(hC:sY prog w A s κ a₀)(hn:lo+n<=a₀.size)(hB:SQ κ a₀ pd st)(h:∀aP,SQ κ a₀ pd aP->Q true aP):wpS (model prog w) A E s (binarySort' lo n ok) Q st:=by
 rw[binarySort'_eq];refine au (cG (dR (I:=fun _ c aP=>c=(none,())/\SQ κ a₀ pd aP) (Q:=fun c aP=>c=(none,())/\SQ κ a₀ pd aP) ?_ (fun c aP hh=>hh) ⟨rfl,hB⟩) ?_)
 .rintro k c aP W_ U8 ⟨rfl,OC⟩;dsimp only;refine au (cG (dR (I:=fun _ c Ge=>(∃l r,c=(none,l,r)/\r<=k)/\SQ κ a₀ pd Ge) (Q:=fun c Ge=>(∃l r,c=(none,l,r)/\r<=k)/\SQ κ a₀ pd Ge) ?_ (fun c aP hh=>hh) ⟨⟨_,_,rfl,aF _⟩,OC⟩) ?_)
  .rintro x c u9 _ _ ⟨⟨l,r,rfl,hr⟩,pe⟩;dsimp only;by_cases wQ:l>=r
   .rw[ak wQ];exact aG ⟨⟨_,_,rfl,hr⟩,pe⟩
   .rw[ai wQ];refine au (dM hC pe (by lia) (by lia) fun b=>?_);cases b
    .exact aG ⟨⟨_,_,rfl,hr⟩,pe⟩
    .exact aG ⟨⟨_,_,rfl,by lia⟩,pe⟩
  .rintro c u9 ⟨⟨l,r,rfl,hr⟩,pe⟩;dsimp only;exact au (An pe fun va mx=>aG ⟨rfl,mx⟩)
 .rintro c aP ⟨rfl,OC⟩;exact aG (h aP OC)
end
theorem vD(left:Bool)(key:Keyed)(arr:Array Keyed)(base n jF:Nat):fw left key arr base n jF=(do
 let rd (i:Nat):StateT SortSt Sem (Option Bool):=do
  let x <- elem' arr (base+i)
  if left then lt' x key else return (<-lt' key x).map (!·)
 let mut lastofs:=0
 let mut ofs:=1
 let mut lo:=0
 let mut hi:=0
 let some right <- rd jF|return none
 if right then
  let oF:=n-jF
  for _ in [0:n] do
   if ofs>=oF then break
   let some more <- rd (jF+ofs)|return none
   if !more then break
   lastofs:=ofs
   ofs:=2*ofs+1
  lo:=jF+lastofs+1
  hi:=jF+min ofs oF
 else
  let oF:=jF+1
  for _ in [0:n] do
   if ofs>=oF then break
   let some Ao <- rd (jF-ofs)|return none
   if Ao then break
   lastofs:=ofs
   ofs:=2*ofs+1
  lo:=jF+1-min ofs oF
  hi:=jF-lastofs
 for _ in [0:n] do
  if lo>=hi then break
  let m:=lo+(hi-lo) / 2
  let some more <- rd m|return none
  if more then lo:=m+1 else hi:=m
 return some hi):=rfl
section
variable {prog:Program} {w:World} {A:Around} {E:Value->Shared->Prop} {s:Shared} {κ:SortKind} {a₀:Array Keyed} {pd:Array (Nat×Nat×Nat)}
theorem eZ{st:SortSt}{left:Bool}{key:Keyed}{arr:Array Keyed}{j:Nat}{Q:Option Bool->SortSt->Prop}(hC:sY prog w A s κ a₀)(hk:kindOf st=κ)(o7:key∈a₀.toList)(pY:∀x∈arr.toList,x∈a₀.toList)(hj:j<arr.size)(h:∀b,Q (some b) st):
  wpS (model prog w) A E s (do
  let x <- elem' arr j
  if left then lt' x key else return (<-lt' key x).map (!·)) Q st:=by
 have hm:arr[j]∈a₀.toList:=pY _ (by simp);refine au (ba (cy arr j hj) ?_);cases left
 .rw[ai (by decide)];exact au (oE hC hk o7 hm fun b=>aG (h (!b)))
 .rw[ak rfl];exact oE hC hk hm o7 h
theorem dX{st:SortSt}{left:Bool}{key:Keyed}{arr:Array Keyed}{base n jF:Nat}{Q:Option Nat->SortSt->Prop}(hC:sY prog w A s κ a₀)(hk:kindOf st=κ)(o7:key∈a₀.toList)(pY:∀x∈arr.toList,x∈a₀.toList)(hn:base+n<=arr.size)(hh:jF<n)(h:∀k,k<=n->Q (some k) st):wpS (model prog w) A E s (fw left key arr base n jF) Q st:=by
 rw[vD];refine au (eZ hC hk o7 pY (by lia) fun right=>?_);cases right
 .dsimp only;rw[ai (by decide)];refine au (cG (dR (I:=fun _ c aP=>(∃l o,c=(none,l,o))/\st=aP) (Q:=fun c aP=>(∃l o,c=(none,l,o))/\st=aP) ?_ (fun c aP hh=>hh) ⟨⟨_,_,rfl⟩,rfl⟩) ?_)
  .rintro x c aP _ _ ⟨⟨l,o,rfl⟩,rfl⟩;dsimp only;by_cases wQ:o>=jF+1
   .rw[ak wQ];exact aG ⟨⟨_,_,rfl⟩,rfl⟩
   .rw[ai wQ];refine au (eZ hC hk o7 pY (by lia) fun Ao=>?_);cases Ao
    .exact aG ⟨⟨_,_,rfl⟩,rfl⟩
    .exact aG ⟨⟨_,_,rfl⟩,rfl⟩
  .rintro c aP ⟨⟨l,o,rfl⟩,rfl⟩;dsimp only;refine au (cG (dR (I:=fun _ c aP=>(∃l u,c=(none,l,u)/\u<=n)/\st=aP) (Q:=fun c aP=>(∃l u,c=(none,l,u)/\u<=n)/\st=aP) ?_ (fun c aP hh=>hh) ⟨⟨_,_,rfl,by lia⟩,rfl⟩) ?_)
   .rintro x c aP _ _ ⟨⟨l,u,rfl,hu⟩,rfl⟩;dsimp only;by_cases wQ:l>=u
    .rw[ak wQ];exact aG ⟨⟨_,_,rfl,hu⟩,rfl⟩
    .rw[ai wQ];refine au (eZ hC hk o7 pY (by lia) fun more=>?_);cases more
     .exact aG ⟨⟨_,_,rfl,by lia⟩,rfl⟩
     .exact aG ⟨⟨_,_,rfl,hu⟩,rfl⟩
   .rintro c aP ⟨⟨l,u,rfl,hu⟩,rfl⟩;exact aG (h u hu)
 .dsimp only;rw[ak rfl];refine au (cG (dR (I:=fun _ c aP=>(∃l o,c=(none,l,o))/\st=aP) (Q:=fun c aP=>(∃l o,c=(none,l,o))/\st=aP) ?_ (fun c aP hh=>hh) ⟨⟨_,_,rfl⟩,rfl⟩) ?_)
  .rintro x c aP _ _ ⟨⟨l,o,rfl⟩,rfl⟩;dsimp only;by_cases wQ:o>=n-jF
   .rw[ak wQ];exact aG ⟨⟨_,_,rfl⟩,rfl⟩
   .rw[ai wQ];refine au (eZ hC hk o7 pY (by lia) fun more=>?_);cases more
    .exact aG ⟨⟨_,_,rfl⟩,rfl⟩
    .exact aG ⟨⟨_,_,rfl⟩,rfl⟩
  .rintro c aP ⟨⟨l,o,rfl⟩,rfl⟩;dsimp only;refine au (cG (dR (I:=fun _ c aP=>(∃l u,c=(none,l,u)/\u<=n)/\st=aP) (Q:=fun c aP=>(∃l u,c=(none,l,u)/\u<=n)/\st=aP) ?_ (fun c aP hh=>hh) ⟨⟨_,_,rfl,by lia⟩,rfl⟩) ?_)
   .rintro x c aP _ _ ⟨⟨l,u,rfl,hu⟩,rfl⟩;dsimp only;by_cases wQ:l>=u
    .rw[ak wQ];exact aG ⟨⟨_,_,rfl,hu⟩,rfl⟩
    .rw[ai wQ];refine au (eZ hC hk o7 pY (by lia) fun more=>?_);cases more
     .exact aG ⟨⟨_,_,rfl,by lia⟩,rfl⟩
     .exact aG ⟨⟨_,_,rfl,hu⟩,rfl⟩
   .rintro c aP ⟨⟨l,u,rfl,hu⟩,rfl⟩;exact aG (h u hu)
end
structure SM(κ:SortKind)(ar:Array Keyed)(pd:Array (Nat×Nat×Nat))(st:SortSt):Prop where
 arr:arrOf st=ar
 kind:kindOf st=κ
 failed:failedOf st=none
 pend:pendingOf st=pd
abbrev my:=Option (Array Keyed)
abbrev pZ:=StateT SortSt Sem
def sZ{τ:Type}(c:Bool)(d:Prop)[Decidable d](r:Array Keyed)(t:τ):pZ (ForInStep (my×τ)):=if c then pure (.done (some r,t)) else if d then pure (.done (none,t)) else pure (.yield (none,t))
def So{α β γ:Type}(N:Nat)(f:Nat->my×α×β×γ×Nat×Nat->pZ (ForInStep (my×α×β×γ×Nat×Nat)))(g:my×α×β×γ×Nat×Nat×Nat->pZ (ForInStep (my×α×β×γ×Nat×Nat×Nat)))(s:my×α×β×γ×Nat):pZ (ForInStep (my×α×β×γ×Nat)):=do
 let t <- forIn [0:N] ((none,s.2.1,s.2.2.1,s.2.2.2.1,0,0):my×α×β×γ×Nat×Nat) fun _ t=>f s.2.2.2.2 t
 match t.1 with
 |some r=>pure (.done (some r,t.2.1,t.2.2.1,t.2.2.2.1,s.2.2.2.2))
 |none=>do
  liftM (rule "list.sort.gallop")
  let u <- forIn [0:N] ((none,t.2.1,t.2.2.1,t.2.2.2.1,s.2.2.2.2+1,t.2.2.2.2.1,t.2.2.2.2.2):my×α×β×γ×Nat×Nat×Nat) fun _ u=>g u
  match u.1 with
  |some r=>pure (.done (some r,u.2.1,u.2.2.1,u.2.2.2.1,u.2.2.2.2.1))
  |none=>do
   fG (u.2.2.2.2.1+1)
   pure (.yield (none,u.2.1,u.2.2.1,u.2.2.2.1,u.2.2.2.2.1+1))
def MV{α β γ:Type}(N:Nat)(f:Nat->my×α×β×γ×Nat×Nat->pZ (ForInStep (my×α×β×γ×Nat×Nat)))(g:my×α×β×γ×Nat×Nat×Nat->pZ (ForInStep (my×α×β×γ×Nat×Nat×Nat)))(x:α)(y:β)(z:γ):pZ (Array Keyed):=do
 let st <- get
 let s <- forIn [0:N] ((none,x,y,z,gallopOf st):my×α×β×γ×Nat) fun _ s=>So N f g s
 match s.1 with
 |some r=>pure r
 |none=>liftM (unsupported "internal:list.sort.merge-bound")
section
variable {prog:Program} {w:World} {A:Around} {E:Value->Shared->Prop} {s:Shared} {κ:SortKind} {a₀:Array Keyed} {pd:Array (Nat×Nat×Nat)} {ar:Array Keyed} {F:Array Keyed->Prop}
def GP{τ:Type}(κ:SortKind)(ar:Array Keyed)(pd:Array (Nat×Nat×Nat))(F:Array Keyed->Prop)(D J:τ->Prop)(r:ForInStep (my×τ))(st:SortSt):Prop:=SM κ ar pd st/\
 ((∃x t,r=.done (some x,t)/\F x)\/(∃t,r=.done (none,t)/\D t)\/∃t,r=.yield (none,t)/\J t)
theorem dN{τ:Type}{D J:τ->Prop}{st:SortSt}{x:Array Keyed}{t:τ}(m:SM κ ar pd st)(h:F x):wpS (model prog w) A E s (pure (.done (some x,t))) (GP κ ar pd F D J) st:=aG ⟨m,.inl ⟨_,_,rfl,h⟩⟩
theorem fZ{τ:Type}{D J:τ->Prop}{c:Bool}{d:Prop}[Decidable d]{r:Array Keyed}{t:τ}{st:SortSt}(m:SM κ ar pd st)(h1:c=true->F r)(h2:c=false->D t/\J t):wpS (model prog w) A E s (sZ c d r t) (GP κ ar pd F D J) st:=by
 unfold sZ;cases c
 .rw[ai bT];split
  .exact aG ⟨m,.inr (.inl ⟨_,rfl,(h2 rfl).1⟩)⟩
  .exact aG ⟨m,.inr (.inr ⟨_,rfl,(h2 rfl).2⟩)⟩
 .rw[ak rfl];exact dN m (h1 rfl)
theorem lG{τ:Type}{D:τ->Prop}{J:Nat->τ->Prop}{N:Nat}{f:my×τ->pZ (ForInStep (my×τ))}{t:τ}{st:SortSt}{Q:my×τ->SortSt->Prop}(m:SM κ ar pd st)(hJ:J 0 t)(up:∀t,J N t->D t)(b:∀t st,SM κ ar pd st->∀i,J i t->wpS (model prog w) A E s (f (none,t)) (GP κ ar pd F D (J (i+1))) st)(h1:∀x t aP,SM κ ar pd aP->F x->Q (some x,t) aP)(h2:∀t aP,SM κ ar pd aP->D t->Q (none,t) aP):wpS (model prog w) A E s (forIn [0:N] ((none,t):my×τ) fun _ c=>f c) Q st:=by
 refine dR (I:=fun i c aP=>c.1=none/\SM κ ar pd aP/\J i c.2) ?_ ?_ ⟨rfl,m,hJ⟩
 .rintro i ⟨_,t⟩ aP _ _ ⟨rfl,m',j⟩;refine cG (b t aP m' i j) ?_;rintro r u9 ⟨m2,⟨x,t,rfl,h⟩|⟨t,rfl,h⟩|⟨t,rfl,h⟩⟩
  .exact h1 _ _ _ m2 h
  .exact h2 _ _ m2 h
  .exact⟨rfl,m2,h⟩
 .rintro⟨_,t⟩ aP ⟨rfl,m',j⟩;rw[Nat.max_eq_right (cE _)] at j;exact h2 _ _ m' (up _ j)
theorem wR{α β γ:Type}{N:Nat}{f:Nat->my×α×β×γ×Nat×Nat->pZ (ForInStep (my×α×β×γ×Nat×Nat))}{g:my×α×β×γ×Nat×Nat×Nat->pZ (ForInStep (my×α×β×γ×Nat×Nat×Nat))}{x:α}{y:β}{z:γ}{J:Nat->α->β->γ->Prop}{st:SortSt}{Q:Array Keyed->SortSt->Prop}(m:SM κ ar pd st)(h0:J 0 x y z)(dn:∀i k x y z,J (i+k) x y z->J i x y z)(no:∀x y z,¬ J N x y z)(N1:1<=N)(hf:∀mg n k x y z p st,SM κ ar pd st->J (n+k) x y z->wpS (model prog w) A E s (f mg (none,x,y,z,p)) (GP κ ar pd F (fun t=>J (n+1) t.1 t.2.1 t.2.2.1) fun t=>J (n+(k+1)) t.1 t.2.1 t.2.2.1) st)(hg:∀n x y z p st,SM κ ar pd st->J n x y z->wpS (model prog w) A E s (g (none,x,y,z,p)) (GP κ ar pd F (fun t=>J n t.1 t.2.1 t.2.2.1) fun t=>J n t.1 t.2.1 t.2.2.1) st)(h:∀x aP,F x->SM κ ar pd aP->Q x aP):wpS (model prog w) A E s (MV N f g x y z) Q st:=by
 unfold MV;refine au (eV ?_);refine au (lG (F:=F) (D:=fun _=>False) (J:=fun n (t:α×β×γ×Nat)=>J n t.1 t.2.1 t.2.2.1) m h0 (fun t h=>no _ _ _ h) ?_ (fun x t st m hx=>aG (h _ _ hx m)) fun t st m j=>j.elim);intro t st m i j;unfold So;refine au (lG (F:=F) (D:=fun t=>J (i+1) t.1 t.2.1 t.2.2.1) (J:=fun n (t:α×β×γ×Nat×Nat)=>J (i+n) t.1 t.2.1 t.2.2.1) m j (fun t h=>dn _ (N-1) _ _ _ (by rw[show i+1+(N-1)=i+N by lia];exact h)) (fun t st m n j=>hf _ _ _ _ _ _ _ _ m j) (fun x t st m hx=>dN m hx) ?_);intro t st m j;refine au (jv (fE ⟨rfl,?_⟩));refine au (lG (F:=F) (D:=fun t=>J (i+1) t.1 t.2.1 t.2.2.1) (J:=fun n (t:α×β×γ×Nat×Nat×Nat)=>J (i+1) t.1 t.2.1 t.2.2.1) m j (fun _ h=>h) (fun t st m n j=>hg _ _ _ _ _ _ m j) (fun x t st m hx=>dN m hx) ?_);intro t st m j;refine au (ei ?_);exact aG ⟨⟨m.arr,m.kind,m.failed,m.pend⟩,.inr (.inr ⟨_,rfl,j⟩)⟩
end
abbrev iF(a b a7:Array Keyed)(ia ib:Nat):=a7++a.extract ia a.size++b.extract ib b.size
abbrev re(a b a7:Array Keyed)(ia ib:Nat):=a7++b.extract ib b.size++a.extract ia a.size
abbrev ER ρ:=my×Array Keyed×Nat×Nat×ρ
def Sq(a b:Array Keyed)(mg:Nat)(t:ER (Nat×Nat)):pZ (ForInStep (ER (Nat×Nat))):=do
 let x <- elem' b t.2.2.2.1
 let y <- elem' a t.2.2.1
 let some w <- lt' x y|pure (.done (some (iF a b t.2.1 t.2.2.1 t.2.2.2.1),t.2.1,t.2.2.1,t.2.2.2.1,t.2.2.2.2.1,t.2.2.2.2.2))
 if w then do
  let x <- elem' b t.2.2.2.1
  sZ (t.2.2.2.1+1==b.size) (t.2.2.2.2.2+1>=mg) (iF a b (t.2.1.push x) t.2.2.1 (t.2.2.2.1+1)) (t.2.1.push x,t.2.2.1,t.2.2.2.1+1,0,t.2.2.2.2.2+1)
 else do
  let x <- elem' a t.2.2.1
  sZ (t.2.2.1+1+1==a.size) (t.2.2.2.2.1+1>=mg) (re a b (t.2.1.push x) (t.2.2.1+1) t.2.2.2.1) (t.2.1.push x,t.2.2.1+1,t.2.2.2.1,t.2.2.2.2.1+1,0)
def OD(a b a7:Array Keyed)(ia ib mg ac bc:Nat):pZ (ForInStep (ER (Nat×Nat×Nat))):=do
 let x <- elem' a ia
 sZ (ia+1+1==a.size) ((ac<7&&bc<7)=true) (re a b (a7.push x) (ia+1) ib) (a7.push x,ia+1,ib,mg,ac,bc)
def OE(a b a7:Array Keyed)(ia ib mg ac bc:Nat):pZ (ForInStep (ER (Nat×Nat×Nat))):=do
 let x <- elem' b ib
 if ib+1==b.size then pure (.done (some (iF a b (a7.push x) ia (ib+1)),a7.push x,ia,ib+1,mg,ac,bc))
 else do
  let y <- elem' a ia
  let some k <- fw true y b (ib+1) (b.size-(ib+1)) 0|pure (.done (some (iF a b (a7.push x) ia (ib+1)),a7.push x,ia,ib+1,mg,ac,bc))
  if k > 0 then
   if ib+1+k==b.size then pure (.done (some (iF a b (a7.push x++b.extract (ib+1) (ib+1+k)) ia (ib+1+k)),a7.push x++b.extract (ib+1) (ib+1+k),ia,ib+1+k,mg,ac,k))
   else OD a b (a7.push x++b.extract (ib+1) (ib+1+k)) ia (ib+1+k) mg ac k
  else OD a b (a7.push x) ia (ib+1) mg ac k
def OF(a b a7:Array Keyed)(ia ib mg ac bc:Nat):pZ (ForInStep (ER (Nat×Nat×Nat))):=do
 fG mg
 let y <- elem' b ib
 let some k <- fw false y a ia (a.size-ia) 0|pure (.done (some (iF a b a7 ia ib),a7,ia,ib,mg,ac,bc))
 if k > 0 then
  if ia+k+1==a.size then pure (.done (some (re a b (a7++a.extract ia (ia+k)) (ia+k) ib),a7++a.extract ia (ia+k),ia+k,ib,mg,k,bc))
  else if ia+k==a.size then pure (.done (some (iF a b (a7++a.extract ia (ia+k)) (ia+k) ib),a7++a.extract ia (ia+k),ia+k,ib,mg,k,bc))
  else OE a b (a7++a.extract ia (ia+k)) (ia+k) ib mg k bc
 else OE a b a7 ia ib mg k bc
def Sr(a b:Array Keyed)(t:ER (Nat×Nat×Nat)):pZ (ForInStep (ER (Nat×Nat×Nat))):=
 if t.2.2.2.2.1 > 1 then OF a b t.2.1 t.2.2.1 t.2.2.2.1 (t.2.2.2.2.1-1) t.2.2.2.2.2.1 t.2.2.2.2.2.2 else OF a b t.2.1 t.2.2.1 t.2.2.2.1 t.2.2.2.2.1 t.2.2.2.2.2.1 t.2.2.2.2.2.2
theorem s_(a b:Array Keyed):oB a b=(do
 liftM (rule "list.sort.merge-lo")
 let x <- elem' b 0
 if 1==b.size then pure (iF a b #[x] 0 1) else if 0+1==a.size then pure (re a b #[x] 0 1) else MV (a.size+b.size) (Sq a b) (Sr a b) #[x] 0 1):=by kernel_rfl
def PI(a b a7:Array Keyed)(ia ib:Nat):Prop:=a7.toList.Perm (a.toList.take ia++b.toList.take ib)
theorem tf{l:List Keyed}{i:Nat}(h:i<l.length):l.take (i+1)=l.take i++[l[i]]:=by rw[d7,bC h];rfl
theorem PI.p8{a b a7:Array Keyed}{ia ib:Nat}(h:PI a b a7 ia ib)(hi:ia<a.size):PI a b (a7.push a[ia]) (ia+1) ib:=by
 unfold PI at h |-;rw[kQ,tf (by simpa using hi),cx];refine(h.append_right _).trans ?_;rw[cx];refine lV _ ?_;have:a.toList[ia]'(by simpa using hi)=a[ia]:=by simp
 rw[this];exact g_
theorem PI.p9{a b a7:Array Keyed}{ia ib:Nat}(h:PI a b a7 ia ib)(hi:ib<b.size):PI a b (a7.push b[ib]) ia (ib+1):=by
 unfold PI at h |-;rw[kQ,tf (by simpa using hi),<-cx];have:b.toList[ib]'(by simpa using hi)=b[ib]:=by simp
 rw[this];exact h.append_right _
theorem cV{a:Array Keyed}{i j:Nat}:(a.extract i j).toList=(a.toList.drop i).take (j-i):=by
 rw[uB,List.extract_eq_take_drop]
theorem PI.yk{a b a7:Array Keyed}{ia ib:Nat}(h:PI a b a7 ia ib)(k:Nat):PI a b (a7++a.extract ia (ia+k)) (ia+k) ib:=by
 unfold PI at h |-;rw[dv,cV,Nat.add_sub_cancel_left,List.take_add,cx];refine(h.append_right _).trans ?_;rw[cx];exact lV _ g_
theorem PI.yl{a b a7:Array Keyed}{ia ib:Nat}(h:PI a b a7 ia ib)(k:Nat):PI a b (a7++b.extract ib (ib+k)) ia (ib+k):=by
 unfold PI at h |-;rw[dv,cV,Nat.add_sub_cancel_left,List.take_add,<-cx];exact h.append_right _
theorem PI.done{a b a7:Array Keyed}{ia ib:Nat}(h:PI a b a7 ia ib):(a7++a.extract ia a.size++b.extract ib b.size).Perm (a++b):=by
 rw[jN];unfold PI at h;rw[dv,dv,dv,cV,cV];have e1:(a.toList.drop ia).take (a.size-ia)=a.toList.drop ia:=List.take_of_length_le (by simp);have e2:(b.toList.drop ib).take (b.size-ib)=b.toList.drop ib:=List.take_of_length_le (by simp);rw[e1,e2];refine((h.append_right _).append_right _).trans ?_;conv=>rhs;rw[<-kM ia a.toList,<-kM ib b.toList]
 rw[cx,cx,cx];refine lV _ ?_;rw[<-cx,<-cx];exact uw _ g_
theorem PI.last{a b a7:Array Keyed}{ia ib:Nat}(h:PI a b a7 ia ib):(a7++b.extract ib b.size++a.extract ia a.size).Perm (a++b):=by
 refine Array.Perm.trans ?_ h.done;rw[jN];rw[dv,dv,dv,dv,cx,cx];exact lV _ g_
section
variable {prog:Program} {w:World} {A:Around} {E:Value->Shared->Prop} {s:Shared} {κ:SortKind} {a₀:Array Keyed} {pd:Array (Nat×Nat×Nat)} {ar:Array Keyed} {a b a7:Array Keyed} {ia ib mg ac bc n:Nat} {st:SortSt}
def JL(a b:Array Keyed)(n:Nat)(a7:Array Keyed)(ia ib:Nat):Prop:=PI a b a7 ia ib/\ia+1<a.size/\ib<b.size/\n<=ia+ib
abbrev GL{ρ:Type}(κ:SortKind)(ar:Array Keyed)(pd:Array (Nat×Nat×Nat))(a b:Array Keyed)(n m:Nat):ForInStep (ER ρ)->SortSt->Prop:=GP κ ar pd (fun x=>x.Perm (a++b)) (fun t=>JL a b n t.1 t.2.1 t.2.2.1) fun t=>JL a b m t.1 t.2.1 t.2.2.1
theorem wS(hB:SM κ ar pd st)(h:JL a b n a7 ia ib):wpS (model prog w) A E s (OD a b a7 ia ib mg ac bc) (GL κ ar pd a b n n) st:=by
 obtain⟨p,la,lb,li⟩:=h;refine au (ba (cy a ia (by lia)) ?_);have p:=p.p8 (show ia<a.size by lia);refine fZ hB (fun _=>p.last) fun f=>?_;have g:=kS f;have j:JL a b n (a7.push a[ia]) (ia+1) ib:=⟨p,by lia,lb,by lia⟩
 exact⟨j,j⟩
theorem wT(hC:sY prog w A s κ a₀)(ha:∀x∈a.toList,x∈a₀.toList)(hb:∀x∈b.toList,x∈a₀.toList)(hB:SM κ ar pd st)(h:JL a b n a7 ia ib):wpS (model prog w) A E s (OE a b a7 ia ib mg ac bc) (GL κ ar pd a b n n) st:=by
 obtain⟨p,la,lb,li⟩:=h;refine au (ba (cy b ib lb) ?_);have p:=p.p9 lb;split
 .exact dN hB p.done
 next f=>
 have g:ib+1≠b.size:=by simpa using f
 refine au (ba (cy a ia (by lia)) ?_);refine au (dX hC hB.kind (ha _ (by simp)) hb (by lia) (by lia) fun k hk=>?_);dsimp only;split
 .split
  .exact dN hB (p.yl k).done
  next f=>
  have g:ib+1+k≠b.size:=by simpa using f
  exact wS hB ⟨p.yl k,la,by lia,by lia⟩
 .exact wS hB ⟨p,la,by lia,by lia⟩
theorem CZ(hC:sY prog w A s κ a₀)(ha:∀x∈a.toList,x∈a₀.toList)(hb:∀x∈b.toList,x∈a₀.toList)(hB:SM κ ar pd st)(h:JL a b n a7 ia ib):wpS (model prog w) A E s (OF a b a7 ia ib mg ac bc) (GL κ ar pd a b n n) st:=by
 obtain⟨p,la,lb,li⟩:=h;refine au (ei ?_);refine au (ba (cy b ib lb) ?_);have pe:SM κ ar pd (SortSt.mk' (kindOf st) (arrOf st) (pendingOf st) mg (failedOf st)):=⟨hB.arr,hB.kind,hB.failed,hB.pend⟩
 refine au (dX hC pe.kind (hb _ (by simp)) ha (by lia) (by lia) fun k hk=>?_);dsimp only;split
 .split
  .exact dN pe (p.yk k).last
  next f=>
  split
  .exact dN pe (p.yk k).done
  next f'=>
  have g:ia+k+1≠a.size:=by simpa using f
  have g':ia+k≠a.size:=by simpa using f'
  exact wT hC ha hb pe ⟨p.yk k,by lia,lb,by lia⟩
 .exact wT hC ha hb pe ⟨p,la,lb,li⟩
theorem C0{k:Nat}(hC:sY prog w A s κ a₀)(ha:∀x∈a.toList,x∈a₀.toList)(hb:∀x∈b.toList,x∈a₀.toList)(hB:SM κ ar pd st)(h:JL a b (n+k) a7 ia ib){q:Nat×Nat}:wpS (model prog w) A E s (Sq a b mg (none,a7,ia,ib,q)) (GL κ ar pd a b (n+1) (n+(k+1))) st:=by
 obtain⟨p,la,lb,li⟩:=h;refine au (ba (cy b ib lb) (au (ba (cy a ia (by lia)) (au (oE hC hB.kind (hb _ (by simp)) (ha _ (by simp)) fun w=>?_)))));cases w
 .refine au (ba (cy a ia (by lia)) ?_);have p:=p.p8 (show ia<a.size by lia);refine fZ hB (fun _=>p.last) fun f=>?_;have g:=kS f;exact⟨⟨p,by dsimp only;lia,lb,by dsimp only;lia⟩,p,by dsimp only;lia,lb,by dsimp only;lia⟩
 .refine au (ba (cy b ib lb) ?_);have p:=p.p9 lb;refine fZ hB (fun _=>p.done) fun f=>?_;have g:=kS f;exact⟨⟨p,la,by dsimp only at g |-;lia,by dsimp only;lia⟩,p,la,by dsimp only at g |-;lia,by dsimp only;lia⟩
theorem tj{Q:Array Keyed->SortSt->Prop}(hC:sY prog w A s κ a₀)(hB:SM κ ar pd st)(ha:∀x∈a.toList,x∈a₀.toList)(hb:∀x∈b.toList,x∈a₀.toList)(a1:1<=a.size)(b1:1<=b.size)(h:∀a7 aP,a7.Perm (a++b)->SM κ ar pd aP->Q a7 aP):wpS (model prog w) A E s (oB a b) Q st:=by
 rw[s_];refine au (jv (fE ⟨rfl,?_⟩));refine au (ba (cy b 0 (by lia)) ?_);have p0:PI a b #[b[0]] 0 1:=by
  have:PI a b #[] 0 0:=by unfold PI;simp
  exact this.p9 (by lia)
 split
 .exact aG (h _ _ p0.done hB)
 next f=>
 split
 .exact aG (h _ _ p0.last hB)
 next f'=>
 have g:1≠b.size:=by simpa using f
 have g':0+1≠a.size:=by simpa using f'
 refine wR (J:=JL a b) hB ⟨p0,by lia,by lia,by lia⟩ (fun i k x y z h=>⟨h.1,h.2.1,h.2.2.1,by have:=h.2.2.2;lia⟩) (fun x y z h=>by have:=h.2;lia) (by lia) (fun mg n k x y z p st m j=>C0 hC ha hb m j) (fun n x y z p st m j=>?_) h;unfold Sr;split <;> exact CZ hC ha hb m j
end
abbrev iG(a b a7:Array Keyed)(na nb:Nat):=a.extract 0 na++b.extract 0 nb++a7.reverse
abbrev mX(a b a7:Array Keyed)(na nb:Nat):=b.extract 0 nb++a.extract 0 na++a7.reverse
abbrev ES ρ:=my×Nat×Nat×Array Keyed×ρ
def Ss(a b:Array Keyed)(mg:Nat)(t:ES (Nat×Nat)):pZ (ForInStep (ES (Nat×Nat))):=do
 let x <- elem' b (t.2.2.1-1)
 let y <- elem' a (t.2.1-1)
 let some w <- lt' x y|pure (.done (some (iG a b t.2.2.2.1 t.2.1 t.2.2.1),t.2.1,t.2.2.1,t.2.2.2.1,t.2.2.2.2.1,t.2.2.2.2.2))
 if w then do
  let x <- elem' a (t.2.1-1)
  sZ (t.2.1-1==0) (t.2.2.2.2.1+1>=mg) (iG a b (t.2.2.2.1.push x) (t.2.1-1) t.2.2.1) (t.2.1-1,t.2.2.1,t.2.2.2.1.push x,t.2.2.2.2.1+1,0)
 else do
  let x <- elem' b (t.2.2.1-1)
  sZ (t.2.2.1-1==1) (t.2.2.2.2.2+1>=mg) (mX a b (t.2.2.2.1.push x) t.2.1 (t.2.2.1-1)) (t.2.1,t.2.2.1-1,t.2.2.2.1.push x,0,t.2.2.2.2.2+1)
def OG(a b:Array Keyed)(na nb:Nat)(a7:Array Keyed)(mg ac bc:Nat):pZ (ForInStep (ES (Nat×Nat×Nat))):=do
 let x <- elem' a (na-1)
 sZ (na-1==0) ((ac<7&&bc<7)=true) (iG a b (a7.push x) (na-1) nb) (na-1,nb,a7.push x,mg,ac,bc)
def OH(a b:Array Keyed)(na nb:Nat)(a7:Array Keyed)(mg ac bc:Nat):pZ (ForInStep (ES (Nat×Nat×Nat))):=do
 let x <- elem' b (nb-1)
 if nb-1==1 then pure (.done (some (mX a b (a7.push x) na (nb-1)),na,nb-1,a7.push x,mg,ac,bc))
 else do
  let y <- elem' a (na-1)
  let some k <- fw true y b 0 (nb-1) (nb-1-1)|pure (.done (some (iG a b (a7.push x) na (nb-1)),na,nb-1,a7.push x,mg,ac,bc))
  if nb-1-k > 0 then
   if k==1 then pure (.done (some (mX a b (a7.push x++(b.extract k (nb-1)).reverse) na k),na,k,a7.push x++(b.extract k (nb-1)).reverse,mg,ac,nb-1-k))
   else if k==0 then pure (.done (some (iG a b (a7.push x++(b.extract k (nb-1)).reverse) na k),na,k,a7.push x++(b.extract k (nb-1)).reverse,mg,ac,nb-1-k))
   else OG a b na k (a7.push x++(b.extract k (nb-1)).reverse) mg ac (nb-1-k)
  else OG a b na (nb-1) (a7.push x) mg ac (nb-1-k)
def OI(a b:Array Keyed)(na nb:Nat)(a7:Array Keyed)(mg ac bc:Nat):pZ (ForInStep (ES (Nat×Nat×Nat))):=do
 fG mg
 let y <- elem' b (nb-1)
 let some k <- fw false y a 0 na (na-1)|pure (.done (some (iG a b a7 na nb),na,nb,a7,mg,ac,bc))
 if na-k > 0 then
  if k==0 then pure (.done (some (iG a b (a7++(a.extract k na).reverse) k nb),k,nb,a7++(a.extract k na).reverse,mg,na-k,bc))
  else OH a b k nb (a7++(a.extract k na).reverse) mg (na-k) bc
 else OH a b na nb a7 mg (na-k) bc
def Su(a b:Array Keyed)(t:ES (Nat×Nat×Nat)):pZ (ForInStep (ES (Nat×Nat×Nat))):=
 if t.2.2.2.2.1 > 1 then OI a b t.2.1 t.2.2.1 t.2.2.2.1 (t.2.2.2.2.1-1) t.2.2.2.2.2.1 t.2.2.2.2.2.2 else OI a b t.2.1 t.2.2.1 t.2.2.2.1 t.2.2.2.2.1 t.2.2.2.2.2.1 t.2.2.2.2.2.2
theorem tm(a b:Array Keyed):oC a b=(do
 liftM (rule "list.sort.merge-hi")
 let x <- elem' a (a.size-1)
 if a.size-1==0 then pure (iG a b #[x] (a.size-1) b.size) else if b.size==1 then pure (mX a b #[x] (a.size-1) b.size) else MV (a.size+b.size) (Ss a b) (Su a b) (a.size-1) b.size #[x]):=by kernel_rfl
def PH(a b a7:Array Keyed)(na nb:Nat):Prop:=a7.toList.Perm (a.toList.drop na++b.toList.drop nb)
theorem PH.p8{a b a7:Array Keyed}{na nb:Nat}(h:PH a b a7 na nb)(h1:1<=na)(hi:na-1<a.size):PH a b (a7.push a[na-1]) (na-1) nb:=by
 unfold PH at h |-;have e:a.toList.drop (na-1)=a[na-1]::a.toList.drop na:=by
  have:=ur (l:=a.toList) (i:=na-1) (by simpa using hi);rw[this,Nat.sub_add_cancel h1];simp
 rw[kQ,e];refine(h.append_right _).trans ?_;exact g_
theorem PH.p9{a b a7:Array Keyed}{na nb:Nat}(h:PH a b a7 na nb)(h1:1<=nb)(hi:nb-1<b.size):PH a b (a7.push b[nb-1]) na (nb-1):=by
 unfold PH at h |-;have e:b.toList.drop (nb-1)=b[nb-1]::b.toList.drop nb:=by
  have:=ur (l:=b.toList) (i:=nb-1) (by simpa using hi);rw[this,Nat.sub_add_cancel h1];simp
 rw[kQ,e];refine(h.append_right _).trans ?_;rw[cx];exact lV _ g_
theorem kg{l:List Keyed}{i j:Nat}(h:i<=j):l.drop i=(l.drop i).take (j-i)++l.drop j:=by
 have:=(kM (j-i) (l.drop i)).symm;rw[List.drop_drop,show i+(j-i)=j by lia] at this;exact this
theorem PH.yk{a b a7:Array Keyed}{na nb:Nat}(h:PH a b a7 na nb){k:Nat}(hk:k<=na):PH a b (a7++(a.extract k na).reverse) k nb:=by
 unfold PH at h |-;rw[dv,uA,cV];conv=>rhs;rw[kg hk]
 refine((h.append_left _).trans ?_ |> fun z=>(List.Perm.trans g_ ((qw _).append_right _)).trans z);rw[cx]
theorem PH.yl{a b a7:Array Keyed}{na nb:Nat}(h:PH a b a7 na nb){k:Nat}(hk:k<=nb):PH a b (a7++(b.extract k nb).reverse) na k:=by
 unfold PH at h |-;rw[dv,uA,cV];conv=>rhs;rw[kg hk]
 refine(h.append_right _).trans ?_;rw[cx];refine lV _ ?_;exact g_.trans ((qw _).append_right _)
theorem Ki{a:Array Keyed}{j:Nat}:(a.extract 0 j).toList=a.toList.take j:=by rw[cV,List.drop_zero,Nat.sub_zero]
theorem PH.done{a b a7:Array Keyed}{na nb:Nat}(h:PH a b a7 na nb):(a.extract 0 na++b.extract 0 nb++a7.reverse).Perm (a++b):=by
 rw[jN];unfold PH at h;rw[dv,dv,dv,uA,Ki,Ki];conv=>rhs;rw[<-kM na a.toList,<-kM nb b.toList]
 refine(lV _ ((qw _).trans h)).trans ?_;rw[cx,cx];refine lV _ ?_;rw[<-cx,<-cx];exact uw _ g_
theorem PH.first{a b a7:Array Keyed}{na nb:Nat}(h:PH a b a7 na nb):(b.extract 0 nb++a.extract 0 na++a7.reverse).Perm (a++b):=by
 refine Array.Perm.trans ?_ h.done;rw[jN];rw[dv,dv,dv,dv];exact uw _ g_
section
variable {prog:Program} {w:World} {A:Around} {E:Value->Shared->Prop} {s:Shared} {κ:SortKind} {a₀:Array Keyed} {pd:Array (Nat×Nat×Nat)} {ar:Array Keyed} {a b a7:Array Keyed} {na nb mg ac bc n:Nat} {st:SortSt}
def JH(a b:Array Keyed)(n na nb:Nat)(a7:Array Keyed):Prop:=PH a b a7 na nb/\1<=na/\2<=nb/\na<=a.size/\nb<=b.size/\n+na+nb<=a.size+b.size
abbrev GH{ρ:Type}(κ:SortKind)(ar:Array Keyed)(pd:Array (Nat×Nat×Nat))(a b:Array Keyed)(n m:Nat):ForInStep (ES ρ)->SortSt->Prop:=GP κ ar pd (fun x=>x.Perm (a++b)) (fun t=>JH a b n t.1 t.2.1 t.2.2.1) fun t=>JH a b m t.1 t.2.1 t.2.2.1
theorem wU(hB:SM κ ar pd st)(p:PH a b a7 na nb)(la:1<=na)(lb:2<=nb)(ma:na<=a.size)(mb:nb<=b.size)(li:n+na+nb<=a.size+b.size+1):wpS (model prog w) A E s (OG a b na nb a7 mg ac bc) (GH κ ar pd a b n n) st:=by
 refine au (ba (cy a (na-1) (by lia)) ?_);have p:=p.p8 la (show na-1<a.size by lia);refine fZ hB (fun _=>p.done) fun f=>?_;have g:=kS f;have j:JH a b n (na-1) nb (a7.push a[na-1]):=⟨p,by lia,lb,by lia,mb,by lia⟩
 exact⟨j,j⟩
theorem wV(hC:sY prog w A s κ a₀)(ha:∀x∈a.toList,x∈a₀.toList)(hb:∀x∈b.toList,x∈a₀.toList)(hB:SM κ ar pd st)(h:JH a b n na nb a7):wpS (model prog w) A E s (OH a b na nb a7 mg ac bc) (GH κ ar pd a b n n) st:=by
 obtain⟨p,la,lb,ma,mb,li⟩:=h;refine au (ba (cy b (nb-1) (by lia)) ?_);have p:=p.p9 (show 1<=nb by lia) (show nb-1<b.size by lia);split
 .exact dN hB p.first
 next f=>
 have g:nb-1≠1:=by simpa using f
 refine au (ba (cy a (na-1) (by lia)) ?_);refine au (dX hC hB.kind (ha _ (by simp)) hb (by lia) (by lia) fun k hk=>?_);dsimp only;split
 .split
  .exact dN hB (p.yl hk).first
  next f=>
  split
  .exact dN hB (p.yl hk).done
  next f'=>
  have g:k≠1:=by simpa using f
  have g':k≠0:=by simpa using f'
  exact wU hB (p.yl hk) la (by lia) ma (by lia) (by lia)
 .exact wU hB p la (by lia) ma (by lia) (by lia)
theorem C1(hC:sY prog w A s κ a₀)(ha:∀x∈a.toList,x∈a₀.toList)(hb:∀x∈b.toList,x∈a₀.toList)(hB:SM κ ar pd st)(h:JH a b n na nb a7):wpS (model prog w) A E s (OI a b na nb a7 mg ac bc) (GH κ ar pd a b n n) st:=by
 obtain⟨p,la,lb,ma,mb,li⟩:=h;refine au (ei ?_);refine au (ba (cy b (nb-1) (by lia)) ?_);have pe:SM κ ar pd (SortSt.mk' (kindOf st) (arrOf st) (pendingOf st) mg (failedOf st)):=⟨hB.arr,hB.kind,hB.failed,hB.pend⟩
 refine au (dX hC pe.kind (hb _ (by simp)) ha (by lia) (by lia) fun k hk=>?_);dsimp only;split
 .split
  .exact dN pe (p.yk hk).done
  next f=>
  have g:k≠0:=by simpa using f
  exact wV hC ha hb pe ⟨p.yk hk,by lia,lb,by lia,mb,by lia⟩
 .exact wV hC ha hb pe ⟨p,la,lb,ma,mb,li⟩
theorem C2{k:Nat}(hC:sY prog w A s κ a₀)(ha:∀x∈a.toList,x∈a₀.toList)(hb:∀x∈b.toList,x∈a₀.toList)(hB:SM κ ar pd st)(h:JH a b (n+k) na nb a7){q:Nat×Nat}:wpS (model prog w) A E s (Ss a b mg (none,na,nb,a7,q)) (GH κ ar pd a b (n+1) (n+(k+1))) st:=by
 obtain⟨p,la,lb,ma,mb,li⟩:=h;refine au (ba (cy b (nb-1) (by lia)) (au (ba (cy a (na-1) (by lia)) (au (oE hC hB.kind (hb _ (by simp)) (ha _ (by simp)) fun w=>?_)))));cases w
 .refine au (ba (cy b (nb-1) (by lia)) ?_);have p:=p.p9 (show 1<=nb by lia) (show nb-1<b.size by lia);refine fZ hB (fun _=>p.first) fun f=>?_;have g:nb-1≠1:=kS f;have j:JH a b (n+(k+1)) na (nb-1) (a7.push b[nb-1]):=⟨p,la,by lia,ma,by lia,by lia⟩
  exact⟨⟨p,la,j.2.2.1,ma,j.2.2.2.2.1,by have:=j.2.2.2.2.2;dsimp only;lia⟩,j⟩
 .refine au (ba (cy a (na-1) (by lia)) ?_);have p:=p.p8 la (show na-1<a.size by lia);refine fZ hB (fun _=>p.done) fun f=>?_;have g:na-1≠0:=kS f;have j:JH a b (n+(k+1)) (na-1) nb (a7.push a[na-1]):=⟨p,by lia,lb,by lia,mb,by lia⟩
  exact⟨⟨p,j.2.1,lb,j.2.2.2.1,mb,by have:=j.2.2.2.2.2;dsimp only;lia⟩,j⟩
theorem tu{Q:Array Keyed->SortSt->Prop}(hC:sY prog w A s κ a₀)(hB:SM κ ar pd st)(ha:∀x∈a.toList,x∈a₀.toList)(hb:∀x∈b.toList,x∈a₀.toList)(a1:1<=a.size)(b1:1<=b.size)(h:∀a7 aP,a7.Perm (a++b)->SM κ ar pd aP->Q a7 aP):wpS (model prog w) A E s (oC a b) Q st:=by
 rw[tm];refine au (jv (fE ⟨rfl,?_⟩));refine au (ba (cy a (a.size-1) (by lia)) ?_);have p0:PH a b #[a[a.size-1]] (a.size-1) b.size:=by
  have:PH a b #[] a.size b.size:=by unfold PH;simp
  exact this.p8 a1 (by lia)
 split
 .exact aG (h _ _ p0.done hB)
 next f=>
 split
 .exact aG (h _ _ p0.first hB)
 next f'=>
 have g:a.size-1≠0:=by simpa using f
 have g':b.size≠1:=by simpa using f'
 refine wR (J:=JH a b) hB ⟨p0,by lia,by lia,by lia,by lia,by lia⟩ (fun i k x y z h=>⟨h.1,h.2.1,h.2.2.1,h.2.2.2.1,h.2.2.2.2.1,by have:=h.2.2.2.2.2;lia⟩) (fun x y z h=>by have:=h.2;lia) (by lia) (fun mg n k x y z p st m j=>C2 hC ha hb m j) (fun n x y z p st m j=>?_) h;unfold Su;split <;> exact C1 hC ha hb m j
end
section
variable {prog:Program} {w:World} {A:Around} {E:Value->Shared->Prop} {s:Shared} {κ:SortKind} {a₀:Array Keyed} {pd:Array (Nat×Nat×Nat)}
theorem ym{st:SortSt}{lo lH:Nat}{Q:Option Nat->SortSt->Prop}(hC:sY prog w A s κ a₀)(hn:lo+lH<=a₀.size)(h1:1<=lH)(hB:SQ κ a₀ pd st)(h:∀n aP,SQ κ a₀ pd aP->1<=n->n<=lH->Q (some n) aP):wpS (model prog w) A E s (countRun' lo lH) Q st:=by
 rw[countRun'_eq];refine au (cG (dR (I:=fun i c aP=>SQ κ a₀ pd aP/\∃m,c=(none,m)/\m=i) (Q:=fun c aP=>SQ κ a₀ pd aP/\∃m,c=(none,m)/\1<=m/\m<=lH) ?_ ?_ ⟨hB,_,rfl,rfl⟩) ?_)
 .rintro i c ID IE vq ⟨Ap,m,rfl,rfl⟩;dsimp only;refine au (dM hC Ap (by lia) (by lia) fun b1=>?_);cases b1
  .exact aG ⟨Ap,_,rfl,rfl⟩
  .exact aG ⟨Ap,_,rfl,by lia,by lia⟩
 .rintro c ID ⟨Ap,m,rfl,rfl⟩;exact⟨Ap,_,rfl,by lia,by lia⟩
 .rintro c ID ⟨Ap,n,rfl,n1,n2⟩;dsimp only;by_cases e1:(n==lH)=true
  .rw[ak e1];exact aG (h n ID Ap n1 n2)
  rw[ai e1];have g1:¬ (n=lH):=by simpa using e1
  by_cases e2:n > 1
  .rw[ak e2];refine au (dM hC Ap (by lia) (by lia) fun b2=>?_);cases b2
   .dsimp only;rw[ai (by decide)];refine au (eJ Ap fun u9 pe=>?_);refine au (jv (fE ⟨rfl,?_⟩));refine au (cG (dR (I:=fun i c aP=>SQ κ a₀ pd aP/\∃m q,c=(none,m,q)/\m=i) (Q:=fun c aP=>SQ κ a₀ pd aP/\∃m q,c=(none,m,q)/\1<=m/\m<=lH) ?_ ?_ ⟨pe,_,_,rfl,rfl⟩) ?_)
    .rintro i c va IE vq ⟨mx,m,q,rfl,rfl⟩;dsimp only;refine au (dM hC mx (by lia) (by lia) fun b3=>?_);cases b3
     .dsimp only;rw[ai (by decide)];refine au (dM hC mx (by lia) (by lia) fun b4=>?_);cases b4
      .exact aG ⟨mx,_,_,rfl,rfl⟩
      .exact aG ⟨mx,_,_,rfl,by lia,by lia⟩
     .dsimp only;rw[ak rfl];split
      .exact au (eJ mx fun o0 Gf=>aG ⟨Gf,_,_,rfl,rfl⟩)
      .exact aG ⟨mx,_,_,rfl,rfl⟩
    .rintro c va ⟨mx,m,q,rfl,rfl⟩;exact⟨mx,_,_,rfl,by lia,by lia⟩
    .rintro c va ⟨mx,m,q,rfl,m1,m2⟩;dsimp only;split
     .refine au (eJ mx fun o0 Gf=>?_);refine au (eJ Gf fun r9 Gg=>?_);refine au (cG (dR (I:=fun i c aP=>SQ κ a₀ pd aP/\∃m,c=(none,m)/\m=i) (Q:=fun c aP=>SQ κ a₀ pd aP/\∃m,c=(none,m)/\1<=m/\m<=lH) ?_ ?_ ⟨Gg,_,rfl,rfl⟩) ?_)
      .rintro i c vE IE vq ⟨jG,m,rfl,rfl⟩;dsimp only;refine au (dM hC jG (by lia) (by lia) fun b6=>?_);cases b6
       .exact aG ⟨jG,_,rfl,rfl⟩
       .exact aG ⟨jG,_,rfl,by lia,by lia⟩
      .rintro c vE ⟨jG,m,rfl,rfl⟩;exact⟨jG,_,rfl,by lia,by lia⟩
      .rintro c vE ⟨jG,m,rfl,h1,h2⟩;exact aG (h m vE jG h1 h2)
     .refine au (eJ mx fun r9 Gg=>?_);refine au (cG (dR (I:=fun i c aP=>SQ κ a₀ pd aP/\∃m,c=(none,m)/\m=i) (Q:=fun c aP=>SQ κ a₀ pd aP/\∃m,c=(none,m)/\1<=m/\m<=lH) ?_ ?_ ⟨Gg,_,rfl,rfl⟩) ?_)
      .rintro i c vE IE vq ⟨jG,m,rfl,rfl⟩;dsimp only;refine au (dM hC jG (by lia) (by lia) fun b6=>?_);cases b6
       .exact aG ⟨jG,_,rfl,rfl⟩
       .exact aG ⟨jG,_,rfl,by lia,by lia⟩
      .rintro c vE ⟨jG,m,rfl,rfl⟩;exact⟨jG,_,rfl,by lia,by lia⟩
      .rintro c vE ⟨jG,m,rfl,h1,h2⟩;exact aG (h m vE jG h1 h2)
   .exact aG (h n ID Ap n1 n2)
  .rw[ai e2];have pe:=Ap;refine au (jv (fE ⟨rfl,?_⟩));refine au (cG (dR (I:=fun i c aP=>SQ κ a₀ pd aP/\∃m q,c=(none,m,q)/\m=i) (Q:=fun c aP=>SQ κ a₀ pd aP/\∃m q,c=(none,m,q)/\1<=m/\m<=lH) ?_ ?_ ⟨pe,_,_,rfl,rfl⟩) ?_)
   .rintro i c va IE vq ⟨mx,m,q,rfl,rfl⟩;dsimp only;refine au (dM hC mx (by lia) (by lia) fun b3=>?_);cases b3
    .dsimp only;rw[ai (by decide)];refine au (dM hC mx (by lia) (by lia) fun b4=>?_);cases b4
     .exact aG ⟨mx,_,_,rfl,rfl⟩
     .exact aG ⟨mx,_,_,rfl,by lia,by lia⟩
    .dsimp only;rw[ak rfl];split
     .exact au (eJ mx fun o0 Gf=>aG ⟨Gf,_,_,rfl,rfl⟩)
     .exact aG ⟨mx,_,_,rfl,rfl⟩
   .rintro c va ⟨mx,m,q,rfl,rfl⟩;exact⟨mx,_,_,rfl,by lia,by lia⟩
   .rintro c va ⟨mx,m,q,rfl,m1,m2⟩;dsimp only;split
    .refine au (eJ mx fun o0 Gf=>?_);refine au (eJ Gf fun r9 Gg=>?_);refine au (cG (dR (I:=fun i c aP=>SQ κ a₀ pd aP/\∃m,c=(none,m)/\m=i) (Q:=fun c aP=>SQ κ a₀ pd aP/\∃m,c=(none,m)/\1<=m/\m<=lH) ?_ ?_ ⟨Gg,_,rfl,rfl⟩) ?_)
     .rintro i c vE IE vq ⟨jG,m,rfl,rfl⟩;dsimp only;refine au (dM hC jG (by lia) (by lia) fun b6=>?_);cases b6
      .exact aG ⟨jG,_,rfl,rfl⟩
      .exact aG ⟨jG,_,rfl,by lia,by lia⟩
     .rintro c vE ⟨jG,m,rfl,rfl⟩;exact⟨jG,_,rfl,by lia,by lia⟩
     .rintro c vE ⟨jG,m,rfl,h1,h2⟩;exact aG (h m vE jG h1 h2)
    .refine au (eJ mx fun r9 Gg=>?_);refine au (cG (dR (I:=fun i c aP=>SQ κ a₀ pd aP/\∃m,c=(none,m)/\m=i) (Q:=fun c aP=>SQ κ a₀ pd aP/\∃m,c=(none,m)/\1<=m/\m<=lH) ?_ ?_ ⟨Gg,_,rfl,rfl⟩) ?_)
     .rintro i c vE IE vq ⟨jG,m,rfl,rfl⟩;dsimp only;refine au (dM hC jG (by lia) (by lia) fun b6=>?_);cases b6
      .exact aG ⟨jG,_,rfl,rfl⟩
      .exact aG ⟨jG,_,rfl,by lia,by lia⟩
     .rintro c vE ⟨jG,m,rfl,rfl⟩;exact⟨jG,_,rfl,by lia,by lia⟩
     .rintro c vE ⟨jG,m,rfl,h1,h2⟩;exact aG (h m vE jG h1 h2)
end
abbrev IF:=Nat×Nat×Nat
def f8:List IF->Nat->Nat->Prop
 |[],s,e=>s=e
 |r::rs,s,e=>r.1=s/\1<=r.2.1/\f8 rs (s+r.2.1) e
theorem f8.le:∀ {l:List IF} {s e:Nat},f8 l s e->s<=e
 |[],_,_,h=>qN h
 |r::rs,s,e,⟨_,h2,h3⟩=>by have:=h3.le;lia
theorem f8.two:∀ {l:List IF} {s e i:Nat} {x y:IF},f8 l s e->l[i]?=some x->l[i+1]?=some y->
  x.1+x.2.1=y.1/\y.1+y.2.1<=e/\1<=x.2.1/\1<=y.2.1/\∀p,f8 ((l.set i (x.1,x.2.1+y.2.1,p)).eraseIdx (i+1)) s e
 |r::q::rs,s,e,0,x,y,⟨h1,h2,h3,h4,h5⟩,hx,hy=>by
  obtain rfl:=bA hx;obtain rfl:=bA hy;have:=h5.le;refine⟨by lia,by lia,h2,h4,fun p=>⟨h1,by show 1<=r.2.1+q.2.1;lia,?_⟩⟩;show f8 rs (s+(r.2.1+q.2.1)) e;rw[<-nW];exact h5
 |r::rs,s,e,i+1,x,y,⟨h1,h2,h3⟩,hx,hy=>by
  obtain⟨a1,a2,a3,a4,a5⟩:=f8.two (i:=i) h3 hx hy;exact⟨a1,a2,a3,a4,fun p=>⟨h1,h2,a5 p⟩⟩
theorem f8.push:∀ {l:List IF} {s e n p:Nat},f8 l s e->1<=n->f8 (l++[(e,n,p)]) s (e+n)
 |[],s,e,n,p,h,hn=>⟨h.symm,hn,by rw[h];rfl⟩
 |r::rs,s,e,n,p,⟨h1,h2,h3⟩,hn=>⟨h1,h2,f8.push h3 hn⟩
theorem f8.pw:∀ {l:List IF} {s e:Nat} (i p:Nat),f8 l s e->f8 (l.modify i fun r=>(r.1,r.2.1,p)) s e
 |[],s,e,i,p,h=>by cases i <;> exact h
 |r::rs,s,e,0,p,⟨h1,h2,h3⟩=>⟨h1,h2,h3⟩
 |r::rs,s,e,i+1,p,⟨h1,h2,h3⟩=>⟨h1,h2,f8.pw i p h3⟩
theorem C3{M:Model}{A:Around}{E:Value->Shared->Prop}{s:Shared}{σ:Type}{x:σ}{Q:PUnit->σ->Prop}{st:σ}(h:Q ⟨⟩ x):wpS M A E s (set x:StateT σ Sem PUnit) Q st:=by
 unfold wpS;rw[StateT.run_set];exact wpAny_pure ⟨rfl,h⟩
theorem tD(i:Nat):mergeAt' i=(do
 let s <- get
 let (some (sa,na,Kj),some (sb,nb,_)):=((pendingOf s)[i]?,(pendingOf s)[i+1]?)|unsupported "internal:list.sort.pending"
 set (setPending s (((pendingOf s).setIfInBounds i (sa,na+nb,Kj)).eraseIdxIfInBounds (i+1)))
 let some k <- fw false (<-elem' (arrOf s) sb) (arrOf s) sa na 0|return false
 let (sa,na):=(sa+k,na-k)
 if na==0 then return true
 let some nb <- fw true (<-elem' (arrOf s) (sa+na-1)) (arrOf s) sb nb (nb-1)|return false
 if nb==0 then return true
 let x:=(arrOf s).extract sa sb
 let y:=(arrOf s).extract sb (sb+nb)
 let merged <- if na<=nb then oB x y else oC x y
 modify fun s=>setArr s (merged.toList.zipIdx.foldl (fun a (p,j)=>a.setIfInBounds (sa+j) p) (arrOf s))
 return (failedOf (<-get)).isNone):=rfl
theorem oG{sa:Nat}:∀ (l:List Keyed) (k:Nat) (arr:Array Keyed),sa+k+l.length<=arr.size->
  ((l.zipIdx k).foldl (fun (a:Array Keyed) (x:Keyed×Nat)=>a.setIfInBounds (sa+x.2) x.1) arr).toList=arr.toList.take (sa+k)++l++arr.toList.drop (sa+k+l.length)
 |[],k,arr,_=>by simp
 |x::l,k,arr,h=>by
  rw[c_] at h;have hs:sa+k<arr.toList.length:=by rw[kN];lia
  rw[uU,qE,oG l (k+1) _ (by rw[Array.size_setIfInBounds];lia),zd];dsimp only;have e1:(arr.toList.set (sa+k) x).take (sa+(k+1))=arr.toList.take (sa+k)++[x]:=by
   rw[<-nW,d7,nE hs,List.take_set_of_le (aF _)];rfl
  have e2:(arr.toList.set (sa+k) x).drop (sa+(k+1)+l.length)=arr.toList.drop (sa+k+(x::l).length):=by
   rw[List.drop_set_of_lt (by lia),c_];congr 1;lia
  rw[e1,e2,cx,cx,cx];rfl
section
variable {prog:Program} {w:World} {A:Around} {E:Value->Shared->Prop} {s:Shared} {κ:SortKind} {a₀:Array Keyed}
def SR(κ:SortKind)(a₀:Array Keyed)(lo:Nat)(st:SortSt):Prop:=∃pd,SQ κ a₀ pd st/\f8 pd.toList 0 lo/\lo<=a₀.size
theorem iH{st:SortSt}{i lo:Nat}{Q:Bool->SortSt->Prop}(hC:sY prog w A s κ a₀)(hB:SR κ a₀ lo st)(hi:i+1<(pendingOf st).size)(h:∀aP,SR κ a₀ lo aP->Q true aP):wpS (model prog w) A E s (mergeAt' i) Q st:=by
 obtain⟨pd,hq,hr,MI⟩:=hB;rw[hq.pend] at hi;rw[tD];refine au (eV ?_);have e1:pd[i]?=some pd[i]:=cy pd i (by lia);have e2:pd[i+1]?=some pd[i+1]:=cy pd (i+1) hi;obtain⟨a1,a2,a3,a4,a5⟩:=hr.two (i:=i) (x:=pd[i]) (y:=pd[i+1]) (by simpa using e1) (by simpa using e2);rw[hq.pend,e1,e2];revert a1 a2 a3 a4 a5;generalize pd[i]=x;generalize pd[i+1]=y;obtain⟨sa,na,pw⟩:=x;obtain⟨sb,nb,Xa⟩:=y;intro a1 a2 a3 a4 a5;dsimp only at a1 a2 a3 a4 a5 |-;obtain⟨C4,Kk⟩:∃C4,C4=(pd.setIfInBounds i (sa,na+nb,pw)).eraseIdxIfInBounds (i+1):=⟨_,rfl⟩
 have wz:f8 C4.toList 0 lo:=by
  rw[Kk,Array.toList_eraseIdxIfInBounds,zd];exact a5 pw
 refine au (C3 ?_);rw[<-Kk];have EH:SM κ (arrOf st) C4 (setPending st C4):=⟨rfl,hq.kind,hq.failed,rfl⟩
 have hsz:=hq.size;have pY:∀x∈(arrOf st).toList,x∈a₀.toList:=fun x hx=>(jN.mp hq.perm).mem_iff.mp hx;have dB:∀aP,SM κ (arrOf st) C4 aP->SR κ a₀ lo aP:=fun aP m=>⟨C4,⟨by rw[m.arr];exact hq.perm,m.kind,m.failed,m.pend⟩,wz,MI⟩
 refine au (ba (cy (arrOf st) sb (by lia)) ?_);refine au (dX hC EH.kind (pY _ (by simp)) pY (by lia) (by lia) fun k hk=>?_);dsimp only;by_cases f1:(na-k==0)=true
 .rw[ak f1];exact aG (h _ (dB _ EH))
 rw[ai f1];have g1:¬ (na-k=0):=by simpa using f1
 refine au (ba (cy (arrOf st) (sa+k+(na-k)-1) (by lia)) ?_);refine au (dX hC EH.kind (pY _ (by simp)) pY (by lia) (by lia) fun k2 U8=>?_);dsimp only;by_cases f2:(k2==0)=true
 .rw[ak f2];exact aG (h _ (dB _ EH))
 rw[ai f2];have g2:¬ (k2=0):=by simpa using f2
 have hx:∀x∈((arrOf st).extract (sa+k) sb).toList,x∈a₀.toList:=fun x hx=>pY x (by rw[cV] at hx;exact qm (ny hx));have hy:∀x∈((arrOf st).extract sb (sb+k2)).toList,x∈a₀.toList:=fun x hx=>pY x (by rw[cV] at hx;exact qm (ny hx));have sx:((arrOf st).extract (sa+k) sb).size=sb-(sa+k):=by rw[Array.size_extract];lia
 have sy:((arrOf st).extract sb (sb+k2)).size=k2:=by rw[Array.size_extract];lia
 have last:∀ (a7:Array Keyed) (aP:SortSt),a7.Perm ((arrOf st).extract (sa+k) sb++(arrOf st).extract sb (sb+k2))->SM κ (arrOf st) C4 aP->wpS (model prog w) A E s (do
   modify fun s=>setArr s (a7.toList.zipIdx.foldl (fun a (p,j)=>a.setIfInBounds (sa+k+j) p) (arrOf s))
   return (failedOf (<-get)).isNone) Q aP:=by
  intro a7 aP hp m;refine au (ei ?_);refine au (eV (aG ?_));have Sv:a7.toList.length=sb-(sa+k)+k2:=by
   rw[kN,hp.size_eq,Array.size_append,sx,sy]
  have wl:=oG (sa:=sa+k) a7.toList 0 (arrOf aP) (by rw[m.arr,Sv];lia);have pm:(a7.toList.zipIdx.foldl (fun a (p,j)=>a.setIfInBounds (sa+k+j) p) (arrOf aP)).Perm (arrOf st):=by
   rw[jN];refine(qF wl).trans ?_;rw[m.arr,Sv,Nat.add_zero];have IA:=jN.mp hp;rw[dv,cV,cV] at IA;refine((IA.append_left _).append_right _).trans ?_;have e1:(arrOf st).toList.drop (sa+k)=((arrOf st).toList.drop (sa+k)).take (sb-(sa+k))++(arrOf st).toList.drop sb:=kg (by lia);have e2:(arrOf st).toList.drop sb=((arrOf st).toList.drop sb).take (sb+k2-sb)++(arrOf st).toList.drop (sb+k2):=kg (by lia);have e3:sa+k+(sb-(sa+k)+k2)=sb+k2:=by lia
   rw[e3];refine qF ?_;conv=>rhs;rw[<-kM (sa+k) (arrOf st).toList,e1,e2]
   simp only[cx]
  have hf:(failedOf aP).isNone=true:=by rw[m.failed];rfl
  show Q (failedOf aP).isNone _;rw[hf];exact h _ ⟨C4,⟨pm.trans hq.perm,m.kind,m.failed,m.pend⟩,wz,MI⟩
 by_cases f3:na-k<=k2
 .rw[ak f3];exact au (tj hC EH hx hy (by lia) (by lia) fun a7 aP hp m=>last a7 aP hp m)
 .rw[ai f3];exact au (tu hC EH hx hy (by lia) (by lia) fun a7 aP hp m=>last a7 aP hp m)
theorem tE{c:Prop}[Decidable c]{x:Nat}:(if c then x-1 else x)<=x:=by split <;> lia
theorem SR.pw{lo:Nat}{st:SortSt}(h:SR κ a₀ lo st)(i p:Nat):SR κ a₀ lo (setPending st ((pendingOf st).modify i fun r=>(r.1,r.2.1,p))):=by
 obtain⟨pd,hq,hr,hl⟩:=h;refine⟨_,⟨hq.perm,hq.kind,hq.failed,rfl⟩,?_,hl⟩;show f8 ((pendingOf st).modify i fun r=>(r.1,r.2.1,p)).toList 0 lo;rw[hq.pend,Array.toList_modify];exact hr.pw i p
theorem SR.push{lo n:Nat}{st:SortSt}(h:SR κ a₀ lo st)(h1:1<=n)(hn:lo+n<=a₀.size):SR κ a₀ (lo+n) (setPending st ((pendingOf st).push (lo,n,0))):=by
 obtain⟨pd,hq,hr,hl⟩:=h;refine⟨_,⟨hq.perm,hq.kind,hq.failed,rfl⟩,?_,hn⟩;show f8 ((pendingOf st).push (lo,n,0)).toList 0 (lo+n);rw[hq.pend,kQ];exact hr.push h1
theorem yn{st:SortSt}{Q:Unit->SortSt->Prop}(hC:sY prog w A s κ a₀)(hp:(arrOf st).Perm a₀)(hk:kindOf st=κ)(hf:failedOf st=none)(U9:pendingOf st=#[])(h:∀aP,(arrOf aP).Perm a₀->failedOf aP=none->Q () aP):wpS (model prog w) A E s sortRuns' Q st:=by
 have h0:SR κ a₀ 0 st:=⟨#[],⟨hp,hk,hf,U9⟩,rfl,cE _⟩
 have hsz:(arrOf st).size=a₀.size:=hp.size_eq;rw[sortRuns'_eq];refine au (eV ?_);dsimp only;rw[hsz];refine au (cG (dR (I:=fun _ c aP=>∃lo,c=(none,lo)/\SR κ a₀ lo aP) (Q:=fun c aP=>∃lo,c=(none,lo)/\SR κ a₀ lo aP) ?_ (fun c aP hh=>hh) ⟨0,rfl,h0⟩) ?_)
 .rintro i c ID _ _ ⟨lo,rfl,hR⟩;dsimp only;by_cases e1:lo>=a₀.size
  .rw[ak e1];exact aG ⟨lo,rfl,hR⟩
  rw[ai e1];have MI:lo<a₀.size:=by lia
  obtain⟨pd,hq,hr,hl⟩:=hR;refine au (ym hC (by lia) (by lia) hq fun n u9 MM n1 n2=>?_);dsimp only;by_cases hm:n<minRun' a₀.size a₀.size 0
  .rw[ak hm];refine au (jv (fE ⟨rfl,?_⟩));refine au (CY hC (by lia) MM fun va R5=>?_);simp only[qL,kP,ip];have tG:SR κ a₀ lo va:=⟨pd,R5,hr,hl⟩
   refine au (eV ?_);cases hb:(pendingOf va).back? with
   |none=>
    dsimp only;exact au (ei (aG ⟨_,rfl,tG.push (by lia) (by lia)⟩))
   |some r=>
    obtain⟨s1,U_,Va⟩:=r;dsimp only;refine au (cG (dR (I:=fun _ c aP=>c=(none,())/\SR κ a₀ lo aP) (Q:=fun c aP=>c=(none,())/\SR κ a₀ lo aP) ?_ (fun c aP hh=>hh) ⟨rfl,tG⟩) ?_)
    .rintro x c o0 _ _ ⟨rfl,tI⟩;refine au (eV ?_);by_cases hs:(pendingOf o0).size > 1
     .rw[ak hs,cy (pendingOf o0) ((pendingOf o0).size-2) (by lia)];generalize (pendingOf o0)[(pendingOf o0).size-2]=r4;obtain⟨_,_,Kl⟩:=r4;dsimp only;split
      .exact aG ⟨rfl,tI⟩
      .refine au (iH hC tI (by lia) fun r9 Km=>?_);simp only[qL,kP,ip];exact aG ⟨rfl,Km⟩
     .rw[ai hs];exact aG ⟨rfl,tI⟩
    .rintro c o0 ⟨rfl,tI⟩;dsimp only;exact au (ei (au (ei (aG ⟨_,rfl,(tI.pw _ _).push (by lia) (by lia)⟩))))
  .rw[ai hm];have tG:SR κ a₀ lo u9:=⟨pd,MM,hr,hl⟩
   refine au (eV ?_);cases hb:(pendingOf u9).back? with
   |none=>
    dsimp only;exact au (ei (aG ⟨_,rfl,tG.push (by lia) (by lia)⟩))
   |some r=>
    obtain⟨s1,U_,Va⟩:=r;dsimp only;refine au (cG (dR (I:=fun _ c aP=>c=(none,())/\SR κ a₀ lo aP) (Q:=fun c aP=>c=(none,())/\SR κ a₀ lo aP) ?_ (fun c aP hh=>hh) ⟨rfl,tG⟩) ?_)
    .rintro x c o0 _ _ ⟨rfl,tI⟩;refine au (eV ?_);by_cases hs:(pendingOf o0).size > 1
     .rw[ak hs,cy (pendingOf o0) ((pendingOf o0).size-2) (by lia)];generalize (pendingOf o0)[(pendingOf o0).size-2]=r4;obtain⟨_,_,Kl⟩:=r4;dsimp only;split
      .exact aG ⟨rfl,tI⟩
      .refine au (iH hC tI (by lia) fun r9 Km=>?_);simp only[qL,kP,ip];exact aG ⟨rfl,Km⟩
     .rw[ai hs];exact aG ⟨rfl,tI⟩
    .rintro c o0 ⟨rfl,tI⟩;dsimp only;exact au (ei (au (ei (aG ⟨_,rfl,(tI.pw _ _).push (by lia) (by lia)⟩))))
 .rintro c ID ⟨lo,rfl,hR⟩;dsimp only;refine au (cG (dR (I:=fun _ c aP=>c=(none,())/\SR κ a₀ lo aP) (Q:=fun c aP=>c=(none,())/\SR κ a₀ lo aP) ?_ (fun c aP hh=>hh) ⟨rfl,hR⟩) ?_)
  .rintro x c o0 _ _ ⟨rfl,tI⟩;refine au (eV ?_);by_cases hs:(pendingOf o0).size<=1
   .rw[ak hs];exact aG ⟨rfl,tI⟩
   rw[ai hs];refine au (iH hC tI ?_ fun r9 Km=>?_)
   .exact cZ (uS tE) (show (pendingOf o0).size-2+1<(pendingOf o0).size by lia)
   .simp only[qL,kP,ip];exact aG ⟨rfl,Km⟩
  .rintro c o0 ⟨rfl,pd,hq,_⟩;exact aG (h _ hq.perm hq.failed)
end
end PyProof.Rows
namespace L2
open PySem PySem.Spec PyProof.Rows PySem.W
def gC(h:Heap)(vs:List Value):Prop:=∀v∈vs,∃a o n x t y u,v=Value.ref a/\h.get? a=some o/\o.cls=.type "tuple"/\o.data=.seq #[.int x t,.int y u] n
theorem gC.gj{h:Heap}:∀ {vs:List Value},gC h vs->∃fs,KatTups h vs fs/\fs.length=vs.length/\∀v∈fs,∃n t,v=Value.int n t
 |[],_=>⟨[],trivial,rfl,fun v hv=>nomatch hv⟩
 |v::vs,hp=>by
  obtain⟨fs,k1,k2,k3⟩:=gC.gj (vs:=vs) fun b hb=>hp b (bV _ hb);obtain⟨a,o,n,x,t,y,u,rfl,e,c,d⟩:=hp v b_;refine⟨.int x t::fs,KatTups.cons e c d rfl k1,by simp[k2],fun v hv=>?_⟩;rcases aS.mp hv with z|z
  .exact⟨x,t,z⟩
  .exact k3 v z
section
variable {prog:Program} {w:World} {A:Around} {E:Value->Shared->Prop} {s:Shared}
theorem yo{vs:List Value}(hp:gC s.heap vs):sY prog w A s (tuples' true) (vs.toArray.zip vs.toArray):=by
 have mem:∀x∈(vs.toArray.zip vs.toArray).toList,x.1∈vs:=by
  intro x hx;rw[Array.toList_zip] at hx;exact(kT hx).1
 intro x y hx hy Q E' q;obtain⟨a,o,n,x1,t1,x2,t2,e1,eo,_,ed⟩:=hp x.1 (mem x hx);obtain⟨b,o',n',y1,u1,y2,u2,e2,Vb,_,Vc⟩:=hp y.1 (mem y hy);rw[e1,e2];refine kat_lt eo ed Vb Vc (kat_cons (uZ ?_));by_cases h1:x1=y1
 .rw[eS.mpr h1];refine kat_yes (kat_cons (uZ ?_));by_cases h2:x2=y2
  .rw[eS.mpr h2];exact kat_yes (kat_nil (q _))
  .rw[nA.mpr h2];exact kat_no (kat_one _ _ (lt_int (q _)))
 .rw[nA.mpr h1];exact kat_no (oneLt_int (q _))
theorem C5{vs:List Value}:((vs.toArray.zip vs.toArray).map (·.2)).toList=vs:=by
 rw[qy,Array.toList_zip];show (vs.zip vs).map (·.2)=vs;rw[<-List.unzip_snd,List.unzip_zip_right (aF _)]
theorem mz{a:Addr}{vs:List Value}{n:Nat}{P:PySem.Fin->Shared->Prop}(ho:s.heap.get? a=some (seqObj "list" vs.toArray n))(hp:gC s.heap vs)(hz:vs.length<=4096)(h:∀ (a7:Array Value),a7.toList.Perm vs->P (.done (.ret .none)) { s with heap:=sortedHeap s.heap a vs a7 }):
  wpAny (model prog w) A (Builtin.«list.sort» ⟨[.ref a],[]⟩) P E s:=by
 rw[list_sort_plain];have ha:a<s.heap.objs.size:=aH ho;have Ix:vs.toArray.size<=sizeLine:=by rw[cw,im];lia
 refine aw (listItems_at ho rfl ?_);refine aw (listUpdate_at ho rfl ?_ Ix (cE _));obtain⟨e1,MW⟩:∃e1,(s.heap.update a (Obj.mapSeq fun _=>#[])).get? a=some (seqObj "list" #[] e1):=⟨_,get?_update_seq ho (fun _=>#[])⟩
 refine aw (seqEpoch_at MW rfl ?_);refine aw (wpAny_newTuple ?_ (by show vs.length<=_;rw[im];lia));refine aw (wpAny_newList ?_ (cE _));refine ij ?_;have ET:(((s.heap.update a (Obj.mapSeq fun _=>#[])).push (seqObj "tuple" vs.toArray 0)).push (seqObj "list" #[] 0)).get? a=some (seqObj "list" #[] e1):=by
  rw[gQ _ _ _ (by rw[ju,i8];exact aU (dC ha)),gQ _ _ _ (by rw[i8];exact aU ha)];exact MW
 have Sw:gC (((s.heap.update a (Obj.mapSeq fun _=>#[])).push (seqObj "tuple" vs.toArray 0)).push (seqObj "list" #[] 0)) vs:=by
  intro v hv;obtain⟨b,o,n,x,t,y,u,ev,e,c,d⟩:=hp v hv;have hb:b<s.heap.objs.size:=aH e;have jB:b≠a:=by
   rintro rfl;rw[ho] at e;cases e;exact absurd (Value.type.inj c) (by decide)
  refine⟨b,o,n,x,t,y,u,ev,?_,c,d⟩;rw[gQ _ _ _ (by rw[ju,i8];exact aU (dC hb)),gQ _ _ _ (by rw[i8];exact aU hb),nI _ _ _ _ jB];exact e
 show wpAny (model prog w) A _ P E { s with heap:=((s.heap.update a (Obj.mapSeq fun _=>#[])).push (seqObj "tuple" vs.toArray 0)).push (seqObj "list" #[] 0) };dsimp only;have dB:∀aP:SortSt,(arrOf aP).Perm (vs.toArray.zip vs.toArray)->P (.done (.ret .none)) { s with heap:=sortedHeap s.heap a vs ((arrOf aP).map (·.2)) }:=by
  intro aP MX;refine h _ ?_;have:=(jN.mp MX).map (·.2);rw[<-qy,<-qy,C5] at this;exact this
 have Sx:(vs.toArray.zip vs.toArray).size=vs.length:=by simp
 by_cases h2:vs.toArray.size<2
 .rw[ak h2,ak h2];refine aw (wpAny_pure ?_);rw[StateT.run_pure];refine aw (wpAny_pure ?_);dsimp only;refine aw (seqEpoch_at ET rfl ?_);refine aw (listUpdate_at ET rfl ?_ (cE _) (by show ((vs.toArray.zip vs.toArray).map (·.2)).size<=_;rw[gf,Sx,im];lia));simp only[bne_self_eq_false,kP,ip];exact wpAny_pure (dB (SortSt.mk' general' (vs.toArray.zip vs.toArray) #[] 7 none) (Array.Perm.refl _))
 .rw[ai h2,ai h2];have dq:2<=vs.length:=by rw[cw] at h2;lia
  obtain⟨fs,k1,k2,k3⟩:=Sw.gj;refine aw (kat_kind (T:=.type "int") k1 (by lia) (fun v hv=>?_) rfl ?_)
  .obtain⟨m,t,rfl⟩:=k3 v hv;exact .now
  refine aw (io (yn (a₀:=vs.toArray.zip vs.toArray) (κ:=tuples' true) (st:=SortSt.mk' (tuples' true) (vs.toArray.zip vs.toArray) #[] 7 none)
   (Q:=fun _ aP=>(arrOf aP).Perm (vs.toArray.zip vs.toArray)/\failedOf aP=none) (yo Sw) (Array.Perm.refl _) rfl rfl rfl fun aP b1 b2=>⟨b1,b2⟩) ?_ fun _ _ e=>e)
  rintro⟨⟨⟩,aP⟩ s' ⟨rfl,MX,hf⟩;dsimp only;refine aw (seqEpoch_at ET rfl ?_);refine aw (listUpdate_at ET rfl ?_ (cE _) (by refine bn (qN ((gf ..).trans (MX.size_eq.trans Sx))) ?_;rw[im];lia));rw[hf];simp only[bne_self_eq_false,kP,ip];exact wpAny_pure (dB aP MX)
theorem rh{l:Addr}{vs:List Value}{Q:Value->Shared->Prop}(hl:s.heap.IsList l vs.toArray)(hp:gC s.heap vs)(hz:vs.length<=4096)(h:∀ (a7:Array Value),a7.toList.Perm vs->Q (.ref (s.heap.objs.size+1)) { s with heap:=sortedAll s.heap vs a7 }):
  wpAny (model prog w) A (call (.builtin "sorted") [.ref l]) Q E s:=by
 have Ix:vs.length<=sizeLine:=by rw[im];lia
 refine Calls.call_function_entry kind_sorted plain_sorted entry_sorted (args_sorted1 _) ?_;unfold Builtin.«sorted»;refine aw (m:=checkCount "sorted" 1 1 _) (wpAny_pure ?_);refine aw (collect_list hl ?_ Ix);refine aw (wpAny_newList ?_ Ix);have hsz:((s.heap.push (seqObj "list" #[] 0)).update s.heap.objs.size (Obj.mapSeq (·++vs.toArray))).objs.size=s.heap.objs.size+1:=by
  rw[i8,ju]
 have Eu:(((s.heap.push (seqObj "list" #[] 0)).update s.heap.objs.size (Obj.mapSeq (·++vs.toArray))).push (seqObj "list" vs.toArray 0)).get? (s.heap.objs.size+1)=some (seqObj "list" vs.toArray 0):=by
  rw[<-hsz];exact cm _ rfl
 have Vd:gC (((s.heap.push (seqObj "list" #[] 0)).update s.heap.objs.size (Obj.mapSeq (·++vs.toArray))).push (seqObj "list" vs.toArray 0)) vs:=by
  intro v hv;obtain⟨b,o,n,x,t,y,u,ev,e,c,d⟩:=hp v hv;have hb:b<s.heap.objs.size:=aH e;refine⟨b,o,n,x,t,y,u,ev,?_,c,d⟩;rw[gQ _ _ _ (by rw[hsz];exact aU (dC hb)),nI _ _ _ _ (aU hb),gQ _ _ _ (aU hb)];exact e
 show wpAny _ _ _ _ _ { s with heap:=((s.heap.push (seqObj "list" #[] 0)).update s.heap.objs.size (Obj.mapSeq (·++vs.toArray))).push (seqObj "list" vs.toArray 0) };rw[hsz];refine aw (ij (kW slot_list_sort ⟨_,Eu,rfl⟩ entry_list_sort (mz Eu Vd hz fun a7 a1=>⟨_,rfl,?_⟩) (args_list_sort _)));exact wpAny_pure ⟨_,rfl,h a7 a1⟩
end
theorem oH:∀ {as:List Addr} {its:List Value},aZ (as.map V.ref) its->its=as.map Value.ref
 |[],_,r=>by cases r;rfl
 |a::as,_,r=>by
  cases r with
  |cons r rr=>
   obtain rfl:=(show _=Value.ref a from r)
   rw[oH rr];rfl
theorem p_:∀ {as:List Addr},aZ (as.map V.ref) (as.map Value.ref)
 |[]=>.nil
 |_::_=>.cons rfl p_
theorem yp{as:List Addr}{vs:List Value}(h:vs.Perm (as.map Value.ref)):∃uj:List Addr,vs=uj.map Value.ref/\uj.Perm as:=by
 let un:Value->Addr:=fun v=>match v with|.ref a=>a|_=>0
 refine⟨vs.map un,?_,?_⟩
 .rw[gW];have:∀v∈vs,(Value.ref ∘ un) v=v:=by
   intro v hv;obtain⟨a,_,rfl⟩:=bQ.mp (h.mem_iff.mp hv);rfl
  conv=>lhs;rw[<-il vs]
  exact jQ fun v hv=>(this v hv).symm
 .have:=h.map un;rw[gW] at this;have e:as.map (un ∘ Value.ref)=as:=by
   conv=>rhs;rw[<-il as]
   exact jQ fun a _=>rfl
  rw[e] at this;exact this
def Aq(K:PySem.W.Frag):List V->Hp->VK->Prop:=fun xs H Q=>∃ (l:Addr) (as:List Addr),xs=[.ref l]/\a_ K H l (as.map V.ref)/\(∀a∈as,∃x y:Int,be K H a [.int x,.int y])/\as.length<=4096/\
 ∀ (D:Addr) (uj:List Addr),H D=none->uj.Perm as->Q (.ref D) (upd H D (.lst (uj.map V.ref)))
theorem vF{X:Cx}:fu X (.builtin "sorted") (Aq X.K):=by
 intro ae s σ H xs us Q I r h;obtain⟨l,as,rfl,hl,hp,hz,q⟩:=h;obtain⟨u1,rfl,r1⟩:=r.one;obtain rfl:u1=Value.ref l:=r1;obtain⟨its,rv,pl,_⟩:=I.list hl;have z8:=oH rv;subst z8;have Ve:gC s.heap (as.map Value.ref):=by
  intro v hv;obtain⟨a,ha,rfl⟩:=bQ.mp hv;obtain⟨x,y,EU⟩:=hp a ha;obtain⟨its,r,⟨o,e,c,n,d⟩,_⟩:=I.tuple EU;obtain⟨u1,u2,rfl,r1,r2⟩:=r.two;obtain⟨t,rfl⟩:=r1;obtain⟨t',rfl⟩:=r2;exact⟨a,o,n,x,t,y,t',rfl,e,c,d⟩
 refine rh pl.isList Ve (by rw[aI];exact hz) fun a7 Kn=>?_;obtain⟨uj,eo,pa⟩:=yp Kn;have yc:a7=(uj.map Value.ref).toArray:=by rw[<-eo]
 subst yc;have OJ:((s.heap.push (seqObj "list" #[] 0)).update s.heap.objs.size (Obj.mapSeq (·++(as.map Value.ref).toArray))).objs.size=s.heap.objs.size+1:=by rw[i8,ju]
 have k1:∀b u,s.heap.get? b=some u->(((s.heap.push (seqObj "list" #[] 0)).update s.heap.objs.size (Obj.mapSeq (·++(as.map Value.ref).toArray))).push (seqObj "list" (as.map Value.ref).toArray 0)).get? b=some u:=fun b u e=>by
  have hb:b<s.heap.objs.size:=aH e;rw[gQ _ _ _ (by rw[OJ];exact aU (dC hb)),nI _ _ _ _ (aU hb),gQ _ _ _ (aU hb)];exact e
 have Eu:(((s.heap.push (seqObj "list" #[] 0)).update s.heap.objs.size (Obj.mapSeq (·++(as.map Value.ref).toArray))).push (seqObj "list" (as.map Value.ref).toArray 0)).get? (s.heap.objs.size+1)=some (seqObj "list" (as.map Value.ref).toArray 0):=by
  rw[<-OJ];exact cm _ rfl
 have IG:(((s.heap.push (seqObj "list" #[] 0)).update s.heap.objs.size (Obj.mapSeq (·++(as.map Value.ref).toArray))).push (seqObj "list" (as.map Value.ref).toArray 0)).objs.size=s.heap.objs.size+2:=by rw[ju,OJ]
 show EP X ae σ Q (.ref (s.heap.objs.size+1)) { s with heap:=sortedHeap (((s.heap.push (seqObj "list" #[] 0)).update s.heap.objs.size (Obj.mapSeq (·++(as.map Value.ref).toArray))).push (seqObj "list" (as.map Value.ref).toArray 0)) (s.heap.objs.size+1) (as.map Value.ref) (uj.map Value.ref).toArray };revert k1 Eu IG;generalize ((s.heap.push (seqObj "list" #[] 0)).update s.heap.objs.size (Obj.mapSeq (·++(as.map Value.ref).toArray))).push (seqObj "list" (as.map Value.ref).toArray 0)=h1;intro k1 Eu IG;obtain⟨e1,MW⟩:∃e1,(h1.update (s.heap.objs.size+1) (Obj.mapSeq fun _=>(#[]:Array Value))).get? (s.heap.objs.size+1)=some (seqObj "list" #[] e1):=⟨_,get?_update_seq Eu (fun _=>#[])⟩
 have ET:(((h1.update (s.heap.objs.size+1) (Obj.mapSeq fun _=>(#[]:Array Value))).push (seqObj "tuple" (as.map Value.ref).toArray 0)).push (seqObj "list" #[] 0)).get? (s.heap.objs.size+1)=some (seqObj "list" #[] e1):=by
  rw[gQ _ _ _ (by rw[ju,i8,IG];exact aU (dC (jR _))),gQ _ _ _ (by rw[i8,IG];exact aU (jR _))];exact MW
 obtain⟨e2,Vf⟩:∃e2,(sortedHeap h1 (s.heap.objs.size+1) (as.map Value.ref) (uj.map Value.ref).toArray).get? (s.heap.objs.size+1)=some (seqObj "list" (uj.map Value.ref).toArray e2):=⟨_,get?_update_seq ET (fun _=>(uj.map Value.ref).toArray)⟩
 have keep:∀b u,s.heap.get? b=some u->(sortedHeap h1 (s.heap.objs.size+1) (as.map Value.ref) (uj.map Value.ref).toArray).get? b=some u:=fun b u e=>by
  have hb:b<s.heap.objs.size:=aH e;unfold sortedHeap;rw[nI _ _ _ _ (aU (dC hb)),gQ _ _ _ (by rw[ju,i8,IG];exact aU (dC (dC (dC hb)))),gQ _ _ _ (by rw[i8,IG];exact aU (dC (dC hb))),nI _ _ _ _ (aU (dC hb))];exact k1 b u e
 have EV:s.heap.get? (s.heap.objs.size+1)=none:=qv (by lia);refine⟨.ref (s.heap.objs.size+1),_,I.EF (t':=s.toks) (o:=.lst (uj.map V.ref)) keep EV ⟨?_,uj.map Value.ref,e2,p_,Vf⟩,rfl,q _ uj (I.bp.q0 EV) pa⟩;rw[aI,pa.length_eq];exact bn hz (by decide)
open PySem PySem.Spec PyProof.Rows
theorem bw(sb:Heap.SameBut c h h')(n:b≠c)(e:h.get? b=some o):h'.get? b=some o:=(sb.2 b n).trans e
theorem dO(r:h.IsTupleIter it t k)(sb:Heap.SameBut c h h')(n:it≠c):h'.IsTupleIter it t k:=r.at fun o e=>bw sb n e
theorem oI(r:h.IsTuple t xs)(sb:Heap.SameBut c h h')(n:t≠c):h'.IsTuple t xs:=let ⟨o,e,z⟩:=r;⟨o,bw sb n e,z⟩
section
variable {prog:Program} {w:World} {A:Around} {E:Value->Shared->Prop} {s:Shared}
theorem yq{z ti tq i1 i2 t1 t2:Addr}{k:Nat}{xs ys:Array Value}{x y a b:Value}{Q:Value->Shared->Prop}(dj:ZipApart z ti tq i1 i2 t1 t2)(gz:IsZip s.heap z ti tq .none)(gi:IsPair s.heap ti (.ref i1) (.ref i2))(gq:IsPair s.heap tq a b)(r1:s.heap.IsTupleIter i1 t1 k)(r2:s.heap.IsTupleIter i2 t2 k)(g1:s.heap.IsTuple t1 xs)(g2:s.heap.IsTuple t2 ys)(ex:xs[k]?=some x)(ey:ys[k]?=some y)(q:∀h',IsZip h' z ti tq (rawInt s.heap.objs.size)->IsPair h' tq x y->h'.IsTupleIter i1 t1 (k+1)->h'.IsTupleIter i2 t2 (k+1)->IsPair h' s.heap.objs.size x y->(∀c o,c≠z->c≠tq->c≠i1->c≠i2->s.heap.get? c=some o->h'.get? c=some o)->Q (.ref s.heap.objs.size) { s with heap:=h' }):
  wpAny (model prog w) A (Builtin.«zip.__next__» ⟨[.ref z],[]⟩) (fun dB s'=>∃v,dB=.done (.ret v)/\Q v s') E s:=by
 change wpAny _ _ (field (.ref z) 2 >>= _) _ _ _;refine aw (fT gz rfl (x:=.bool false) rfl ?_);change wpAny _ _ (field (.ref z) 3 >>= _) _ _ _;refine aw (fT gz rfl (x:=.ref ti) rfl (aw (ic gi rfl ?_)));change wpAny _ _ (Builtin.SmallTypes.ownedTupleIsFree (.ref z) >>= _) _ _ _;refine aw ?_;unfold Builtin.SmallTypes.ownedTupleIsFree;refine aw (fT gz rfl (x:=.none) rfl (wpAny_pure ?_));simp only[if_true];refine aw (fE (aw (fT gz rfl (x:=.ref tq) rfl ?_)));refine aw (nM gz (by simp) fun m1 Ar l4=>?_);replace Ar:IsZip m1 z ti tq .ellipsis:=Ar;refine aw ?_;simp only[uU,List.zipIdx_nil,qD,qI];refine aw (aw (wpAny_onRaise ?_));change wpAny _ _ (Builtin.SmallTypes.nextOf (.ref i1) >>= _) _ _ _;refine aw (jE (dO r1 l4 dj.i1z) (oI g1 l4 dj.l1z) ex fun m2 Vg kK=>wpAny_pure ?_);have Sy:IsPair m2 tq a b:=bw kK dj.TOi1 (bw l4 dj.TOz gq);refine aw (ic Sy rfl (aw (wpAny_updateSeq_pair Sy fun m3 OK C6=>?_)));replace OK:IsPair m3 tq x b:=OK;refine aw (wpAny_letGo (wpAny_pure ?_));refine aw (aw (wpAny_onRaise ?_));change wpAny _ _ (Builtin.SmallTypes.nextOf (.ref i2) >>= _) _ _ _;refine aw (jE (dO (dO (dO r2 l4 dj.i2z) kK dj.i12.symm) C6 dj.TOi2.symm) (oI (oI (oI g2 l4 dj.l2z) kK dj.l2i1) C6 dj.l2TO) ey fun m4 Vh Ko=>wpAny_pure ?_);have Sz:IsPair m4 tq x b:=bw Ko dj.TOi2 OK;refine aw (ic Sz rfl (aw (wpAny_updateSeq_pair Sz fun m5 MY Kp=>?_)));replace MY:IsPair m5 tq x y:=MY;refine aw (wpAny_letGo (wpAny_pure (wpAny_pure ?_)));refine aw (ic MY rfl (aw (wpAny_newTuple ?_)));have sz:m5.objs.size=s.heap.objs.size:=by rw[Kp.1,Ko.1,C6.1,kK.1,l4.1]
 have SC:IsZip m5 z ti tq .ellipsis:=bw Kp dj.TOz.symm (bw Ko dj.i2z.symm (bw C6 dj.TOz.symm (bw kK dj.i1z.symm Ar)));have Vi:∀c o,c≠z->c≠tq->c≠i1->c≠i2->s.heap.get? c=some o->m5.get? c=some o:=fun c o c1 c2 c3 c4 e=>
  bw Kp c2 (bw Ko c4 (bw C6 c2 (bw kK c3 (bw l4 c1 e))))
 have Vj:m5.IsTupleIter i1 t1 (k+1):=dO (dO (dO Vg C6 dj.TOi1.symm) Ko dj.i12) Kp dj.TOi1.symm;have Vk:m5.IsTupleIter i2 t2 (k+1):=dO Vh Kp dj.TOi2.symm;have zl:z<m5.objs.size:=aH SC;change wpAny _ _ (Builtin.SmallTypes.ownedTupleHandOut (.ref z) (.ref m5.objs.size) >>= _) _ _ _;refine aw ?_;unfold Builtin.SmallTypes.ownedTupleHandOut;have Vl:IsZip (m5.push { cls:=.type "tuple",data:=.seq #[x,y] }) z ti tq .ellipsis:=bN _ SC;refine aw (nM Vl (by simp) fun m7 OL SE=>?_);replace OL:IsZip m7 z ti tq (rawInt m5.objs.size):=OL;refine nM OL (by simp) fun m8 MZ SF=>?_;replace MZ:IsZip m8 z ti tq (rawInt m5.objs.size):=MZ;have up:∀c o,c≠z->m5.get? c=some o->m8.get? c=some o:=fun c o c1 e=>bw SF c1 (bw SE c1 (bN _ e));have SH:IsPair m8 m5.objs.size x y:=bw SF (hZ zl) (bw SE (hZ zl) (cm _ rfl));rw[sz] at MZ SH;refine wpAny_pure ⟨_,rfl,?_⟩;change Q (.ref m5.objs.size) _;rw[sz];exact q m8 MZ (up _ _ dj.TOz MY) (Vj.at fun o e=>up _ o dj.i1z e) (Vk.at fun o e=>up _ o dj.i2z e) SH fun c o c1 c2 c3 c4 e=>up c o c1 (Vi c o c1 c2 c3 c4 e)
theorem As(hh:A.handled=none)(dj:ZipApart z ti tq i1 i2 t1 t2)(gz:IsZip s.heap z ti tq .none)(gi:IsPair s.heap ti (.ref i1) (.ref i2))(r1:s.heap.IsTupleIter i1 t1 k)(g1:s.heap.IsTuple t1 xs)(ex:xs[k]?=none)(q:∀h' e,(∀c o,c≠z->c≠i1->s.heap.get? c=some o->h'.get? c=some o)->(∃o,h'.get? e=some o/\o.cls=.type "StopIteration")->E (.ref e) { s with heap:=h' }):
  wpAny (model prog w) A (Builtin.«zip.__next__» ⟨[.ref z],[]⟩) Q E s:=by
 change wpAny _ _ (field (.ref z) 2 >>= _) _ _ _;refine aw (fT gz rfl (x:=.bool false) rfl ?_);change wpAny _ _ (field (.ref z) 3 >>= _) _ _ _;refine aw (fT gz rfl (x:=.ref ti) rfl (aw (ic gi rfl ?_)));change wpAny _ _ (Builtin.SmallTypes.ownedTupleIsFree (.ref z) >>= _) _ _ _;refine aw ?_;unfold Builtin.SmallTypes.ownedTupleIsFree;refine aw (fT gz rfl (x:=.none) rfl (wpAny_pure ?_));simp only[if_true];refine aw (fE (aw (fT gz rfl (x:=.ref tq) rfl ?_)));refine aw (nM gz (by simp) fun m1 Ar l4=>?_);replace Ar:IsZip m1 z ti tq .ellipsis:=Ar;refine aw ?_;simp only[uU,List.zipIdx_nil,qD,qI];refine aw (aw (wpAny_onRaise ?_));change wpAny _ _ (Builtin.SmallTypes.nextOf (.ref i1) >>= _) _ _ _;refine aw (lF hh (dO r1 l4 dj.i1z) (oI g1 l4 dj.l1z) ex fun m2 e kK he=>?_);obtain⟨oe,OM,SJ⟩:=he;have IH:IsZip m2 z ti tq .ellipsis:=kK _ _ dj.i1z.symm Ar;have Vm:e≠z:=fun y=>by subst y;rw[IH] at OM;cases OM;simp at SJ
 exact nM IH (by simp) fun m3 _ C6=>q m3 e (fun c o c1 c3 y=>bw C6 c1 (kK _ _ c3 (bw l4 c1 y))) ⟨oe,bw C6 Vm OM,SJ⟩
theorem vG(dj:ZipApart z ti tq i1 i2 t1 t2)(gz:IsZip s.heap z ti tq .none)(gi:IsPair s.heap ti (.ref i1) (.ref i2))(gq:IsPair s.heap tq a b)(r1:s.heap.IsTupleIter i1 t1 k)(r2:s.heap.IsTupleIter i2 t2 k)(g1:s.heap.IsTuple t1 xs)(g2:s.heap.IsTuple t2 ys)(ex:xs[k]?=some x)(ey:ys[k]?=some y)(q:∀h',IsZip h' z ti tq (rawInt s.heap.objs.size)->IsPair h' tq x y->h'.IsTupleIter i1 t1 (k+1)->h'.IsTupleIter i2 t2 (k+1)->IsPair h' s.heap.objs.size x y->(∀c o,c≠z->c≠tq->c≠i1->c≠i2->s.heap.get? c=some o->h'.get? c=some o)->Q (some (.ref s.heap.objs.size)) { s with heap:=h' }):
  wpAny (model prog w) A (pyNext (.ref z)) Q E s:=by
 have ty:s.TypeIs (.ref z) "zip":=⟨_,gz,rfl⟩
 unfold pyNext;refine aw (qO (nF (name:=Str.ofString "__next__") ty F.slot_zip_next (kW F.slot_zip_next ty F.entry_zip_next ?_ (F.args_zip_next_1 _))));exact yq dj gz gi gq r1 r2 g1 g2 ex ey fun h' a1 a2 a3 a4 a5 a6=>wpAny_pure (q h' a1 a2 a3 a4 a5 a6)
theorem vH(hh:A.handled=none)(dj:ZipApart z ti tq i1 i2 t1 t2)(gz:IsZip s.heap z ti tq .none)(gi:IsPair s.heap ti (.ref i1) (.ref i2))(r1:s.heap.IsTupleIter i1 t1 k)(g1:s.heap.IsTuple t1 xs)(ex:xs[k]?=none)(q:∀h',(∀c o,c≠z->c≠i1->s.heap.get? c=some o->h'.get? c=some o)->Q none { s with heap:=h' }):wpAny (model prog w) A (pyNext (.ref z)) Q E s:=by
 have ty:s.TypeIs (.ref z) "zip":=⟨_,gz,rfl⟩
 unfold pyNext;refine aw (qO (nF (name:=Str.ofString "__next__") ty F.slot_zip_next (kW F.slot_zip_next ty F.entry_zip_next (As hh dj gz gi r1 g1 ex fun h' e hk he=>?_) (F.args_zip_next_1 _))));obtain⟨o,ho,hc⟩:=he;exact aw (wpAny_isInstance (T:="StopIteration") (b:=true) ⟨o,ho,hc⟩ isSubtype_stop (wpAny_pure (q _ hk)))
abbrev zT(t:Addr):Obj:={ cls:=.type "tuple_iterator",data:=.fields #[.ref t,.int 0 0] }
abbrev M0(h:Heap)(t1 t2:Addr):Heap:=((h.push (zT t1)).push (zT t2)).push { cls:=.type "tuple",data:=.seq #[.ref h.objs.size,.ref (h.push (zT t1)).objs.size] }
abbrev M1(h:Heap)(t1 t2:Addr):Heap:=(M0 h t1 t2).push { cls:=.type "tuple",data:=.seq #[.none,.none] }
abbrev II(h:Heap)(t1 t2:Addr):Heap:=(M1 h t1 t2).push { cls:=.type "zip",data:=.fields #[.none,.bool false,.bool false,.ref ((h.push (zT t1)).push (zT t2)).objs.size,.ref (M0 h t1 t2).objs.size] }
theorem At(t1 t2:Addr)(xs ys:Array Value):
  Meets (Builtin.«zip.__new__» ⟨[.type "zip",.ref t1,.ref t2],[]⟩) (fun _ R s=>s.heap.IsTuple t1 xs/\s.heap.IsTuple t2 ys/\R (.ok (.ret (.ref (M1 s.heap t1 t2).objs.size))) { s with heap:=II s.heap t1 t2 }):=
 .of_wp fun prog w A R s h=>by
  obtain⟨hp,g,d,tk,os⟩:=s;obtain⟨g1,g2,h⟩:=h;have Vn:=sub_zip;have gA:Heap.IsTuple (Shared.heap ⟨hp,g,d,tk,os⟩) t1 xs:=g1;have gB:Heap.IsTuple (Shared.heap ⟨hp.push (zT t1),g,d,tk,os⟩) t2 ys:=let ⟨o,e,z⟩:=g2;⟨o,bN _ e,z⟩
  wp_walk using nQ gA,nQ gB
  exact⟨_,rfl,h⟩
theorem yr(g1:s.heap.IsTuple t1 xs)(g2:s.heap.IsTuple t2 ys)(q:∀h',IsZip h' (s.heap.objs.size+4) (s.heap.objs.size+2) (s.heap.objs.size+3) .none->IsPair h' (s.heap.objs.size+2) (.ref s.heap.objs.size) (.ref (s.heap.objs.size+1))->IsPair h' (s.heap.objs.size+3) .none .none->
   h'.IsTupleIter s.heap.objs.size t1 0->h'.IsTupleIter (s.heap.objs.size+1) t2 0->(∀c o,s.heap.get? c=some o->h'.get? c=some o)->Q (.ref (s.heap.objs.size+4)) { s with heap:=h' }):
  wpAny (model prog w) A (call (.type "zip") [.ref t1,.ref t2]) Q E s:=by
 refine callType_new F.called_zip (by decide) (F.typeCall_zip_2 _ _) (F.newCall_zip_2 _ _) (fun obj=>F.args_object_init_3 obj _ _) F.entry_zip_new (At t1 t2 xs ys) ⟨g1,g2,?_⟩;have n1:(s.heap.push (zT t1)).objs.size=s.heap.objs.size+1:=gU ..;have n2:((s.heap.push (zT t1)).push (zT t2)).objs.size=s.heap.objs.size+2:=by rw[gU,n1]
 have n3:(M0 s.heap t1 t2).objs.size=s.heap.objs.size+3:=by rw[gU,n2]
 have n4:(M1 s.heap t1 t2).objs.size=s.heap.objs.size+4:=by rw[gU,n3]
 have e5:(II s.heap t1 t2).get? (M1 s.heap t1 t2).objs.size=some _:=cm _ rfl;have e4:(II s.heap t1 t2).get? (M0 s.heap t1 t2).objs.size=some _:=bN _ (cm _ rfl);have e3:(II s.heap t1 t2).get? ((s.heap.push (zT t1)).push (zT t2)).objs.size=some _:=bN _ (bN _ (cm _ rfl));have e2:(II s.heap t1 t2).get? (s.heap.push (zT t1)).objs.size=some _:=bN _ (bN _ (bN _ (cm _ rfl)));have e1:(II s.heap t1 t2).get? s.heap.objs.size=some _:=bN _ (bN _ (bN _ (bN _ (cm _ rfl))));change _/\_;rw[n2,n3,n4] at e5;rw[n1,n2] at e3;rw[n3] at e4;rw[n1] at e2;rw[n4];exact⟨⟨_,e5,rfl⟩,q _ e5 e3 e4 ⟨_,e1,rfl,rfl⟩ ⟨_,e2,rfl,rfl⟩ fun c o y=>
  bN _ (bN _ (bN _ (bN _ (bN _ y))))⟩
end
theorem aD.wW{X:Cx}{ae:List (Addr×Obj)}{σ:St}{H:Hp}{s:Shared}{h':Heap}{t':Nat}{ch:List Addr}(I:aD X ae σ H s)(fe:∀e∈ch,ff X ae H e)(k:∀b o,b∉ch->s.heap.get? b=some o->h'.get? b=some o):aD X ae σ H { s with heap:=h',toks:=t' }:=by
 have Es:∀b u,H b=some u->b∉ch:=fun b u e z=>by rw[(fe b z).1] at e;cases e
 refine I.step (g':=s.gens) (d':=s.drawn) (ch:=ch) (fun b hb=>?_) (fun b o _ _ hc e _=>k b o hc e) (fun b o _ _ hc e _=>⟨o.slots,k b o hc e⟩) (fun _ _ _ _ n=>n) (fun b o hc e=>⟨o,k b o hc e⟩) (fun _ _ e=>e) (fun _ _ _ e=>e) (fun b ps e=>⟨#[],by rw[e];simp⟩) (fun m hm=>?_) (fun b u e=>?_) I.bare
 .obtain⟨_,f1,_,f3,f4,f5⟩:=fe b hb;exact⟨f3,f1,f4,f5⟩
 .obtain⟨o,es,ep,ho,r⟩:=hm;exact⟨o,es,ep,k _ o (fun z=>(fe _ z).2.1 rfl) ho,r⟩
 .refine(I.bp b u e).jU (fun c v hc q=>k c v ?_ q) (fun _ q=>q) fun _ _ q=>q;rcases hc with z|z
  .rw[z];exact Es b u e
  .exact Es c _ z
theorem aD.wX{X:Cx}{ae:List (Addr×Obj)}{σ:St}{H:Hp}{s:Shared}{h':Heap}{p:Addr}{t':Nat}{ch:List Addr}{xs:List V}{its:List Value}(I:aD X ae σ H s)(fe:∀e∈ch,ff X ae H e)(k:∀b o,b∉ch->s.heap.get? b=some o->h'.get? b=some o)(hp:s.heap.objs.size<=p)(hl:xs.length<=sizeLine)(r:aZ xs its)(ht:h'.get? p=some { cls:=.type "tuple",data:=.seq its.toArray }):aD X ae σ (upd H p (.tup xs)) { s with heap:=h',toks:=t' }:=by
 have hn:=I.bp.fresh hp;have ne:∀b o,s.heap.get? b=some o->b≠p:=fun b o q=>aU (bX (aH q) hp);have Es:∀b u,H b=some u->b∉ch:=fun b u e z=>by rw[(fe b z).1] at e;cases e
 refine I.step (g':=s.gens) (d':=s.drawn) (ch:=ch) (fun b hb=>?_) (fun b o _ _ hb q _=>k b o hb q) (fun b o _ _ hb q _=>⟨o.slots,k b o hb q⟩) (fun b o hb q n=>by rw[am (ne b o q)];exact n) (fun b o hb q=>⟨o,k b o hb q⟩)
  (fun b ys q=>by rw[am (ao q hn)];exact q) (fun b o u q=>by rw[am (ao q hn)];exact q) (fun b ps q=>⟨#[],by rw[am (ao q hn),q];simp⟩) (fun m hm=>?_) (fun b o q=>?_) I.bare
 .obtain⟨_,f1,_,f3,f4,f5⟩:=fe b hb;exact⟨f3,f1,f4,f5⟩
 .obtain⟨o,es,ep,q,d,r'⟩:=hm;exact⟨o,es,ep,k _ _ (fun z=>(fe _ z).2.1 rfl) q,d,r'⟩
 .by_cases hb:b=p
  .subst hb;rw[af] at q;cases q;exact⟨hl,its,r,_,ht,rfl,_,rfl,rfl⟩
  .rw[am hb] at q;refine(I.bp b o q).jU (fun c u hc z=>k c u ?_ z) (fun c z=>by rw[am (ao z hn)];exact z) fun c ys z=>by rw[am (ao z hn)];exact z
   rcases hc with rfl|hc
   .exact Es _ _ q
   .exact Es _ _ hc
def IJ(K:PySem.W.Frag)(a b:Addr):It:=
 ⟨fun i H=>∃xs ys x y,be K H a xs/\be K H b ys/\xs[i]?=some x/\ys[i]?=some y,fun i H v H'=>∃p x y,v=.ref p/\H p=none/\H'=upd H p (.tup [x,y])/\(∀xs,be K H a xs->xs[i]?=some x)/\∀ys,be K H b ys->ys[i]?=some y,fun i H=>∃xs,be K H a xs/\xs.length<=i⟩
theorem Au{P:Program}{w:World}{K:PySem.W.Frag}{es:List Expr}{x1:Nat}{pos:Pos}(a b z ti tq i1 i2:Addr)(dj:ZipApart z ti tq i1 i2 a b):
  o6 P w K (.Tuple es x1 pos) (IJ K a b) [z,ti,tq,i1,i2] z (fun i h=>IsZip h z ti tq .none/\IsPair h ti (.ref i1) (.ref i2)/\(∃u v,IsPair h tq u v)/\h.IsTupleIter i1 a i/\h.IsTupleIter i2 b i) where
 mem:=by simp
 obj:=fun i h st c hc=>by
  obtain⟨gz,gi,⟨u,v,gq⟩,⟨o1,q1,c1,d1⟩,⟨o2,q2,c2,d2⟩⟩:=st;simp only[aS,eE,df] at hc;rcases hc with rfl|rfl|rfl|rfl|rfl
  .exact⟨_,gz,fun v z=>by have z':Data.fields _=Data.cell v:=z;cases z'⟩
  .exact⟨_,gi,fun v z=>by have z':Data.seq _ _=Data.cell v:=z;cases z'⟩
  .exact⟨_,gq,fun v z=>by have z':Data.seq _ _=Data.cell v:=z;cases z'⟩
  .exact⟨o1,q1,fun v z=>by rw[d1] at z;cases z⟩
  .exact⟨o2,q2,fun v z=>by rw[d2] at z;cases z⟩
 keep:=fun i h h' st k=>by
  obtain⟨gz,gi,⟨u,v,gq⟩,r1,r2⟩:=st;exact⟨k z (by simp) _ gz,k ti (by simp) _ gi,⟨u,v,k tq (by simp) _ gq⟩,r1.at fun o q=>k i1 (by simp) o q,r2.at fun o q=>k i2 (by simp) o q⟩
 item:=by
  intro X hP hw hK hc i ae s σ H E I hf st hg;subst hP hw hK;obtain⟨xs,ys,x,y,hx,hy,ex,ey⟩:=hg;obtain⟨us,rx,px,_⟩:=I.tuple hx;obtain⟨vs,ry,py,_⟩:=I.tuple hy;obtain⟨u,hu,ru⟩:=rx.get ex;obtain⟨v,hv,rv⟩:=ry.get ey;obtain⟨gz,gi,⟨u0,v0,gq⟩,r1,r2⟩:=st;refine vG dj gz gi gq r1 r2 (show s.heap.IsTuple a us.toArray from px) (show s.heap.IsTuple b vs.toArray from py) (x:=u) (y:=v) (by simpa using hu) (by simpa using hv) fun h1 Ar ON OO OP OQ kp=>?_;refine⟨_,rfl,wpAny_letOwnedTupleGo_zip Ar fun h2 IH kK=>?_⟩;have zl:z<s.heap.objs.size:=aH gz;have nz:s.heap.objs.size≠z:=hZ zl;have Kq:∀c o,c∉[z,tq,i1,i2]->s.heap.get? c=some o->h2.get? c=some o:=fun c o hc e=>by
   simp only[aS,eE,df,not_or] at hc;exact bw kK hc.1 (kp c o hc.1 hc.2.1 hc.2.2.1 hc.2.2.2 e)
  have OR:IsPair h2 ti (.ref i1) (.ref i2):=Kq _ _ (by simp only[aS,eE,df,not_or];exact⟨dj.TIz,dj.TITO,dj.TIi1,dj.TIi2⟩) gi;have fe:∀e∈[z,tq,i1,i2],ff X ae H e:=fun e he=>hf e (by simp only[aS,eE,df] at he |-;rcases he with h|h|h|h <;> simp[h]);have I2:aD X ae σ (upd H s.heap.objs.size (.tup [x,y])) { s with heap:=h2,toks:=s.toks }:=
   I.wX (its:=[u,v]) fe Kq (aF _) (by show 2<=sizeLine;decide) (.cons ru (.cons rv .nil)) (bw kK nz OQ)
  refine⟨.ref s.heap.objs.size,_,I2,rfl,⟨_,x,y,rfl,I.bp.fresh (aF _),rfl,fun zs hz=>by rw[I.dS hz hx];exact ex,fun zs hz=>by rw[I.dS hz hy];exact ey⟩,⟨IH,OR,⟨u,v,bw kK dj.TOz ON⟩,dO OO kK dj.i1z,dO OP kK dj.i2z⟩,fun c hc=>?_⟩;have f0:=(hf c hc).1;have cl:c<s.heap.objs.size:=by
   simp only[aS,eE,df] at hc;rcases hc with rfl|rfl|rfl|rfl|rfl
   .exact zl
   .exact aH gi
   .exact aH gq
   .obtain⟨o,q,_⟩:=r1;exact aH q
   .obtain⟨o,q,_⟩:=r2;exact aH q
  rw[am (aU cl)];exact f0
 done:=by
  intro X hP hw hK hc i ae s σ H E I hf st hg;subst hP hw hK;obtain⟨xs,hx,hi⟩:=hg;obtain⟨us,rx,px,_⟩:=I.tuple hx;obtain⟨gz,gi,⟨u0,v0,gq⟩,r1,r2⟩:=st;have hl:=rx.length;refine vH (I.ok.hd hc) dj gz gi r1 (show s.heap.IsTuple a us.toArray from px) (by simp;lia) fun h' kp=>⟨rfl,?_⟩
  have fe:∀e∈[z,i1],ff X ae H e:=fun e he=>hf e (by simp only[aS,eE,df] at he |-;rcases he with h|h <;> simp[h]);refine I.wW (t':=s.toks) fe fun c o hc e=>?_;simp only[aS,eE,df,not_or] at hc;exact kp c o hc.1 hc.2 e
 self:=fun _ _ _ _ _ st h=>qG st.1 h
section
variable {X:Cx}
def Kr(K:PySem.W.Frag)(ta:TA):TI:=fun σ H R=>ta σ H fun vs H1=>∃a b xs ys,vs=[.ref a,.ref b]/\be K H1 a xs/\be K H1 b ys/\xs.length=ys.length/\R (IJ K a b) H1
theorem mY{es:List Expr}{x1:Nat}{qU:Pos}{a b:Expr}{ta:TA}{p pos:Pos}(hg:Gl X "zip")(hm:X.mg "zip"=none)(ha:PA X [a,b] ta)(hs:starEach [a,b] X.env=[(false,eval a X.env),(false,eval b X.env)]:=by rfl)(l3:starEach [b] X.env=[(false,eval b X.env)]:=by rfl):
  PI X (.Tuple es x1 qU) (.Call (.Name "zip" p) [a,b] [] pos) (Kr X.K ta):=by
 intro ae s σ H R I h;refine Call_ (gl I hg hm PyProof.Rows.boot_zip (pz (bS (ha pos ae s σ H _ I h) fun us s1 ⟨vs,H1,I1,r1,q1⟩=>?_) (by rw[hs,l3]) (by rw[l3];rfl)));obtain⟨l,m,xs,ys,rfl,hl,OS,EU,q⟩:=q1;obtain⟨u1,u2,rfl,Gb,OT⟩:=r1.two;obtain rfl:u1=Value.ref l:=Gb;obtain rfl:u2=Value.ref m:=OT;obtain⟨its,rv,pt,_⟩:=I1.tuple hl;obtain⟨zN,Vo,Cb,_⟩:=I1.tuple OS;have de:l<s1.heap.objs.size:=by obtain⟨o,e,_⟩:=pt;exact aH e
 have oJ:m<s1.heap.objs.size:=by obtain⟨o,e,_⟩:=Cb;exact aH e
 refine yr (show s1.heap.IsTuple l its.toArray from pt) (show s1.heap.IsTuple m zN.toArray from Cb) fun h' gz gi gq r1 r2 k=>?_;refine qG gz ?_;have I2:aD X ae σ H1 { s1 with heap:=h' }:=I1.kept (t':=s1.toks) k;refine⟨s1.heap.objs.size+4,[s1.heap.objs.size+4,s1.heap.objs.size+2,s1.heap.objs.size+3,s1.heap.objs.size,s1.heap.objs.size+1],_,_,H1,rfl,I2,Au l m _ _ _ _ _ (zipApart_new de oJ),⟨gz,gi,⟨_,_,gq⟩,r1,r2⟩,fun b hb=>?_,q⟩;have iZ:s1.heap.objs.size<=b:=by
  simp only[aS,eE,df] at hb;rcases hb with rfl|rfl|rfl|rfl|rfl
  .exact lZ _ _
  .exact lZ _ _
  .exact lZ _ _
  .exact aF _
  .exact lZ _ _
 exact I1.sq iZ (I1.bp.fresh iZ)
theorem tJ{K:PySem.W.Frag}{a b D:Addr}{xs ys:List V}{g:TG}{tt:TT}{te:TE}{dB:Hp->Prop}{σB:St}{H0:Hp}(EU:xs.length=ys.length)(Pv:Nat->List V->St->Hp->Prop)(h0:Pv 0 [] σB H0)(hl:∀i zs σ H,i<=xs.length->Pv i zs σ H->be K H a xs/\be K H b ys)(hs:∀i x y p zs σ H (Kt:V->St->Hp->Prop) (Kf:St->Hp->Prop),xs[i]?=some x->ys[i]?=some y->Pv i zs σ H->H p=none->
   (∀v σ2 H4,H4 D=some (.lst zs)->zs.length<sizeLine->Pv (i+1) (zs++[v]) σ2 (upd H4 D (.lst (zs++[v])))->Kt v σ2 H4)->(∀σ2 H3,Pv (i+1) zs σ2 H3->Kf σ2 H3)->
   g (.ref p) σ (upd H p (.tup [x,y])) fun σ2 H2=>tt σ2 H2 fun b H3=>if b=true then te σ2 H3 fun v H4=>Kt v σ2 H4 else Kf σ2 H3)(hd:∀zs σ H,Pv xs.length zs σ H->dB H):fY (IJ K a b) g tt te D dB σB H0:=by
 refine⟨fun i m σ H=>m=xs.length-i/\i<=xs.length/\∃zs,Pv i zs σ H,⟨xs.length,by simp,cE _,[],h0⟩,?_⟩;rintro i m σ H ⟨rfl,hi,zs,p⟩;obtain⟨q1,q2⟩:=hl i zs σ H hi p;by_cases de:i<xs.length
 .have oJ:i<ys.length:=by lia
  refine .inr ⟨⟨xs,ys,xs[i],ys[i],q1,q2,by simp[de],by simp[oJ]⟩,?_⟩;rintro v H' ⟨pp,x,y,rfl,hn,rfl,C7,Ks⟩;exact hs i x y pp zs σ _ (fun v σ2 H4=>∃zs,H4 D=some (.lst zs)/\zs.length<sizeLine/\∃m',m'<xs.length-i/\m'=xs.length-(i+1)/\i+1<=xs.length/\∃se,Pv (i+1) se σ2 (upd H4 D (.lst (zs++[v]))))
   (fun σ2 H3=>∃m',m'<xs.length-i/\m'=xs.length-(i+1)/\i+1<=xs.length/\∃se,Pv (i+1) se σ2 H3) (C7 xs q1) (Ks ys q2) p hn
   (fun v σ2 H4 z1 z2 z3=>⟨zs,z1,z2,_,by lia,rfl,de,_,z3⟩) (fun σ2 H3 z=>⟨_,by lia,rfl,de,_,z⟩)
 .have e:i=xs.length:=by lia
  subst e;exact .inl ⟨⟨xs,q1,aF _⟩,hd zs σ H p⟩
theorem vI(rx:aZ xs us)(ry:aZ ys vs)(fx:xs.all dJ=true)(fy:ys.all dJ=true):
  ∀j (h1:j<us.toArray.size) (h2:j<vs.toArray.size),SeqAt.EqAt A s us.toArray[j] vs.toArray[j] (kJ (xs.getD j .bD) (ys.getD j .bD)):=by
 intro j h1 h2;have j1:j<xs.length:=by rw[rx.length];simpa using h1
 have j2:j<ys.length:=by rw[ry.length];simpa using h2
 have e1:xs[j]?=some (xs.getD j .bD):=by rw[bE,bC j1];rfl
 have e2:ys[j]?=some (ys.getD j .bD):=by rw[bE,bC j2];rfl
 obtain⟨u,IK,ru⟩:=rx.get e1;obtain⟨v,C7,rv⟩:=ry.get e2;have eu:us.toArray[j]=u:=by
  have:us[j]?=some us.toArray[j]:=by simp at h1 |-
  rw[IK] at this;exact(bA this).symm
 have ev:vs.toArray[j]=v:=by
  have:vs[j]?=some vs.toArray[j]:=by simp at h2 |-
  rw[C7] at this;exact(bA this).symm
 rw[eu,ev];exact qW ru rv (hV.mp fx _ (cC e1)) (hV.mp fy _ (cC e2))
theorem Av(I:aD X ae σ H s)(hu:A.units+1<cLine)(ha:be X.K H a xs)(hb:be X.K H b ys)(hl:xs.length=ys.length)(fx:xs.all dJ=true)(fy:ys.all dJ=true):
  SeqAt.EqAt A s (.ref a) (.ref b) (l9 kJ xs ys):=by
 by_cases B0:a=b
 .subst B0;have e1:=I.dS ha hb;subst e1;have e2:l9 kJ xs xs=true:=by
   clear ha hb hl fy;induction xs with
   |nil=>rfl
   |cons x xs ih=>
    rw[ig,fQ] at fx;rw[l9,ih fx.2,u3];cases x <;> first|rfl|(show (_==_)=true;simp)|exact absurd (show false=true from fx.1) bT
  rw[e2];exact SeqAt.EqAt.same _
 .obtain⟨us,r1,p1,_⟩:=I.tuple ha;obtain⟨vs,r2,p2,_⟩:=I.tuple hb;have h:=SeqAt.RcAt.tuples (A:=A) (s:=s) (l:=a) (b:=b) (e:=fun i=>kJ (xs.getD i .bD) (ys.getD i .bD)) (show s.heap.IsTuple a us.toArray from p1) (show s.heap.IsTuple b vs.toArray from p2) (by lia)
   (vI r1 r2 fx fy)
  refine SeqAt.EqAt.of_refs B0 ?_;have er:((List.range (min us.toArray.size vs.toArray.size)).all (fun i=>kJ (xs.getD i .bD) (ys.getD i .bD))&&us.toArray.size==vs.toArray.size)=l9 kJ xs ys:=by
   rw[cw,cw,<-r1.length,<-r2.length,<-hl,Nat.min_self,beq_self_eq_true,u3,l_ hl]
  rw[er] at h;exact h
theorem vJ{p q:Int×Int}:l9 kJ [.int p.1,.int p.2] [.int q.1,.int q.2]=decide (p=q):=by
 obtain⟨a,b⟩:=p;obtain⟨c,d⟩:=q;show ((a==c)&&((b==d)&&true))=decide ((a,b)=(c,d));by_cases h1:a=c <;> by_cases h2:b=d <;> simp[h1,h2]
def Ku(K:PySem.W.Frag)(BV:Bool):R2:=fun x y H Q=>∃ (p l:Addr) (u:Int×Int) (as:List Addr) (ps:List (Int×Int)),x=.ref p/\y=.ref l/\be K H p [.int u.1,.int u.2]/\a_ K H l (as.map V.ref)/\as.length=ps.length/\(∀i,i<ps.length->be K H (as.getD i 0) [.int (ps.getD i (0,0)).1,.int (ps.getD i (0,0)).2])/\
 Q (.bl (if BV then !decide (u∈ps) else decide (u∈ps))) H
open Classical in
theorem wY(I:aD X ae σ H s):∀ {as:List Addr} {ps:List (Int×Int)},as.length=ps.length->(∀i,i<ps.length->be X.K H (as.getD i 0) [.int (ps.getD i (0,0)).1,.int (ps.getD i (0,0)).2])->
  ((as.map Value.ref).any fun v=>decide (∃a,v=Value.ref a/\be X.K H a [.int u.1,.int u.2]))=decide (u∈ps)
 |[],[],_,_=>by simp
 |a::as,p::ps,hl,h=>by
  have ih:=wY I (u:=u) (as:=as) (ps:=ps) (by simpa using hl) (fun i hi=>h (i+1) (by simpa using hi));have h0:be X.K H a [.int p.1,.int p.2]:=h 0 (by simp);rw[eR,ie,ih];have e:decide (∃b,Value.ref a=Value.ref b/\be X.K H b [.int u.1,.int u.2])=decide (u=p):=by
   rw[hX,kO,kO];constructor
   .rintro⟨b,e,hb⟩;cases e;have:=I.dS h0 hb;have e1:p.1=u.1:=V.int.inj (kX this).1;have e2:p.2=u.2:=V.int.inj (kX (kX this).2).1;exact gg e1.symm e2.symm
   .rintro rfl;exact⟨a,rfl,h0⟩
  rw[e];by_cases z:u=p
  .simp[z]
  .simp[z]
open Classical in
theorem Aw{ae:List (Addr×Obj)}{σ:St}{H:Hp}{s:Shared}{A:Around}(I:aD X ae σ H s)(hu:A.units+1<cLine){p:Addr}{u:Int×Int}(hp:be X.K H p [.int u.1,.int u.2]){as:List Addr}{ps:List (Int×Int)}(hl:as.length=ps.length)(h:∀i,i<ps.length->be X.K H (as.getD i 0) [.int (ps.getD i (0,0)).1,.int (ps.getD i (0,0)).2]):∀v∈as.map Value.ref,SeqAt.EqAt A s v (.ref p) (decide (∃a,v=Value.ref a/\be X.K H a [.int u.1,.int u.2])):=by
 intro v hv;obtain⟨a,ha,rfl⟩:=bQ.mp hv;obtain⟨i,hi,e⟩:=qo.mp ha;have hq:=h i (by lia);have ea:as.getD i 0=a:=by rw[bE,bC hi];exact e
 rw[ea] at hq;have z:=Av (A:=A) I hu hq hp rfl rfl rfl;rw[vJ] at z;have e:decide (∃b,Value.ref a=Value.ref b/\be X.K H b [.int u.1,.int u.2])=decide (ps.getD i (0,0)=u):=by
  rw[hX,kO,kO];constructor
  .rintro⟨b,e,hb⟩;cases e;have:=I.dS hq hb;exact gg (V.int.inj (kX this).1) (V.int.inj (kX (kX this).2).1)
  .intro e;rw[<-e];exact⟨a,rfl,hq⟩
 rw[e];exact z
open Classical in
theorem Gh(hu:X.A.units+2<cLine):kI X (compareOp .In) (Ku X.K false):=by
 intro ae s σ H x y v u Q I rx ry h;obtain⟨p,l,w,as,ps,rfl,rfl,hp,hl,dq,SK,q⟩:=h;obtain rfl:v=Value.ref p:=rx;obtain rfl:u=Value.ref l:=ry;obtain⟨its,r,pl,_⟩:=I.list hl;have e:=oH r;subst e;refine SeqAt.in_listAt (fun v=>decide (∃a,v=Value.ref a/\be X.K H a [.int w.1,.int w.2])) pl.isList (fun y hy=>Aw I (by show X.A.units+1+1<cLine;lia) hp dq SK y (by simpa using hy)) ⟨.bl _,H,I,rfl,?_⟩;rw[show (as.map Value.ref).toArray.any (fun v=>decide (∃a,v=Value.ref a/\be X.K H a [.int w.1,.int w.2]))=(as.map Value.ref).any (fun v=>decide (∃a,v=Value.ref a/\be X.K H a [.int w.1,.int w.2])) by simp,wY I dq SK];exact q
end
end L2
namespace f9
abbrev Ts:=List (Int×Int)
def T(ts:Ts)(a b:Nat):Prop:=(((a:Nat):Int),((b:Nat):Int))∈ts
instance (ts:Ts) (a b:Nat):Decidable (T ts a b):=inferInstanceAs (Decidable (_∈_))
def gD(ts:Ts):Nat->Nat->Nat->Prop
 |0,a,b=>a=b
 |k+1,a,b=>∃c,gD ts k a c/\T ts c b
theorem gD.trans(h:gD ts k a b):∀ {l:Nat} {c:Nat},gD ts l b c->gD ts (k+l) a c
 |0,_,e=>by cases e;exact h
 |l+1,_,⟨d,w,t⟩=>⟨d,h.trans w,t⟩
theorem gD.one(h:T ts a b):gD ts 1 a b:=⟨a,rfl,h⟩
theorem gD.cons(h:T ts a b)(w:gD ts k b c):gD ts (k+1) a c:=by
 have:=(gD.one h).trans w;rwa [Nat.add_comm] at this
def qa(ts:Ts)(a b d:Nat):Prop:=gD ts d a b/\∀k,gD ts k a b->d<=k
theorem qa.uniq(h:qa ts a b d)(g:qa ts a b e):d=e:=Nat.le_antisymm (h.2 _ g.1) (g.2 _ h.1)
open Classical in
noncomputable def EW(ts:Ts)(a b:Nat):Nat:=if h:∃d,qa ts a b d then h.choose else 0
theorem Gi(h:qa ts a b d):EW ts a b=d:=by
 unfold EW;have hx:∃d,qa ts a b d:=⟨d,h⟩
 rw[dif_pos hx];exact hx.choose_spec.uniq h
structure lI(n:Nat)(ts:Ts):Prop where
 n1:2<=n
 n2:n<=32
 nd:ts.Nodup
 rg:∀t∈ts,(0<=t.1/\t.1<n)/\(0<=t.2/\t.2<n)
 ne:∀t∈ts,t.1≠t.2
 Vp:∀h:Int,(ts.filter fun t=>decide (t.1=h)).length=(ts.filter fun t=>decide (t.2=h)).length
 most:∀h:Int,(ts.filter fun t=>decide (t.1=h)).length<=8
 con:∀a b,a<n->b<n->∃k,gD ts k a b
theorem yt(f:α->Int):∀ (l:List α) (n:Nat),(∀x∈l,0<=f x/\f x<n)->(∀h:Int,(l.filter fun t=>decide (f t=h)).length<=8)->l.length<=8*n:=by
 intro l n;induction n generalizing l with
 |zero=>
  intro h _;cases l with
  |nil=>simp
  |cons x xs=>have:=h x b_;lia
 |succ n ih=>
  intro h h8;have e:l.length=(l.filter fun t=>decide (f t=(n:Int))).length+(l.filter fun t=>!decide (f t=(n:Int))).length:=by
   induction l with
   |nil=>rfl
   |cons x xs Vq=>
    have:=Vq (fun y hy=>h y (bV _ hy)) (fun hh=>bn (by rw[fq];split <;> simp) (h8 hh));by_cases q:f x=(n:Int) <;> simp[fq,q] <;> lia
  have i2:=ih (l.filter fun t=>!decide (f t=(n:Int))) (fun x hx=>by
   have a:=h x (d8.mp hx |>.1);have b:=(d8.mp hx).2;simp at b;lia) (fun hh=>by
   refine bn ?_ (h8 hh);exact(uD.filter _).length_le)
  have:=h8 (n:Int);lia
theorem lI.len(F:lI n ts):ts.length<=256:=by
 have:=yt (·.1) ts n (fun t ht=>(F.rg t ht).1) F.most;have:=F.n2;lia
theorem lI.SL(F:lI n ts)(h:T ts a b):a<n/\b<n/\a≠b:=by
 have q:=F.rg _ h;have q2:=F.ne _ h;refine⟨by have:=q.1;simp at this;lia,by have:=q.2;simp at this;lia,fun e=>q2 (by rw[e])⟩
def gE(n:Nat)(ts:Ts)(h:Nat):List Nat:=((List.range n).map fun s=>(h+s) % n).filter fun o=>decide (T ts h o)
theorem iI(F:lI n ts)(hh:h<n):o∈gE n ts h↔T ts h o:=by
 unfold gE;rw[d8,nJ];refine⟨fun z=>z.2,fun z=>⟨?_,z⟩⟩;obtain⟨_,h2,_⟩:=F.SL z;refine bQ.mpr ⟨if h<=o then o-h else o+n-h,cD.mpr (by split <;> lia),?_⟩;split
 .rw[show h+(o-h)=o by lia,lY h2]
 .rw[show h+(o+n-h)=o+n by lia,Nat.add_mod_right,lY h2]
theorem C8(F:lI n ts)(hh:h<n)(ho:o∈gE n ts h):o<n:=(F.SL ((iI F hh).mp ho)).2.1
def key(n h o:Nat):Int:=((o:Int)-(h:Int)) % (n:Int)
theorem lE(hh:h<n)(hs:s<n):key n h ((h+s) % n)=(s:Int):=by
 unfold key;by_cases c:h+s<n
 .rw[lY c,show (((h+s:Nat):Int)-(h:Int))=(s:Int) by lia];exact Int.emod_eq_of_lt (by lia) (by lia)
 .have e:(h+s) % n=h+s-n:=by
   rw[Nat.mod_eq_sub_mod (by lia),lY (by lia)]
  rw[e,show ((((h+s-n:Nat)):Int)-(h:Int))=(s:Int)-(n:Int) by lia,Int.sub_emod_right];exact Int.emod_eq_of_lt (by lia) (by lia)
theorem tK(hh:h<n):(gE n ts h).Pairwise fun a b=>key n h a<key n h b:=by
 unfold gE;refine List.Pairwise.filter _ ?_;refine lX.mpr ?_;refine List.Pairwise.imp_of_mem ?_ (List.pairwise_lt_range (n:=n));intro a b ha hb B0;rw[lE hh (cD.mp ha),lE hh (cD.mp hb)];lia
theorem me{α:Type}{k:α->Int}:∀ {a b:List α},a.Pairwise (fun x y=>k x<k y)->b.Pairwise (fun x y=>k x<k y)->(∀x,x∈a↔x∈b)->a=b
 |[],[],_,_,_=>rfl
 |[],y::ys,_,_,h=>absurd ((h y).mpr b_) (by simp)
 |x::xs,[],_,_,h=>absurd ((h x).mp b_) (by simp)
 |x::xs,y::ys,ha,hb,h=>by
  obtain⟨a1,a2⟩:=List.pairwise_cons.mp ha;obtain⟨b1,b2⟩:=List.pairwise_cons.mp hb;have e:x=y:=by
   rcases aS.mp ((h x).mp b_) with z|z
   .exact z
   .rcases aS.mp ((h y).mpr b_) with z'|z'
    .exact z'.symm
    .have q1:=b1 x z;have q2:=a1 y z';lia
  subst e;refine congrArg (x::·) (me a2 b2 fun z=>⟨fun hz=>?_,fun hz=>?_⟩)
  .rcases aS.mp ((h z).mp (bV _ hz)) with q|q
   .subst q;exact absurd (a1 _ hz) (by lia)
   .exact q
  .rcases aS.mp ((h z).mpr (bV _ hz)) with q|q
   .subst q;exact absurd (b1 _ hz) (by lia)
   .exact q
structure yu(n:Nat)(ts:Ts)(s i:Nat)(R:List Nat)(f:Nat->Nat):Prop where
 nd:R.Nodup
 lt:∀x∈R,x<n
 st:s∈R
 z:f s=0
 wk:∀x∈R,gD ts (f x) s x
 up:R.Pairwise fun a b=>f a<=f b
 bd:∀u,R[i]?=some u->∀x∈R,f x<=f u+1
 cl:∀j u,j<i->R[j]?=some u->∀v,T ts u v->v∈R/\f v<=f u+1
theorem yu.start(hs:s<n):yu n ts s 0 [s] (fun _=>0):=
 ⟨by simp,fun x hx=>by simp at hx;lia,by simp,rfl,fun x hx=>by simp at hx;subst hx;rfl,by simp,fun u _ x _=>by lia,fun j u h=>absurd h (by lia)⟩
def put(f:Nat->Nat)(v k:Nat):Nat->Nat:=fun y=>if y=v then k else f y
theorem iJ:put f v k v=k:=by simp[put]
theorem eD(h:x≠v):put f v k x=f x:=by simp[put,h]
theorem yu.add(B:yu n ts s i R f)(hu:R[i]?=some u)(hv:v<n)(t:T ts u v)(hn:v∉R):yu n ts s i (R++[v]) (put f v (f u+1)):=by
 have SS:u∈R:=cC hu;have nv:∀x∈R,x≠v:=fun x hx e=>hn (e ▸ hx);have hi:i<R.length:=(di.mp hu).1;refine⟨?_,fun x hx=>?_,jP _ B.st,by rw[eD (nv s B.st)];exact B.z,fun x hx=>?_,?_,fun w hw x hx=>?_,fun j w hj hw x hx=>?_⟩
 .rw[uM];exact⟨B.nd,by simp,fun a ha b hb e=>by simp at hb;subst hb;exact hn (e ▸ ha)⟩
 .rcases dk.mp hx with z|z
  .exact B.lt x z
  .simp at z;lia
 .rcases dk.mp hx with z|z
  .rw[eD (nv x z)];exact B.wk x z
  .simp at z;subst z;rw[iJ];exact⟨u,B.wk u SS,t⟩
 .rw[List.pairwise_append];refine⟨B.up.imp_of_mem fun {a b} ha hb h=>by rw[eD (nv a ha),eD (nv b hb)];exact h,by simp,fun a ha b hb=>?_⟩;simp at hb;subst hb;rw[eD (nv a ha),iJ];exact B.bd u hu a ha
 .have EX:w=u:=by
   rw[lT hi,hu] at hw;exact(bA hw).symm
  subst EX;rw[eD (nv w SS)];rcases dk.mp hx with z|z
  .rw[eD (nv x z)];exact B.bd w hu x z
  .simp at z;subst z;rw[iJ];exact aF _
 .rw[lT (by lia)] at hw;obtain⟨a,b⟩:=B.cl j w hj hw x hx;refine⟨jP _ a,?_⟩;rw[eD (nv x a),eD (nv w (cC hw))];exact b
theorem yu.next(B:yu n ts s i R f)(hu:R[i]?=some u)(h:∀v,T ts u v->v∈R/\f v<=f u+1):yu n ts s (i+1) R f:=by
 refine⟨B.nd,B.lt,B.st,B.z,B.wk,B.up,fun w hw x hx=>?_,fun j w hj hw v hv=>?_⟩
 .have h1:=B.bd u hu x hx;have h2:f u<=f w:=by
   have hi:i<R.length:=(di.mp hu).1;have BZ:i+1<R.length:=(di.mp hw).1;have:=List.pairwise_iff_getElem.mp B.up i (i+1) hi BZ (by lia);rw[bC hi] at hu;rw[bC BZ] at hw;rw[bA hu,bA hw] at this;exact this
  lia
 .by_cases e:j=i
  .subst e;rw[hu] at hw;cases hw;exact h v hv
  .exact B.cl j w (by lia) hw v hv
theorem gG:∀ {n:Nat} {R:List Nat},R.Nodup->(∀x∈R,x<n)->R.length<=n:=by
 intro n R hn hl;have key:∀ (a b:List Nat),a.Nodup->(∀x∈a,x∈b)->a.length<=b.length:=by
  intro a;induction a with
  |nil=>intro b _ _;exact cE _
  |cons x xs ih=>
   intro b hn hs;obtain⟨h1,h2⟩:=fR.mp hn;have hx:x∈b:=hs x b_;have:=ih (b.erase x) h2 fun y hy=>(List.mem_erase_of_ne (fun (e:y=x)=>h1 (e ▸ hy))).mpr (hs y (bV _ hy));rw[zg hx] at this;have:0<b.length:=List.length_pos_of_mem hx;rw[c_];lia
 have:=key R (List.range n) hn fun x hx=>cD.mpr (hl x hx);rwa [fN] at this
theorem yu.done(B:yu n ts s i R f)(F:lI n ts)(hi:R.length<=i)(hx:x<n):x∈R/\f x=EW ts s x:=by
 have cl:∀u∈R,∀v,T ts u v->v∈R/\f v<=f u+1:=fun u hu v hv=>by
  obtain⟨j,hj,e⟩:=qo.mp hu;exact B.cl j u (by lia) (by rw[bC hj,e]) v hv
 have walk:∀k x,gD ts k s x->x∈R/\f x<=k:=by
  intro k;induction k with
  |zero=>intro x e;cases e;exact⟨B.st,by rw[B.z];exact aF _⟩
  |succ k ih=>
   rintro x ⟨c,w,t⟩;obtain⟨c1,c2⟩:=ih c w;obtain⟨d1,d2⟩:=cl c c1 x t;exact⟨d1,by lia⟩
 obtain⟨k,w⟩:=F.con s x (B.lt s B.st) hx;obtain⟨m,_⟩:=walk k x w;exact⟨m,(Gi ⟨B.wk x m,fun k w=>(walk k x w).2⟩).symm⟩
end f9
namespace L2
open PySem PySem.Spec PyProof.Rows
section
variable {X:Cx}
end
end L2
namespace f9
abbrev wZ(u:Int×Int):Int×Int:=(u.2,u.1)
def kh(ps:Ts):Ts:=ps.flatMap fun u=>[u,wZ u]
theorem vK:kh (ps++qs)=kh ps++kh qs:=List.flatMap_append
theorem iK:∀ {ps:Ts},(kh ps).Perm (ps++ps.map wZ)
 |[]=>List.Perm.refl _
 |u::ps=>by
  have ih:=iK (ps:=ps);show (u::wZ u::kh ps).Perm (u::(ps++wZ u::ps.map wZ));refine List.Perm.cons _ ?_;exact(ih.cons _).trans List.perm_middle.symm
theorem rj:∀ {ps:Ts},(kh ps).length=2*ps.length
 |[]=>rfl
 |u::ps=>by
  have ih:=rj (ps:=ps);show (kh ps).length+2=2*(ps.length+1);lia
theorem C9(h:u∈kh ps):wZ u∈kh ps:=by
 obtain⟨v,hv,hu⟩:=uW.mp h;refine uW.mpr ⟨v,hv,?_⟩;rcases aS.mp hu with e|e
 .rw[e];exact bV _ (cN.mpr rfl)
 .rw[cN.mp e];exact b_
theorem w4:u∈kh ps↔u∈ps\/wZ u∈ps:=by
 rw[(iK (ps:=ps)).mem_iff,dk];refine or_congr Iff.rfl ⟨fun h=>?_,fun h=>bQ.mpr ⟨_,h,rfl⟩⟩;obtain⟨v,hv,rfl⟩:=bQ.mp h;exact hv
theorem C_:((kh ps).map wZ).Perm (kh ps):=by
 refine((iK (ps:=ps)).map wZ).trans (List.Perm.trans ?_ (iK (ps:=ps)).symm);rw[cn,gW];have e:ps.map (wZ ∘ wZ)=ps:=(jQ fun u _=>rfl).trans (il ps);rw[e];exact g_
abbrev oK(q:Nat×Nat):Int×Int:=((q.1:Int),(q.2:Int))
def b1(b:Bool):Nat:=cond b 1 0
def jH(h:Nat):List (Nat×Nat)->Nat
 |[]=>0
 |q::qs=>b1 (Nat.beq q.1 h)+(b1 (Nat.beq q.2 h)+jH h qs)
theorem w6{h:Nat}:∀ {qs:List (Nat×Nat)},((kh (qs.map oK)).filter fun t=>decide (t.1=(h:Int))).length=jH h qs
 |[]=>rfl
 |q::qs=>by
  have ih:=w6 (h:=h) (qs:=qs);have e:∀a:Nat,(if decide ((a:Int)=(h:Int))=true then 1 else 0)=b1 (Nat.beq a h):=fun a=>by
   by_cases c:a=h
   .subst c;rw[ak (by simp),Nat.beq_refl];rfl
   .rw[ai (by simp;lia),show Nat.beq a h=false from uQ.mpr fun z=>c (Nat.eq_of_beq_eq_true z)];rfl
  show ((oK q::wZ (oK q)::kh (qs.map oK)).filter _).length=b1 (Nat.beq q.1 h)+(b1 (Nat.beq q.2 h)+jH h qs);rw[<-ih,<-e q.1,<-e q.2,fq,fq];split <;> split <;> simp <;> lia
def pr:List Nat->Nat
 |[]=>1
 |n::ns=>n*pr ns
def pf(m st n:Nat):List (Nat×Nat):=((List.range m).filter fun h=>decide (h / st % n+1<n)).map fun h=>(h,h+st)
def bx(m:Nat):Nat->List Nat->List (Nat×Nat)
 |_,[]=>[]
 |st,n::ns=>pf m st n++bx m (st*n) ns
def iL(ns:List Nat):List (Nat×Nat):=bx (pr ns) 1 ns
def Da:Nat->List Nat->Nat->Nat->Prop
 |_,[],_,_=>False
 |st,n::ns,a,b=>(a / st % n+1<n/\b=a+st)\/Da (st*n) ns a b
theorem w9:q∈pf m st n↔q.1<m/\q.1 / st % n+1<n/\q.2=q.1+st:=by
 unfold pf;rw[bQ];constructor
 .rintro⟨h,hh,rfl⟩;obtain⟨h1,h2⟩:=d8.mp hh;exact⟨cD.mp h1,fm h2,rfl⟩
 .rintro⟨h1,h2,h3⟩;exact⟨q.1,d8.mpr ⟨cD.mpr h1,bK h2⟩,gg rfl h3.symm⟩
theorem rk:∀ {ns:List Nat} {st:Nat},q∈bx m st ns↔q.1<m/\Da st ns q.1 q.2
 |[],st=>⟨fun h=>(nomatch h),fun h=>h.2.elim⟩
 |n::ns,st=>by
  unfold bx Da;rw[dk,w9,rk (ns:=ns)];constructor
  .rintro(⟨a,b,c⟩|⟨a,b⟩)
   .exact⟨a,.inl ⟨b,c⟩⟩
   .exact⟨a,.inr b⟩
  .rintro⟨a,⟨b,c⟩|b⟩
   .exact .inl ⟨a,b,c⟩
   .exact .inr ⟨a,b⟩
abbrev U(ns:List Nat):Nat->Nat->Prop:=Da 1 ns
theorem rn:∀ {ns:List Nat} {st a b:Nat},0<st->(∀n∈ns,0<n)->(Da st ns a b↔a % st=b % st/\U ns (a / st) (b / st))
 |[],st,a,b,h,_=>⟨fun z=>z.elim,fun z=>z.2.elim⟩
 |n::ns,st,a,b,h,hn=>by
  have BW:=hn n b_;have sU:∀n∈ns,0<n:=fun x hx=>hn x (bV _ hx);show (_\/Da (st*n) ns a b)↔a % st=b % st/\(_\/Da (1*n) ns (a / st) (b / st))
  rw[qP,rn (js h BW) sU,rn BW sU,nX,pC a st n,pC b st n,Nat.mod_mul,Nat.mod_mul];have e1:=h9 a st;have e2:=h9 b st;constructor
  .rintro(⟨c,rfl⟩|⟨c,d⟩)
   .refine⟨by rw[Nat.add_mod_right],.inl ⟨c,by rw[Nat.add_div_right _ h]⟩⟩
   .have m1:a % st=b % st:=by
     have:=congrArg (· % st) c;simp only[Nat.add_mul_mod_self_left,Nat.mod_mod] at this;exact this
    refine⟨m1,.inr ⟨?_,d⟩⟩;rw[m1] at c;exact Nat.eq_of_mul_eq_mul_left h (Nat.add_left_cancel c)
  .rintro⟨m1,⟨c,d⟩|⟨c,d⟩⟩
   .refine .inl ⟨c,?_⟩;rw[<-e2,d,<-m1,eT,fD,Nat.add_right_comm,e1]
   .exact .inr ⟨by rw[m1,c],d⟩
theorem vL(h:∀x∈n::ns,0<x):U (n::ns) a b↔(a % n+1<n/\b=a+1)\/(a % n=b % n/\U ns (a / n) (b / n)):=by
 show (_\/Da (1*n) ns a b)↔_;rw[qP,rn (h n b_) fun x hx=>h x (bV _ hx),nX]
theorem vM(h:a % n+1<n):(a+1) / n=a / n/\(a+1) % n=a % n+1:=by
 have e:=h9 a n;have e2:a+1=n*(a / n)+(a % n+1):=by lia
 have hn:0<n:=by lia
 rw[e2,Nat.mul_add_div hn,Nat.mul_add_mod,uT h,lY h];exact⟨rfl,rfl⟩
theorem Kv:∀ {ns:List Nat} {a b:Nat},(∀x∈ns,0<x)->U ns a b->a<pr ns->a<b/\b<pr ns
 |[],a,b,_,h,_=>h.elim
 |n::ns,a,b,hn,h,ha=>by
  have BW:=hn n b_;have sU:∀n∈ns,0<n:=fun x hx=>hn x (bV _ hx);have JK:a<n*pr ns:=ha;have hq:a / n<pr ns:=ux JK;show a<b/\b<n*pr ns;rcases(vL hn).mp h with ⟨c,rfl⟩|⟨c,d⟩
  .refine⟨by lia,?_⟩;have e:=h9 a n;have:=nB n hq;rw[Nat.succ_eq_add_one,eT,fD] at this;lia
  .obtain⟨i1,i2⟩:=Kv sU d hq;refine⟨?_,?_⟩
   .have e1:=h9 a n;have e2:=h9 b n;have:=y9 i1 BW;lia
   .have e2:=h9 b n;have hm:=jt b BW;have:=nB n i2;rw[Nat.succ_eq_add_one,eT,fD] at this;lia
theorem Ax:∀ {ns:List Nat} {v:Nat},(∀x∈ns,0<x)->0<v->v<pr ns->∃u,u<v/\U ns u v
 |[],v,_,h1,h2=>by have h2:v<1:=h2;lia
 |n::ns,v,hn,h1,h2=>by
  have BW:=hn n b_;have sU:∀n∈ns,0<n:=fun x hx=>hn x (bV _ hx);have lv:=jt v BW;have ev:=h9 v n;by_cases c:v % n=0
  .have hq:0<v / n:=by
    rcases uG (v / n) with z|z
    .rw[z,c] at ev;simp at ev;lia
    .exact z
   obtain⟨u,hu,uu⟩:=Ax (v:=v / n) sU hq (ux h2);refine⟨n*u,?_,(vL hn).mpr (.inr ⟨by rw[Nat.mul_mod_right,c],by rw[Nat.mul_div_cancel_left _ BW];exact uu⟩)⟩;have:=y9 hu BW;lia
  .have hv:v-1=n*(v / n)+(v % n-1):=by lia
   have hm:(v-1) % n=v % n-1:=by rw[hv,Nat.mul_add_mod,lY (by lia)]
   exact⟨v-1,by lia,(vL hn).mpr (.inl ⟨by lia,by lia⟩)⟩
theorem w_:∀ {ns:List Nat} {st a b:Nat},(∀x∈ns,0<x)->Da st ns a b->a+st<=b
 |[],st,a,b,_,h=>h.elim
 |n::ns,st,a,b,hn,h=>by
  rcases h with ⟨_,rfl⟩|h
  .exact aF _
  .have:=w_ (fun x hx=>hn x (bV _ hx)) h;have h1:=uv st (hn n b_);lia
theorem yv:(pf m st n).Nodup:=by
 unfold pf;refine pA.mpr (lX.mpr ?_);exact(pA.mp (uV.sublist uD)).imp fun {a b} h e=>h (congrArg Prod.fst e)
theorem tO:∀ {ns:List Nat} {st:Nat},0<st->(∀x∈ns,2<=x)->(bx m st ns).Nodup
 |[],_,_,_=>qH
 |n::ns,st,h,hn=>by
  have Iu:=hn n b_;have sU:∀x∈ns,2<=x:=fun x hx=>hn x (bV _ hx);refine uM.mpr ⟨yv,tO (js h (by lia)) sU,fun x hx y hy e=>?_⟩;subst e;have h1:=(w9.mp hx).2.2;have h2:=w_ (fun x hx=>by have:=sU x hx;lia) (rk.mp hy).2;have h3:=nB st Iu;lia
theorem yw(nd:ps.Nodup)(h:∀u∈ps,u.1<u.2):(kh ps).Nodup:=by
 refine(iK (ps:=ps)).nodup_iff.mpr (uM.mpr ⟨nd,?_,fun x hx y hy e=>?_⟩)
 .refine pA.mpr (lX.mpr ((pA.mp nd).imp fun {a b} B0 e=>B0 ?_));exact gg (congrArg Prod.snd e) (congrArg Prod.fst e)
 .subst e;obtain⟨u,hu,rfl⟩:=bQ.mp hy;have h1:=h _ hx;have h2:=h u hu;have h1:u.2<u.1:=h1;lia
theorem yx{qs:List (Nat×Nat)}(h:qs.Nodup):(qs.map oK).Nodup:=by
 refine pA.mpr (lX.mpr ((pA.mp h).imp fun {a b} B0 e=>B0 ?_));exact gg (ii (congrArg Prod.fst e)) (ii (congrArg Prod.snd e))
theorem mf:∀ {a b:List (Nat×Nat)},jH h (a++b)=jH h a+jH h b
 |[],b=>by show jH h b=0+_;lia
 |q::a,b=>by
  have:=mf (h:=h) (a:=a) (b:=b);show b1 _+(b1 _+jH h (a++b))=b1 _+(b1 _+jH h a)+jH h b;lia
theorem EY:b1 (Nat.beq a b)=if a=b then 1 else 0:=by
 by_cases c:a=b
 .subst c;rw[ak rfl,Nat.beq_refl];rfl
 .rw[ai c,show Nat.beq a b=false from uQ.mpr fun z=>c (Nat.eq_of_beq_eq_true z)];rfl
theorem xa:∀ {L:List Nat},L.Nodup->jH h (L.map fun x=>(x,x+st))<=(if h∈L then 1 else 0)+(if st<=h/\h-st∈L then 1 else 0)
 |[],_=>cE _
 |x::L,nd=>by
  obtain⟨n1,n2⟩:=fR.mp nd;have ih:=xa (h:=h) (st:=st) n2;show b1 (Nat.beq x h)+(b1 (Nat.beq (x+st) h)+jH h (L.map fun x=>(x,x+st)))<=_;rw[EY,EY];have e1:(if h∈x::L then 1 else 0)=(if x=h then 1 else 0)+(if h∈L then 1 else 0):=by
   by_cases c:x=h
   .subst c;rw[ak b_,ak rfl,ai n1]
   .rw[ai c];by_cases d:h∈L
    .rw[ak (bV _ d),ak d]
    .rw[ai d,ai (fun z=>(aS.mp z).elim (fun z=>c z.symm) d)]
  have e2:(if st<=h/\h-st∈x::L then 1 else 0)=(if x+st=h then 1 else 0)+(if st<=h/\h-st∈L then 1 else 0):=by
   by_cases c:x+st=h
   .have e:h-st=x:=by lia
    rw[ak c,e,ak ⟨by lia,b_⟩,ai (fun z=>n1 z.2)]
   .rw[ai c];by_cases d:st<=h/\h-st∈L
    .rw[ak d,ak ⟨d.1,bV _ d.2⟩]
    .rw[ai d,ai];rintro⟨z1,z2⟩;rcases aS.mp z2 with z|z
     .lia
     .exact d ⟨z1,z⟩
  rw[e1,e2];lia
def wt:List Nat->Nat
 |[]=>0
 |n::ns=>(if n=2 then 1 else 2)+wt ns
theorem Db(hs:0<st):jH h (pf m st n)<=if n=2 then 1 else 2:=by
 have c:=xa (h:=h) (st:=st) (L:=(List.range m).filter fun h=>decide (h / st % n+1<n)) (uV.sublist uD);refine bn c ?_;by_cases e:n=2
 .rw[ak e];by_cases c1:h∈(List.range m).filter fun h=>decide (h / st % n+1<n)
  .rw[ak c1,ai]
   .lia
   .rintro⟨z1,z2⟩;have d1:h / st % n+1<n:=fm (d8.mp c1).2;have d2:(h-st) / st % n+1<n:=fm (d8.mp z2).2;have d3:h / st=(h-st) / st+1:=by
     have:=Nat.add_div_right (h-st) hs;rw[show h-st+st=h by lia] at this;exact this
    obtain⟨_,d4⟩:=vM d2;rw[<-d3] at d4;lia
  .rw[ai c1];split <;> lia
 .rw[ai e];split <;> split <;> lia
theorem Ay:∀ {ns:List Nat} {st:Nat},0<st->(∀x∈ns,0<x)->jH h (bx m st ns)<=wt ns
 |[],_,_,_=>aF _
 |n::ns,st,hs,hn=>by
  show jH h (pf m st n++bx m (st*n) ns)<=_+wt ns;rw[mf];have h1:=Db (m:=m) (n:=n) (h:=h) hs;have h2:=Ay (m:=m) (h:=h) (ns:=ns) (st:=st*n) (js hs (hn n b_)) fun x hx=>hn x (bV _ hx);lia
theorem Az:∀ {ns:List Nat},(∀x∈ns,2<=x)->3 ^ wt ns<=pr ns*pr ns
 |[],_=>aF _
 |n::ns,hn=>by
  have ih:=Az (ns:=ns) fun x hx=>hn x (bV _ hx);have h2:=hn n b_;show 3 ^ ((if n=2 then 1 else 2)+wt ns)<=n*pr ns*(n*pr ns);rw[Nat.pow_add,Nat.mul_mul_mul_comm];refine uY ?_ ih;by_cases c:n=2
  .rw[ak c,c];decide
  .rw[ai c];have:3<=n:=by lia
   exact uY this this
theorem Kw(hn:∀x∈ns,2<=x)(hp:pr ns<=32):wt ns<=8:=by
 refine qg fun z=>?_;have h1:3 ^ 9<=3 ^ wt ns:=Nat.pow_le_pow_right (by decide) (by lia);have h2:=Az hn;have h3:pr ns*pr ns<=32*32:=uY hp hp;have h4:(3:Nat) ^ 9=19683:=by decide
 lia
theorem AA{ns:List Nat}(hn:∀x∈ns,2<=x)(h0:ns≠[])(hp:pr ns<=32):lI (pr ns) (kh ((iL ns).map oK)):=by
 have Gj:∀x∈ns,0<x:=fun x hx=>by have:=hn x hx;lia
 have q:∀q∈iL ns,q.1<q.2/\q.2<pr ns:=fun q hq=>by
  obtain⟨a,b⟩:=rk.mp hq;exact Kv Gj b a
 have n1:2<=pr ns:=by
  cases ns with
  |nil=>exact absurd rfl h0
  |cons n ns=>
   have h2:=hn n b_;have:∀ {l:List Nat},(∀x∈l,2<=x)->1<=pr l:=fun {l}=>by
    induction l with
    |nil=>intro _;exact aF _
    |cons x l ih=>intro hl;exact js (by have:=hl x b_;lia) (ih fun y hy=>hl y (bV _ hy))
   have h3:=this (l:=ns) fun x hx=>hn x (bV _ hx);show 2<=n*pr ns;exact bn h2 (uv n h3)
 have mem:∀t∈kh ((iL ns).map oK),∃q∈iL ns,t=oK q\/t=wZ (oK q):=fun t ht=>by
  rcases w4.mp ht with z|z
  .obtain⟨q,hq,e⟩:=bQ.mp z;exact⟨q,hq,.inl e.symm⟩
  .obtain⟨q,hq,e⟩:=bQ.mp z;exact⟨q,hq,.inr (by rw[e])⟩
 have rg:∀t∈kh ((iL ns).map oK),((0<=t.1/\t.1<pr ns)/\(0<=t.2/\t.2<pr ns))/\t.1≠t.2:=fun t ht=>by
  obtain⟨p,hq,e⟩:=mem t ht;obtain⟨a,b⟩:=q p hq;rcases e with rfl|rfl
  .exact⟨⟨⟨by show (0:Int)<=(p.1:Int);lia,by show (p.1:Int)<(pr ns:Int);lia⟩,by show (0:Int)<=(p.2:Int);lia,by show (p.2:Int)<(pr ns:Int);lia⟩,by show ((p.1:Nat):Int)≠(p.2:Nat);lia⟩
  .exact⟨⟨⟨by show (0:Int)<=(p.2:Int);lia,by show (p.2:Int)<(pr ns:Int);lia⟩,by show (0:Int)<=(p.1:Int);lia,by show (p.1:Int)<(pr ns:Int);lia⟩,by show ((p.2:Nat):Int)≠(p.1:Nat);lia⟩
 have nd:(kh ((iL ns).map oK)).Nodup:=yw (yx (tO (by decide) hn)) fun u hu=>by
  obtain⟨p,hq,rfl⟩:=bQ.mp hu;have:=(q p hq).1;show (p.1:Int)<(p.2:Int);lia
 refine⟨n1,hp,nd,fun t ht=>(rg t ht).1,fun t ht=>(rg t ht).2,fun h=>?_,fun h=>?_,fun a b ha hb=>?_⟩
 .rw[<-(C_ (ps:=(iL ns).map oK)).filter (fun t=>decide (t.1=h)) |>.length_eq,List.filter_map,aI];rfl
 .by_cases c:0<=h/\h<pr ns
  .have:=Ay (m:=pr ns) (h:=h.toNat) (ns:=ns) (st:=1) (by decide) Gj;have e:=w6 (h:=h.toNat) (qs:=iL ns);rw[Int.toNat_of_nonneg c.1] at e;rw[e];exact bn this (Kw hn hp)
  .have e:(kh ((iL ns).map oK)).filter (fun t=>decide (t.1=h))=[]:=List.filter_eq_nil_iff.mpr fun t ht e=>c ((show t.1=h from fm e) ▸ (rg t ht).1.1);rw[e];exact cE _
 .have CD:∀v,v<pr ns->(∃k,gD (kh ((iL ns).map oK)) k 0 v)/\∃k,gD (kh ((iL ns).map oK)) k v 0:=by
   intro v;induction v using Nat.strongRecOn with
   |ind v ih=>
    intro hv;rcases uG v with e|e
    .subst e;exact⟨⟨0,rfl⟩,0,rfl⟩
    .obtain⟨u,hu,uu⟩:=Ax Gj e hv;obtain⟨⟨k,w⟩,l,w'⟩:=ih u hu (by lia);have t:T (kh ((iL ns).map oK)) u v:=w4.mpr (.inl (bQ.mpr ⟨(u,v),rk.mpr ⟨by show u<pr ns;lia,uu⟩,rfl⟩));have t':T (kh ((iL ns).map oK)) v u:=C9 t;exact⟨⟨k+1,u,w,t⟩,l+1,gD.cons t' w'⟩
  obtain⟨_,k,w⟩:=CD a ha;obtain⟨⟨l,w'⟩,_⟩:=CD b hb;exact⟨_,w.trans w'⟩
end f9
namespace ph
open PySem L2
def fz(i:Nat):Stmt:=PySem.Challenge.pw_neverwait_k75_waiting_told.main.body.getD i (.Pass ⟨0,0,0,0⟩)
abbrev vN:Stmt:=fz 8
abbrev rp:Stmt:=fz 9
abbrev vO:Stmt:=fz 10
abbrev Gk:Stmt:=fz 12
structure Bl(mg:Str->Option Value):Prop where
 Gm:mg "isinstance"=none
 int:mg "int"=none
 bool:mg "bool"=none
 tup:mg "tuple"=none
 lst:mg "list"=none
 str:mg "str"=none
 set:mg "set"=none
 len:mg "len"=none
 range:mg "range"=none
 sorted:mg "sorted"=none
 any:mg "any"=none
 max:mg "max"=none
 min:mg "min"=none
 Vr:mg "ValueError"=none
 all:mg "all"=none
def AB(K:PySem.W.Frag)(H:Hp)(x:V):Prop:=∃t,Iy K H x t/\(PySem.W.kitOne K t (.type "int")=some false\/(PySem.W.kitOne K t (.type "int")=some true/\PySem.W.kitOne K t (.type "bool")=some true))
theorem tP:PySem.W.kitOne K (.type "int") (.type "int")=some true:=by kernel_rfl
theorem rq:PySem.W.kitOne K (.type "int") (.type "bool")=some false:=by kernel_rfl
inductive Wh (K:PySem.W.Frag) (H:Hp):V->Option Int->Prop where
 |int (i:Int):Wh K H (.int i) (some i)
 |no {x:V} (h:AB K H x):Wh K H x none
def rA(K:PySem.W.Frag):Sp:=fun vs H Q _=>∃x o,vs=[x]/\Wh K H x o/\Q (.bl o.isSome) H
section
variable {P:Program} {w:World} {K:PySem.W.Frag} {mg:Str->Option Value} {base:Heap}
theorem Dc:aB ["thing"] ["thing"] (aq vN):=⟨rfl,rfl,rfl,by decide +kernel,rfl,by decide +kernel,by decide +kernel⟩
theorem AC(F:eh K "is_whole" "is_whole" vN f fd)(B:Bl mg):bi P w K mg base bg 1 f fd ["thing"] (rA K):=by
 refine F.ok Dc (fun vs H Q E h=>?_) (fun cM A outer s H vs Q E hr h=>?_)
 .obtain⟨x,o,rfl,_⟩:=h;rfl
 .obtain⟨x,o,rfl,W,k⟩:=h;refine⟨_,ap (aJ (jx (aK eY (by rfl) B.Gm nq (aa (pv 0) (aa (gn (v:=.ty "int") rfl B.int ql rfl) ag)))
   (k8 (Fw (aK eY (by rfl) B.Gm nq (aa (pv 0) (aa (gn (v:=.ty "bool") rfl B.bool PyProof.Rows.boot_bool rfl) ag))))))),?_⟩
  cases W with
  |int i=>
   refine⟨_,rfl,_,_,_,.type "int",true,rfl,⟨rfl,tP⟩,.of (.int _),true,rfl,?_⟩;exact⟨_,rfl,_,_,_,.type "int",false,rfl,⟨rfl,rq⟩,.of (.int _),false,rfl,k⟩
  |no h=>
   obtain⟨t,ty,h|⟨h1,h2⟩⟩:=h
   .exact⟨_,rfl,_,_,_,t,false,rfl,⟨rfl,h⟩,ty,false,rfl,k⟩
   .refine⟨_,rfl,_,_,_,t,true,rfl,⟨rfl,h1⟩,ty,true,rfl,?_⟩;exact⟨_,rfl,_,_,_,t,true,rfl,⟨rfl,h2⟩,ty,true,rfl,k⟩
def a9(o:Option Int)(lo hi:Int):Bool:=match o with
 |some i=>decide (lo<=i)&&decide (i<=hi)
 |none=>false
def f_(K:PySem.W.Frag):Sp:=fun vs H Q _=>∃x o lo hi,vs=[x,.int lo,.int hi]/\Wh K H x o/\Q (.bl (a9 o lo hi)) H
theorem AD:aB ["thing","least","most"] ["thing","least","most"] (aq rp):=⟨rfl,rfl,rfl,by decide +kernel,rfl,by decide +kernel,by decide +kernel⟩
theorem yy(F:eh K "is_whole_within" "is_whole_within" rp f fd)(W:bZ P w K mg base bg 1 "is_whole" ["thing"] (rA K)):bi P w K mg base bg 2 f fd ["thing","least","most"] (f_ K):=by
 refine F.ok AD (fun vs H Q E h=>?_) (fun cM A outer s H vs Q E hr h=>?_)
 .obtain⟨x,o,lo,hi,rfl,_⟩:=h;rfl
 .obtain⟨x,o,lo,hi,rfl,wh,k⟩:=h;refine⟨_,ap (aJ (jx (aA W hr aL (aa (pv 0) ag)) (k8 (zB Ez Ez (pv 1) (pv 0) (pv 2))))),?_⟩;refine⟨_,rfl,x,o,rfl,wh,?_⟩;cases wh with
  |no h=>exact⟨false,rfl,k⟩
  |int i=>
   refine⟨true,rfl,_,rfl,_,rfl,_,_,rfl,rfl,_,rfl,?_⟩;show if decide (lo<=i)=true then _ else _
   have k':Q (.bl (decide (lo<=i)&&decide (i<=hi))) H:=k;by_cases h:lo<=i
   .rw[bK h] at k' |-;exact⟨_,rfl,_,_,rfl,rfl,k'⟩
   .rw[dD h] at k' |-;exact k'
def kj(K:PySem.W.Frag):Sp:=fun vs H Q _=>∃x o n,vs=[.int n,x]/\Wh K H x o/\Q (.bl (a9 o 0 (n-1))) H
theorem Dd:aB ["many","thing"] ["many","thing"] (aq vO):=⟨rfl,rfl,rfl,by decide +kernel,rfl,by decide +kernel,by decide +kernel⟩
theorem AE(F:eh K "is_house" "is_house" vO f fd)(W:bZ P w K mg base bg 2 "is_whole_within" ["thing","least","most"] (f_ K)):bi P w K mg base bg 3 f fd ["many","thing"] (kj K):=by
 refine F.ok Dd (fun vs H Q E h=>?_) (fun cM A outer s H vs Q E hr h=>?_)
 .obtain⟨x,o,n,rfl,_⟩:=h;rfl
 .obtain⟨x,o,n,rfl,wh,k⟩:=h;refine⟨_,ap (aJ (aA W hr aL (aa (pv 1) (aa av (aa (aX lf (pv 0) av) ag))))),?_⟩;exact⟨_,rfl,_,rfl,_,_,rfl,rfl,x,o,0,n-1,rfl,wh,k⟩
inductive Rw (K:PySem.W.Frag) (H:Hp):V->Option (List V)->Prop where
 |tup {p:Addr} {xs:List V} (h:H p=some (.tup xs)):Rw K H (.ref p) (some xs)
 |no {x:V} {t:Value} (ty:Iy K H x t) (h:PySem.W.kitOne K t (.type "tuple")=some false):Rw K H x none
def Kx(o:Option (List V))(m:Int):Bool:=match o with
 |some xs=>decide ((xs.length:Int)=m)
 |none=>false
theorem rB:PySem.W.kitOne K (.type "tuple") (.type "tuple")=some true:=by kernel_rfl
def tQ(K:PySem.W.Frag):Sp:=fun vs H Q _=>∃x o m,vs=[x,.int m]/\Rw K H x o/\Q (.bl (Kx o m)) H
theorem Ky:aB ["thing","length"] ["thing","length"] (aq Gk):=⟨rfl,rfl,rfl,by decide +kernel,rfl,by decide +kernel,by decide +kernel⟩
theorem Gn(F:eh K "is_row" "is_row" Gk f fd)(B:Bl mg):bi P w K mg base bg 1 f fd ["thing","length"] (tQ K):=by
 refine F.ok Ky (fun vs H Q E h=>?_) (fun cM A outer s H vs Q E hr h=>?_)
 .obtain⟨x,o,m,rfl,_⟩:=h;rfl
 .obtain⟨x,o,m,rfl,W,k⟩:=h;refine⟨_,ap (aJ (jx (aK eY (by rfl) B.Gm nq (aa (pv 0) (aa (gn (v:=.ty "tuple") rfl B.tup fL rfl) ag)))
   (k8 (gs j3 (aK aM (by rfl) B.len dE (aa (pv 0) ag)) (pv 1) (aT _))))),?_⟩
  cases W with
  |@tup p xs h=>
   refine⟨_,rfl,_,_,_,.type "tuple",true,rfl,⟨rfl,rB⟩,.of (.tup h),true,rfl,?_⟩;refine⟨_,rfl,_,_,rfl,.inr (be.of h),_,rfl,rfl,?_⟩;have e:decide (V.int ((xs.length:Nat):Int)=V.int m)=decide (((xs.length:Nat):Int)=m):=by simp
   rw[e];exact k
  |no ty h=>exact⟨_,rfl,_,_,_,_,false,rfl,⟨rfl,h⟩,ty,false,rfl,k⟩
end
theorem aW(s:aE H H')(hD:H D=none):aE H (upd H' D o):=fun b u e=>by rw[am (ao e hD)];exact s b u e
theorem qb{p D:Addr}{H H':Hp}{o:HO}(s:cj p H H')(hD:H D=none):cj p H (upd H' D o):=fun b u e n=>by rw[am (ao e hD)];exact s b u e n
abbrev IV(ns:List Int):List V:=ns.map V.int
abbrev NV(ns:List Nat):List V:=ns.map fun (x:Nat)=>V.int (x:Int)
theorem dP(G:St->Hp->Prop)(hr:∀σ H,G σ H->u D σ H)(ht:∀N:St->Hp->Prop,(∀σ H,G σ H->N σ H)->t { D with nx:=N } σ H):Fx t u D σ H:=ht _ hr
theorem AF{A B:Prop}(h:A):if true=true then A else B:=by rw[ak rfl];exact h
theorem EZ{A B:Prop}(h:B):if false=true then A else B:=by rw[ai (by decide)];exact h
abbrev Zs:=List (Addr×(Int×Int))
abbrev Go(u:Int×Int):HO:=.tup [.int u.1,.int u.2]
def zr(zs:Zs):List V:=zs.map fun z=>V.ref z.1
def zp(zs:Zs):List (Int×Int):=zs.map (·.2)
def PO(H:Hp)(zs:Zs):Prop:=∀z∈zs,H z.1=some (Go z.2)
theorem lJ:zr (a++b)=zr a++zr b:=cn
theorem lK:zp (a++b)=zp a++zp b:=cn
theorem gI:(zr a).length=a.length:=aI _
theorem ce:(zp a).length=a.length:=aI _
theorem mZ:zr a=(a.map (·.1)).map V.ref:=by unfold zr;rw[gW];rfl
theorem rC{zs:Zs}{i:Nat}{x:V}(h:(zr zs)[i]?=some x):∃z,zs[i]?=some z/\x=.ref z.1:=by
 unfold zr at h;rw[bh] at h;cases e:zs[i]? with
 |none=>rw[e] at h;cases h
 |some z=>rw[e] at h;exact⟨z,rfl,(bA h).symm⟩
theorem PO.nil:PO H []:=fun z hz=>(nomatch hz)
theorem PO.same(h:PO H zs)(s:aE H H'):PO H' zs:=fun z hz=>s _ _ (h z hz)
theorem PO.putL(h:PO H zs)(e:H D=some (.lst xs)):PO (upd H D o) zs:=fun z hz=>by
 have:=h z hz;rw[am (by rintro rfl;rw[e] at this;cases this)];exact this
theorem PO.putN(h:PO H zs)(e:H D=none):PO (upd H D o) zs:=h.same (aj e)
theorem PO.append(h:PO H a)(h':PO H b):PO H (a++b):=fun z hz=>(dk.mp hz).elim (h z) (h' z)
theorem PO.one(h:H p=some (Go u)):PO H [(p,u)]:=fun z hz=>by rw[cN.mp hz];exact h
theorem tR{zs:Zs}{i:Nat}(h:i<zs.length):(zs.map (·.1)).getD i 0=zs[i].1:=by
 rw[bE,bh,bC h];rfl
theorem xb(h:i<zs.length):(zp zs).getD i (0,0)=zs[i].2:=by
 unfold zp;rw[bE,bh,bC h];rfl
theorem Gp{K:PySem.W.Frag}{BV:Bool}{H:Hp}{p l:Addr}{u:Int×Int}{zs:Zs}{Q:VK}(hp:H p=some (Go u))(hl:H l=some (.lst (zr zs)))(ho:PO H zs)(q:Q (.bl (if BV then !decide (u∈zp zs) else decide (u∈zp zs))) H):Ku K BV (.ref p) (.ref l) H Q:=
 ⟨p,l,u,zs.map (·.1),zp zs,rfl,rfl,be.of hp,a_.of (by rw[<-mZ];exact hl),by rw[aI,ce],fun i hi=>by
  rw[ce] at hi;rw[tR hi,xb hi];exact be.of (ho _ (l0 hi)),q⟩
theorem yz{H:Hp}{zs:Zs}(ho:PO H zs){as:List Addr}(h:as.Perm (zs.map (·.1))):∃se:Zs,se.Perm zs/\as=se.map (·.1):=by
 classical
 let f:Addr->Int×Int:=fun a=>match H a with
  |some (.tup [.int x,.int y])=>(x,y)
  |_=>(0,0)
 have e:(zs.map (·.1)).map (fun a=>(a,f a))=zs:=by
  rw[gW];conv=>rhs;rw[<-il zs]
  refine jQ fun z hz=>?_;have:=ho z hz;show (z.1,f z.1)=z;have e2:f z.1=z.2:=by
   show (match H z.1 with|some (.tup [.int x,.int y])=>(x,y)|_=>(0,0))=z.2;rw[this]
  rw[e2]
 refine⟨as.map fun a=>(a,f a),?_,?_⟩
 .have:=h.map (fun a=>(a,f a));rw[e] at this;exact this
 .rw[gW];exact(il as).symm
abbrev SU(us:List (Int×Int)):Prop:=us=us
theorem De{K:PySem.W.Frag}{H:Hp}{l:Addr}{zs:Zs}{Q:VK}(hl:H l=some (.lst (zr zs)))(ho:PO H zs)(hz:zs.length<=4096)(hb:∀u∈zp zs,0<=u.2/\u.2<64)(q:∀ (D:Addr) (se:Zs),H D=none->se.Perm zs->SU (zp se)->Q (.ref D) (upd H D (.lst (zr se)))):Aq K [.ref l] H Q:=by
 refine⟨l,zs.map (·.1),rfl,a_.of (by rw[<-mZ];exact hl),fun a ha=>?_,by rw[aI];exact hz,fun D uj hD hp=>?_⟩
 .obtain⟨z,hz,rfl⟩:=bQ.mp ha;exact⟨_,_,be.of (ho z hz)⟩
 .obtain⟨se,h1,rfl⟩:=yz ho hp;rw[<-mZ];exact q D se hD h1 rfl
theorem AG{K:PySem.W.Frag}{a D:Addr}{B1:Zs}{g:TG}{tt:TT}{te:TE}{dB:Hp->Prop}{σB:St}{H0:Hp}(F:Int×Int->Int×Int)(eG:St->Prop)(ha:H0 a=some (.lst (zr B1)))(Vs:PO H0 B1)(hD:H0 D=none)(hn:B1.length<=100000)(h0:eG σB)(hs:∀z σ H (R:V->St->Hp->Prop) (Kf:St->Hp->Prop),z∈B1->eG σ->H z.1=some (Go z.2)->(∀σ2 p,eG σ2->H p=none->R (.ref p) σ2 (upd H p (Go (F z.2))))->g (.ref z.1) σ H fun σ2 H2=>tt σ2 H2 fun b H3=>if b=true then te σ2 H3 fun v H4=>R v σ2 H4 else Kf σ2 H3)(hd:∀zs H,aE H0 H->H D=some (.lst (zr zs))->PO H zs->zp zs=(zp B1).map F->(∀z∈zs,H0 z.1=none)->dB H):fY (Cf K a) g tt te D dB σB (upd H0 D (.lst [])):=by
 refine dW (xs:=zr B1) (fun i ys σ H=>eG σ/\aE H0 H/\H D=some (.lst ys)/\∃zs:Zs,ys=zr zs/\PO H zs/\zp zs=((zp B1).take i).map F/\∀z∈zs,H0 z.1=none) ⟨h0,aj hD,af,[],rfl,PO.nil,rfl,fun z hz=>nomatch hz⟩ (fun i ys σ H _ z=>a_.of (z.2.1 _ _ ha)) ?_ ?_
 .rintro i x ys σ H Kt Kf hx ⟨sh,sm,uk,zs,rfl,po,ep,fr⟩ kt kf;obtain⟨z,hz,rfl⟩:=rC hx;have hi:i<B1.length:=(di.mp hz).1;have E1:z∈B1:=cC hz;have hl:zs.length=i:=by rw[<-ce,ep,aI,kR,ce];lia
  refine hs z σ H Kt Kf E1 sh (sm _ _ (Vs z E1)) (fun σ2 p Df hp=>?_)
  .have nD:D≠p:=ao uk hp;refine kt _ _ _ (by rw[am nD];exact uk) (by rw[gI,hl];exact bX hi (bn hn (by decide))) ⟨Df,aW (sm.trans (aj hp)) hD,af,zs++[(p,F z.2)],?_,?_,?_,?_⟩
   .rw[lJ];rfl
   .refine PO.putL (xs:=zr zs) ?_ (by rw[am nD];exact uk);exact(po.putN hp).append (PO.one af)
   .have e2:(zp B1)[i]?=some z.2:=by unfold zp;rw[bh,hz];rfl
    rw[lK,ep,d7,e2,Option.toList_some,cn];rfl
   .intro z hz;rcases dk.mp hz with z'|z'
    .exact fr z z'
    .rw[cN.mp z'];exact sm.free hp
 .rintro ys σ H ⟨_,sm,uk,zs,rfl,po,ep,fr⟩;rw[gI,<-ce,fO] at ep;exact hd zs H sm uk po ep fr
open f9
abbrev xc:Stmt:=gw (fz 25) 0
abbrev vP:Stmt:=gw (fz 25) 8
structure Er(K:PySem.W.Frag)(mg:Str->Option Value)(x:Str)(C:Addr):Prop where
 at_:mg x=some (.ref C)
 ok:o9 K C
theorem Vt:¬ (("house_count":Str)="tie_list"):=by decide +kernel
theorem Vu:¬ (("house_count":Str)="out_lists"):=by decide +kernel
theorem Vv:¬ (("house_count":Str)="distances"):=by decide +kernel
def yA(n:Int)(tl ol ds:Addr):List (Str×V):=cg "distances" (.ref ds) (cg "out_lists" (.ref ol) (cg "tie_list" (.ref tl) (cg "house_count" (.int n) [])))
theorem Dg(n:Int)(tl ol ds:Addr):(yA n tl ol ds).lookup ("house_count":Str)=some (.int n):=by
 unfold yA;rw[aV,ai Vv,aV,ai Vu,aV,ai Vt,aV,ak rfl]
theorem Dh(n:Int)(tl ol ds:Addr){m:Str}(h1:¬ m="house_count")(h2:¬ m="tie_list")(h3:¬ m="out_lists")(h4:¬ m="distances"):(yA n tl ol ds).lookup m=none:=by
 unfold yA;rw[aV,ai h4,aV,ai h3,aV,ai h2,aV,ai h1];all_goals rfl
def iM(H:Hp)(L:Addr->Prop)(l:Addr)(n:Nat)(r:Nat->List Nat):Prop:=∃bs:List Addr,H l=some (.lst (bs.map V.ref))/\(∀b∈bs,L b)/\Holds H bs n (fun h=>.lst (NV (r h)))
theorem iM.keep(R:iM H L l n r)(hl:L l)(k:∀b o,L b->H b=some o->H' b=some o):iM H' L l n r:=
 let ⟨bs,a,b,c⟩:=R
 ⟨bs,k _ _ hl a,b,c.mono fun j hj e=>k _ _ (b _ (by rw[bE,bC (by rw[c.1];exact hj)];exact l0 _)) e⟩
def Di(H:Hp)(L:Addr->Prop)(tl:Addr)(ts:Ts):Prop:=L tl/\∃zs:Zs,H tl=some (.lst (zr zs))/\PO H zs/\(∀z∈zs,L z.1)/\(zp zs).Perm ts/\SU (zp zs)
theorem Di.keep(h:Di H L tl ts)(k:∀b o,L b->H b=some o->H' b=some o):Di H' L tl ts:=
 let ⟨a,zs,b,c,d,e⟩:=h;⟨a,zs,k _ _ a b,fun z hz=>k _ _ (d z hz) (c z hz),d,e⟩
structure gb(C:Addr)(H:Hp)(L:Addr->Prop)(p:Addr)(n:Nat)(ts:Ts):Prop where
 tT:lI n ts
 ob:∃dx tl ol ds,H p=some (.ins C dx (yA n tl ol ds))/\L ol/\L ds/\iM H L ol n (gE n ts)/\iM H L ds n (fun h=>(List.range n).map (EW ts h))/\Di H L tl ts
theorem gb.keep(N:gb C H L p n ts)(k:∀b o,L b->H b=some o->H' b=some o)(kp:∀o,H p=some o->H' p=some o):gb C H' L p n ts:=
 let ⟨dx,tl,ol,ds,a,l1,l2,b,c,d⟩:=N.ob
 ⟨N.tT,dx,tl,ol,ds,kp _ a,l1,l2,b.keep l1 k,c.keep l2 k,d.keep k⟩
theorem gb.same(N:gb C H L p n ts)(s:aE H H'):gb C H' L p n ts:=N.keep (fun b o _ e=>s b o e) (fun o e=>s _ o e)
structure NT(K:PySem.W.Frag)(mg:Str->Option Value)(C:Addr):Prop where
 cl:zF K C
 nH:eC K C "house_count"
 nT:eC K C "tie_list"
 nO:eC K C "out_lists"
 nD:eC K C "distances"
 OU:mg "Net"=some (.ref C)
structure mB(P:Program)(w:World)(K:PySem.W.Frag)(mg:Str->Option Value)(base:Heap)(CX:sA)(k:Nat)(C:Addr)(x:Str)(ps:List Str)(sp:Sp):Prop where
 ex:∃f fd,FM K C x f/\gX K fd ps []/\bi P w K mg base CX k f fd ps sp
section
variable {P:Program} {w:World} {K:PySem.W.Frag} {mg:Str->Option Value} {base:Heap}
theorem Dj:aB ["self","thing"] ["self","thing"] (aq vP):=⟨rfl,rfl,rfl,by decide +kernel,rfl,by decide +kernel,by decide +kernel⟩
def rD(K:PySem.W.Frag)(C CE:Addr):Sp:=fun vs H Q E=>∃ (L:Addr->Prop) (p:Addr) (n:Nat) (ts:Ts) (x:V) (o:Option Int),vs=[.ref p,x]/\gb C H L p n ts/\Wh K H x o/\(a9 o 0 ((n:Int)-1)=false->E (.ref CE) none H)/\(a9 o 0 ((n:Int)-1)=true->Q .bD H)
theorem AH{f C CE:Addr}{fd:FuncData}(F:eh K "check_house" "Net.check_house" vP f fd)(T:NT K mg C)(e:Er K mg "NoHouse" CE)(HH:bZ P w K mg base bg 3 "is_house" ["many","thing"] (kj K)):
  bi P w K mg base (iU P w) 4 f fd ["self","thing"] (rD K C CE):=by
 refine F.Iz Dj (fun vs H Q E h=>?_) (fun cM A outer s H vs Q E hr h=>?_)
 .obtain⟨L,p,n,ts,x,o,rfl,_⟩:=h;rfl
 .obtain⟨L,p,n,ts,x,o,rfl,N,wh,k1,k2⟩:=h;obtain⟨dx,tl,ol,ds,h1,_⟩:=N.ob;refine⟨_,ap (bJ (dG (dg (aA HH hr aL (aa (jy (pv 0) rfl) (aa (pv 1) ag))))) (ap (j9 (q:=fun H1=>E (.ref CE) none H1) rfl e.ok rfl e.at_ (aa qQ ag) (fun _ _ _ _ _ _ _ I m q=>j8 I m q))) aQ),?_⟩;refine⟨_,rfl,p,C,dx,_,_,rfl,h1,T.cl,T.nH,Dg _ _ _ _,_,rfl,x,o,n,rfl,wh,_,rfl,?_⟩;cases hw:a9 o 0 ((n:Int)-1) with
  |false=>exact mw ⟨by show 1<=sizeLine;decide,k1 hw⟩
  |true=>exact fX (k2 hw)
theorem OV(n:Int)(tl ol ds:Addr):(yA n tl ol ds).lookup ("check_house":Str)=none:=Dh n tl ol ds (by decide +kernel) (by decide +kernel) (by decide +kernel) (by decide +kernel)
theorem bb:(NV xs).length=xs.length:=aI _
theorem vQ{o:Option Int}{n:Nat}(h:a9 o 0 ((n:Int)-1)=true):∃i:Nat,i<n/\o=some (i:Int):=by
 cases o with
 |none=>cases h
 |some i=>
  unfold a9 at h;simp at h;exact⟨i.toNat,by lia,by congr 1;lia⟩
theorem eK{i n:Nat}(h:i<n):a9 (some (i:Int)) 0 ((n:Int)-1)=true:=by unfold a9;simp;lia
theorem AI{H:Hp}{x:V}{i:Int}(h:Wh K H x (some i)):x=.int i:=by cases h;rfl
end
open PySem L2 f9
abbrev vR:Stmt:=fz 26
abbrev Gq:Stmt:=fz 27
abbrev Gr:Stmt:=fz 28
section
variable {P:Program} {w:World} {K:PySem.W.Frag} {mg:Str->Option Value} {base:Heap}
abbrev Gs:Stmt:=fz 11
theorem Kz:aB ["many","one","other"] ["many","one","other"] (aq Gs):=⟨rfl,rfl,rfl,by decide +kernel,rfl,by decide +kernel,by decide +kernel⟩
def AJ:Sp:=fun vs H Q _=>∃ (n a b:Int),vs=[.int n,.int a,.int b]/\0<=a/\a<n/\0<=b/\b<n/\a≠b/\Q (.bl true) H
theorem Gu(F:eh K "are_unlike_houses" "are_unlike_houses" Gs f fd)(HH:bZ P w K mg base bg 3 "is_house" ["many","thing"] (kj K)):
  bi P w K mg base bg 4 f fd ["many","one","other"] AJ:=by
 refine F.ok Kz (fun vs H Q E h=>?_) (fun cM A outer s H vs Q E hr h=>?_)
 .obtain⟨n,a,b,rfl,_⟩:=h;rfl
 .obtain⟨n,a,b,rfl,a1,a2,b1,b2,jB,k⟩:=h;refine⟨_,ap (aJ (jx (aA HH hr aL (aa (pv 0) (aa (pv 1) ag))) (jx (aA HH hr aL (aa (pv 0) (aa (pv 2) ag))) (k8 (gs sv (pv 1) (pv 2) (aT _)))))),?_⟩;refine⟨_,rfl,_,rfl,_,_,n,rfl,.int a,_,rfl,?_⟩;rw[ak (show a9 (some a) 0 (n-1)=true by unfold a9;simp;lia)];refine⟨_,rfl,_,rfl,_,_,n,rfl,.int b,_,rfl,?_⟩;rw[ak (show a9 (some b) 0 (n-1)=true by unfold a9;simp;lia)];refine⟨_,rfl,_,rfl,rfl,?_⟩;have e:(!decide (V.int a=V.int b))=true:=by simp[jB]
  rw[e];exact k
theorem KA:aB ["many","thing"] ["many","thing"] (aq Gq):=⟨rfl,rfl,rfl,by decide +kernel,rfl,by decide +kernel,by decide +kernel⟩
def AK:Sp:=fun vs H Q _=>∃ (n:Int) (p:Addr) (a b:Int),vs=[.int n,.ref p]/\H p=some (.tup [.int a,.int b])/\0<=a/\a<n/\0<=b/\b<n/\a≠b/\Q (.bl true) H
theorem Gv(F:eh K "is_tie" "is_tie" Gq f fd)(R:bZ P w K mg base bg 1 "is_row" ["thing","length"] (tQ K))(U:bZ P w K mg base bg 4 "are_unlike_houses" ["many","one","other"] AJ):
  bi P w K mg base bg 5 f fd ["many","thing"] AK:=by
 refine F.ok KA (fun vs H Q E h=>?_) (fun cM A outer s H vs Q E hr h=>?_)
 .obtain⟨n,p,a,b,rfl,_⟩:=h;rfl
 .obtain⟨n,p,a,b,rfl,hp,a1,a2,b1,b2,jB,k⟩:=h;refine⟨_,ap (aJ (jx (aA R (hr.mono (by decide)) aL (aa (pv 1) (aa av ag)))
   (k8 (aA U hr aL (aa (pv 0) (aa (bq cS (pv 1) av (fun _ _=>rfl)) (aa (bq cS (pv 1) av (fun _ _=>rfl)) ag))))))),?_⟩
  refine⟨_,rfl,_,_,_,rfl,.tup hp,true,rfl,?_⟩;exact⟨_,rfl,_,rfl,p,_,_,_,rfl,rfl,be.of hp,aY (j:=0) rfl,_,rfl,p,_,_,_,rfl,rfl,be.of hp,aY (j:=1) rfl,n,a,b,rfl,a1,a2,b1,b2,jB,k⟩
theorem xf:aB ["many","ties","tie"] ["many","ties"] (aq vR):=⟨rfl,rfl,rfl,by decide +kernel,rfl,by decide +kernel,by decide +kernel⟩
theorem tU:PySem.W.kitOne K (.type "list") (.type "list")=some true:=by kernel_rfl
structure dY(H:Hp)(l:Addr)(n:Nat)(zs:Zs):Prop where
 tT:lI n (zp zs)
 at_:H l=some (.lst (zr zs))
 po:PO H zs
theorem dY.same(h:dY H l n zs)(s:aE H H'):dY H' l n zs:=⟨h.tT,s _ _ h.at_,h.po.same s⟩
def iW:Sp:=fun vs H Q _=>∃ (n:Nat) (l:Addr) (zs:Zs),vs=[.int n,.ref l]/\dY H l n zs/\∀H',aE H H'->Q .bD H'
theorem AL(F:eh K "check_ties" "check_ties" vR f fd)(B:Bl mg)(gF:∃t,mg "FEWEST_HOUSES"=some (.int 2 t))(gM:∃t,mg "MOST_HOUSES"=some (.int 32 t))(W:bZ P w K mg base bg 2 "is_whole_within" ["thing","least","most"] (f_ K))(T:bZ P w K mg base bg 5 "is_tie" ["many","thing"] AK):
  bi P w K mg base bg 6 f fd ["many","ties"] iW:=by
 obtain⟨tF,gF⟩:=gF;obtain⟨tM,gM⟩:=gM;refine F.ok xf (fun vs H Q E h=>?_) (fun cM A outer s H vs Q E hr h=>?_)
 .obtain⟨n,l,zs,rfl,_⟩:=h;rfl
 .refine⟨_,ah (bJ (dG (dg (aA W (hr.mono (by decide)) aL (aa (pv 0) (aa (gm (v:=.int 2) rfl gF ⟨_,rfl⟩) (aa (gm (v:=.int 32) rfl gM ⟨_,rfl⟩) ag)))))) cp aQ)
   (ah (bJ (dG (dg (aK eY (by rfl) B.Gm nq (aa (pv 1) (aa (gn (v:=.ty "list") rfl B.lst qh rfl) ag))))) cp aQ)
   (ah (cr dw rfl (cX (pv 1)) (az (i:=2) xf.nd rfl (Or.inl rfl)) (ap (bJ (dG (dg (aA T hr aL (aa (pv 0) (aa (pv 2) ag))))) cp aQ)))
   (ap (bJ (aO sv (aK sS (by rfl) B.len dE (aa (bu (xZ rfl (by have:=hr.un;show (A.deeper _).units+8<_;lia)) (by rfl) B.set PyProof.Rows.boot_set (aa (pv 1) ag)) ag)) (aK aM (by rfl) B.len dE (aa (pv 1) ag)) (aT _)) cp aQ)))),?_⟩
  obtain⟨n,l,zs,rfl,tt,k⟩:=h;obtain⟨fi,hl,po⟩:=id tt;have n1:=fi.n1;have n2:=fi.n2;refine⟨_,rfl,_,_,2,32,rfl,.int n,_,rfl,?_⟩;rw[show a9 (some (n:Int)) 2 32=true by unfold a9;simp;lia];refine fX ?_;refine⟨_,rfl,_,_,_,.type "list",true,rfl,⟨rfl,tU⟩,.of (.lst hl),_,rfl,fX ?_⟩;refine⟨_,rfl,l,rfl,⟨_,a_.of hl⟩,jZ (K:=K) (a:=l) (xs:=zr zs) (fun i σ H2=>H2=H/\∃v,σ=[some (.int n),some (.ref l),v]) ⟨rfl,none,rfl⟩ (fun i σ H2 _ ⟨e,_⟩=>by rw[e];exact a_.of hl) ?_ ?_⟩
  .rintro i x σ H2 hx ⟨rfl,v,rfl⟩;obtain⟨z,hz,rfl⟩:=rC hx;have E1:z∈zs:=cC hz;have SV:z.2∈zp zs:=bQ.mpr ⟨z,E1,rfl⟩;have r:=fi.rg _ SV;exact⟨_,rfl,_,rfl,n,_,_,_,rfl,po z E1,r.1.1,r.1.2,r.2.1,r.2.2,fi.ne _ SV,_,rfl,fX ⟨rfl,_,rfl⟩⟩
  .rintro σ H2 ⟨rfl,v,rfl⟩;have dq:(zp zs).length<=256:=fi.len;refine⟨_,rfl,l,zs.map (·.1),zp zs,rfl,a_.of (by rw[<-mZ];exact hl),by rw[aI,ce],fun i hi=>?_,fi.nd,fun y hy=>?_,by lia,fun D hD=>?_⟩
   .rw[ce] at hi;rw[tR hi,xb hi];exact be.of (po _ (l0 hi))
   .have r:=fi.rg _ hy;lia
   .have nl:l≠D:=ao hl hD;refine⟨D,_,rfl,af,by lia,_,rfl,l,zr zs,rfl,.inl (a_.of (by rw[am nl];exact hl)),rfl,_,rfl,?_⟩;have ez:(!decide (V.int (((zp zs).length:Nat):Int)=V.int (((zr zs).length:Nat):Int)))=false:=by rw[ce,gI];simp
    rw[ez];exact fX (k _ (aj hD))
end
abbrev tV:Stmt:=fz 29
section
variable {P:Program} {w:World} {K:PySem.W.Frag} {mg:Str->Option Value} {base:Heap}
theorem lL(S:St->Prop)(p q:Int×Int->Int)(h:Int)(hD:H D=none)(hl:H l=some (.lst (zr zs)))(po:PO H zs)(hn:zs.length<=1000)(s0:S σB)(hg:∀z σ H2 (Kt:V->St->Hp->Prop) (Kf:St->Hp->Prop),z∈zs->S σ->H2 z.1=some (Go z.2)->(∀σ2,S σ2->p z.2=h->Kt (.int (q z.2)) σ2 H2)->(∀σ2,S σ2->p z.2≠h->Kf σ2 H2)->
   g (.ref z.1) σ H2 fun σ2 H2=>tt σ2 H2 fun b H3=>if b=true then te σ2 H3 fun v H4=>Kt v σ2 H4 else Kf σ2 H3)(hd:dB (upd H D (.lst (IV (((zp zs).filter fun y=>decide (p y=h)).map q))))):fY (Cf K l) g tt te D dB σB (upd H D (.lst [])):=by
 have nl:l≠D:=ao hl hD;have tk:∀ {i:Nat} {z:Addr×(Int×Int)},zs[i]?=some z->(zp zs).take (i+1)=(zp zs).take i++[z.2]:=fun {i z} hz=>by
  rw[d7,show (zp zs)[i]?=some z.2 by unfold zp;rw[bh,hz];rfl];rfl
 refine dW (xs:=zr zs) (fun i ys σ H2=>S σ/\ys=IV ((((zp zs).take i).filter fun y=>decide (p y=h)).map q)/\H2=upd H D (.lst ys)) ⟨s0,by simp,rfl⟩ (fun i ys σ H2 _ ⟨_,_,e⟩=>by rw[e];exact a_.of (by rw[am nl];exact hl)) ?_ ?_
 .rintro i x ys σ H2 Kt Kf hx ⟨hS,ey,rfl⟩ kt kf;obtain⟨z,hz,rfl⟩:=rC hx;have E1:z∈zs:=cC hz;have hp:=po z E1;have na:z.1≠D:=ao hp hD;have hi:i<zs.length:=(di.mp hz).1;refine hg z σ _ Kt Kf E1 hS (by rw[am na];exact hp) (fun σ2 s2 e=>?_) (fun σ2 s2 e=>?_)
  .refine kt _ _ _ af ?_ ⟨s2,?_,?_⟩
   .rw[ey,aI,aI];exact cZ (jO _ _) (cZ (List.length_take_le _ _) (bX (show i<1000 by lia) (by decide)))
   .rw[ey,tk hz,i7,cn];have:decide (p z.2=h)=true:=by simp[e]
    simp[fq,this]
   .rw[mQ]
  .refine kf _ _ ⟨s2,?_,rfl⟩;have:decide (p z.2=h)=false:=by simp[e]
   rw[ey,tk hz,i7];simp[fq,this]
 .rintro ys σ H2 ⟨_,ey,rfl⟩;rw[gI,<-ce,fO] at ey;rw[ey];exact hd
theorem IL:(["one","other","house"]:List Str).Nodup:=by decide +kernel
theorem xg:aB ["many","ties","house","leading_out","leading_in"] ["many","ties"] (aq Gr):=⟨rfl,rfl,rfl,by decide +kernel,rfl,by decide +kernel,by decide +kernel⟩
theorem Gw(F:eh K "check_balance" "check_balance" Gr f fd)(B:Bl mg)(gM:∃t,mg "MOST_TIES_OUT"=some (.int 8 t)):
  bi P w K mg base bg 1 f fd ["many","ties"] iW:=by
 obtain⟨tM,gM⟩:=gM;refine F.ok xg (fun vs H Q E h=>?_) (fun cM A outer s H vs Q E hr h=>?_)
 .obtain⟨n,l,zs,rfl,_⟩:=h;rfl
 .obtain⟨n,l,zs,rfl,T,k⟩:=h;have fi:=T.tT;have n1:=fi.n1;have n2:=fi.n2;have dq:zs.length<=256:=by have:=fi.len;rw[ce] at this;exact this
  refine'⟨_,ap (cr dw rfl (cq rfl B.range (aa (pv 0) ag)) (az (i:=2) xg.nd rfl (Or.inr rfl))
   (ah (aN (i:=3) xg.nd rfl (Or.inl rfl) (aK aM (by rfl) B.len dE (aa ?c1 ag)))
   (ah (aN (i:=4) xg.nd rfl (Or.inl rfl) (aK aM (by rfl) B.len dE (aa ?c2 ag)))
   (ah (bJ (aO sv (pv 3) (pv 4) (aT _)) cp aQ)
   (ap (bJ (aO pI (pv 3) (gm (v:=.int 8) rfl gM ⟨_,rfl⟩) (aT _)) cp aQ)))))),?_⟩
  case c1=>
   refine' cL (g:=o5 K 2 (dH (bR 0) (dH (bR 1) o4))) (NB:=["one","other","house"]) (src:=[none,none,some 2]) (cA (by kernel_rfl)) rfl (cX (pv 1)) ?g ?t ?e;case g=>exact fun cl C s₃ H₃ fp=>dI (n:=2) rfl (aR (az (i:=0) IL rfl (Or.inl rfl) (Or.inr rfl)) (aR (az (i:=1) IL rfl (Or.inl rfl) (Or.inr rfl)) cJ))
   case t=>exact fun cl C s₃ H₃ fp=>gx (aO j3 (pv 0) (pv 2) (aT _))
   case e=>exact fun cl C s₃ H₃ fp=>pv 0
  case c2=>
   refine' cL (g:=o5 K 2 (dH (bR 0) (dH (bR 1) o4))) (NB:=["one","other","house"]) (src:=[none,none,some 2]) (cA (by kernel_rfl)) rfl (cX (pv 1)) ?g ?t ?e;case g=>exact fun cl C s₃ H₃ fp=>dI (n:=2) rfl (aR (az (i:=0) IL rfl (Or.inl rfl) (Or.inr rfl)) (aR (az (i:=1) IL rfl (Or.inl rfl) (Or.inr rfl)) cJ))
   case t=>exact fun cl C s₃ H₃ fp=>gx (aO j3 (pv 1) (pv 2) (aT _))
   case e=>exact fun cl C s₃ H₃ fp=>pv 1
  refine⟨_,rfl,n,rfl,by lia,by lia,dz (n:=n) (lo:=0) (fun i σ H2=>aE H H2/\∃a b c,σ=[some (.int n),some (.ref l),a,b,c]) ⟨aE.refl _,none,none,none,rfl⟩ ?_ ?_⟩
  .rintro i σ H2 hi ⟨sm,a,b,c,rfl⟩;have T2:=T.same sm;refine⟨_,rfl,l,rfl,⟨_,a_.of T2.at_⟩,fun D hD=>lL (fun σ=>∃a b,σ=[a,b,some (.int (0+(i:Int)))]) (·.1) (·.1) (0+(i:Int)) hD T2.at_ T2.po (by lia) ⟨_,_,rfl⟩ ?_ ?_⟩
   .rintro z σ H3 Kt Kf hj ⟨x,y,rfl⟩ ha kt kf;refine⟨z.1,_,rfl,be.of ha,rfl,_,_,rfl,_,_,rfl,rfl,?_⟩;refine⟨_,rfl,_,rfl,rfl,_,rfl,?_⟩;refine iC (fun e=>?_) (fun e=>?_)
    .exact⟨_,rfl,kt _ ⟨_,_,rfl⟩ (by simpa using e)⟩
    .exact kf _ ⟨_,_,rfl⟩ (by simpa using e)
   .refine⟨D,_,rfl,.inl (a_.of af),?_⟩;have yB:=aW (o:=.lst (IV (((zp zs).filter fun y=>decide (y.1=0+(i:Int))).map (·.1)))) (sm.trans (aE.refl _)) (H:=H) (by cases z:H D with|none=>rfl|some o=>rw[sm _ _ z] at hD;cases hD);have T3:=T.same yB;refine⟨_,rfl,l,rfl,⟨_,a_.of T3.at_⟩,fun D' SW=>lL (fun σ=>∃a b,σ=[a,b,some (.int (0+(i:Int)))]) (·.2) (·.2) (0+(i:Int)) SW T3.at_ T3.po (by lia) ⟨_,_,rfl⟩ ?_ ?_⟩
    .rintro z σ H3 Kt Kf hj ⟨x,y,rfl⟩ ha kt kf;refine⟨z.1,_,rfl,be.of ha,rfl,_,_,rfl,_,_,rfl,rfl,?_⟩;refine⟨_,rfl,_,rfl,rfl,_,rfl,?_⟩;refine iC (fun e=>?_) (fun e=>?_)
     .exact⟨_,rfl,kt _ ⟨_,_,rfl⟩ (by simpa using e)⟩
     .exact kf _ ⟨_,_,rfl⟩ (by simpa using e)
    .refine⟨D',_,rfl,.inl (a_.of af),?_⟩;rw[fS] at *;have q1:(IV (((zp zs).filter fun y=>decide (y.1=(i:Int))).map (·.1))).length=(IV (((zp zs).filter fun y=>decide (y.2=(i:Int))).map (·.2))).length:=by
      rw[aI,aI,aI,aI];exact fi.Vp i
     have q2:(IV (((zp zs).filter fun y=>decide (y.1=(i:Int))).map (·.1))).length<=8:=by
      rw[aI,aI];exact fi.most i
     refine⟨_,rfl,_,rfl,rfl,_,rfl,?_⟩;rw[<-q1];rw[show (!decide (V.int (((IV (((zp zs).filter fun y=>decide (y.1=(i:Int))).map (·.1))).length:Nat):Int)=V.int (((IV (((zp zs).filter fun y=>decide (y.1=(i:Int))).map (·.1))).length:Nat):Int)))=false by simp];refine fX ?_;refine⟨_,rfl,_,_,rfl,rfl,_,rfl,?_⟩;rw[show decide ((((IV (((zp zs).filter fun y=>decide (y.1=(i:Int))).map (·.1))).length:Nat):Int) > 8)=false by rw[decide_eq_false_iff_not];lia];exact fX ⟨yB.trans (aj SW),_,_,_,rfl⟩
  .rintro σ H2 ⟨sm,a,b,c,rfl⟩;exact k H2 sm
end
def Dk:Expr:=match (bz tV).getD 1 (.Pass ⟨0,0,0,0⟩) with
 |.Return (some (.Call _ _ (k::_) _)) _=>k.value
 |_=>.Name "x" ⟨0,0,0,0⟩
def Dl:Arguments:=match Dk with
 |.Lambda a _ _ _=>a
 |_=>{ posonlyargs:=[],args:=[],vararg:=none,kwonlyargs:=[],kw_defaults:=[],kwarg:=none,defaults:=[] }
def Dm:Expr:=match Dk with
 |.Lambda _ b _ _=>b
 |e=>e
def KB:Scope:=match Dk with
 |.Lambda _ _ s _=>s
 |_=>{ kind:=.function,names:=[],isGenerator:=false,isCoroutine:=false }
def Gx:Pos:=match Dk with
 |.Lambda _ _ _ p=>p
 |_=>⟨0,0,0,0⟩
def E2:Str:=("houses_out":Str)++".<locals>."++"<lambda>"
abbrev jI(Pt:Addr)(H:Hp):Prop:=d_ Gx E2 Pt H
def iN(Pt:Addr)(H H':Hp):Prop:=∀b o,H b=some o->b≠Pt->H' b=some o
theorem iN.of(a:aE H H'):iN Pt H H':=fun c o h _=>a c o h
theorem jI.not(t:jI Pt H)(h:H b=some o)(n:∀ps,o≠.mO ps):b≠Pt:=by
 rintro rfl;rcases t with z|⟨c,z,_⟩ <;> · rw[h] at z;exact n _ (bA z)
theorem jI.same(t:jI Pt H)(e:aE H H'):jI Pt H':=by
 rcases t with z|⟨c,z,y⟩
 .exact .inl (e _ _ z)
 .exact .inr ⟨c,e _ _ z,e _ _ y⟩
theorem Dn{n a b h:Int}(hn:0<n)(a0:0<=a)(a1:a<n)(b0:0<=b)(b1:b<n)(e:(a-h) % n=(b-h) % n):a=b:=by
 have h1:=Int.emod_emod_of_dvd (a-h) (Int.dvd_refl n);have q:(a-b) % n=0:=by
  have:a-b=(a-h)-(b-h):=by lia
  rw[this,Int.sub_emod,e,Int.sub_self,Int.zero_emod]
 obtain⟨c,hc⟩:=Int.dvd_of_emod_eq_zero q;have c0:c=0:=by
  rcases Int.lt_trichotomy c 0 with z|z|z
  .have:n*c<=n*(-1):=y6 (by lia) (by lia);lia
  .exact z
  .have:n*1<=n*c:=y6 (by lia) (by lia);lia
 rw[c0] at hc;lia
theorem pi{ts:Ts}{h:Int}(nd:ts.Nodup):((ts.filter fun y=>decide (y.1=h)).map (·.2)).Nodup:=by
 refine L2.lB (nd.filter _) fun x hx y hy e=>?_;have a:=(d8.mp hx).2;have b:=(d8.mp hy).2;simp at a b;exact gg (a.trans b.symm) e
theorem yC{n:Nat}{ts:Ts}{h:Nat}(F:lI n ts)(hh:h<n){a7:List Int}(ko:F5 (h:Int) (n:Int) ((ts.filter fun y=>decide (y.1=(h:Int))).map (·.2)) a7):a7.map V.int=NV (gE n ts h):=by
 obtain⟨ps,hp,rfl,hs⟩:=ko;have yc:(ps.map (·.2)).Perm ((ts.filter fun y=>decide (y.1=(h:Int))).map (·.2)):=by
  have:=hp.map (·.2);rw[gW] at this;refine this.trans (qF ?_);conv=>rhs;rw[<-il ((ts.filter fun y=>decide (y.1=(h:Int))).map (·.2))]
  rfl
 have mem:∀z,z∈ps.map (·.2)↔((h:Int),z)∈ts:=fun z=>by
  rw[yc.mem_iff,bQ];constructor
  .rintro⟨y,hy,rfl⟩;obtain⟨y1,y2⟩:=d8.mp hy;have:y.1=(h:Int):=by simpa using y2
   rw[<-this];exact y1
  .intro hz;exact⟨_,d8.mpr ⟨hz,by simp⟩,rfl⟩
 have nd:(ps.map (·.2)).Nodup:=yc.nodup_iff.mpr (pi F.nd);have key:∀q∈ps,q.1=(q.2-(h:Int)) % (n:Int):=fun q hq=>by
  obtain⟨z,_,e⟩:=bQ.mp (hp.mem_iff.mp hq);rw[<-e]
 have hn:(0:Int)<n:=by have:=F.n1;lia
 have sorted:(ps.map (·.2)).Pairwise fun x y=>(x-(h:Int)) % (n:Int)<(y-(h:Int)) % (n:Int):=by
  refine lX.mpr ?_;have Vw:=lX.mp nd;refine(hs.and Vw).imp_of_mem fun {x y} hx hy EU=>?_;have l1:=EU.1;rw[key x hx,key y hy] at l1;have ax:=F.rg _ ((mem x.2).mp (bQ.mpr ⟨x,hx,rfl⟩));have ay:=F.rg _ ((mem y.2).mp (bQ.mpr ⟨y,hy,rfl⟩));have ne:(x.2-(h:Int)) % (n:Int)≠(y.2-(h:Int)) % (n:Int):=fun z=>EU.2 (Dn hn ax.2.1 ax.2.2 ay.2.1 ay.2.2 z);lia
 have e:ps.map (·.2)=(gE n ts h).map fun (o:Nat)=>(o:Int):=by
  refine me (k:=fun z=>(z-(h:Int)) % (n:Int)) sorted ?_ fun z=>?_
  .refine lX.mpr ?_;exact tK hh
  .rw[mem,bQ];constructor
   .intro hz;have r:=F.rg _ hz;refine⟨z.toNat,(iI F hh).mpr ?_,by lia⟩;show (((h:Nat):Int),((z.toNat:Nat):Int))∈ts;rw[show ((z.toNat:Nat):Int)=z by lia];exact hz
   .rintro⟨o,ho,rfl⟩;exact(iI F hh).mp ho
 rw[e,gW];rfl
section
variable {P:Program} {w:World} {K:PySem.W.Frag} {mg:Str->Option Value} {base:Heap}
theorem AM:aB ["many","ties","house","others"] ["many","ties","house"] (aq tV):=⟨rfl,rfl,rfl,by decide +kernel,rfl,by decide +kernel,by decide +kernel⟩
def rE(Pt:Addr):Sp:=fun vs H Q _=>∃ (n:Nat) (l:Addr) (h:Nat) (zs:Zs),vs=[.int n,.ref l,.int h]/\h<n/\dY H l n zs/\jI Pt H/\
 ∀ (r:Addr) (H':Hp),jI Pt H'->iN Pt H H'->H r=none->H' r=some (.lst (NV (gE n (zp zs) h)))->Q (.ref r) H'
theorem Do(F:sV K "houses_out" "houses_out" tV f fd c)(B:Bl mg)(kb:K.In base)(hb:pb mg base)(hc:PySem.W.codeHdIn K c Pt=true):
  bi P w K mg base bg 1 f fd ["many","ties","house"] (rE Pt):=by
 refine F.ok AM (fun vs H Q E h=>?_) (fun A outer s H vs Q E hr h=>?_)
 .obtain⟨n,l,h,zs,rfl,_⟩:=h;rfl
 .obtain⟨n,l,h,zs,rfl,hh,T,tb,k⟩:=h;have fi:=T.tT;have n1:=fi.n1;have dq:zs.length<=256:=by have:=fi.len;rw[ce] at this;exact this
  have LS:J5 (gv bg P w K mg base ["many","ties","house","others"] "houses_out" (aq tV) f (.ref c) A outer s H E).Ew E2 Dl Dm KB "other" "house" "many" 2 0:=
   ⟨⟨_,_,_,_,_,rfl⟩,fun _ _ _ _ _=>rfl,rfl,rfl,rfl,rfl,rfl,rfl,rfl,by decide +kernel,by decide +kernel,by decide +kernel,rfl,rfl,rfl,by decide,⟨by decide,by decide⟩,⟨by decide,by decide⟩⟩
  refine'⟨_,ah (jC (i:=3) (g:=o5 K 2 (dH (bR 0) (dH (bR 1) o4))) (NB:=["one","other","house"]) (src:=[none,none,some 2]) (cA (by kernel_rfl)) rfl (cX (pv 1)) ?g ?t ?e AM.nd rfl rfl rfl)
   (ap (aJ (yb (vz LS hr) rfl B.sorted zf (aa (pv 3) ag) (Ct (z_ (NB:=["other","house","many"]) (src:=[none,some 2,some 0]) (wK kb hb hc) (cA (by kernel_rfl))) FO)))),?_⟩
  case g=>exact fun cl C s₃ H₃ fp=>dI (n:=2) rfl (aR (az (i:=0) IL rfl (Or.inl rfl) (Or.inr rfl)) (aR (az (i:=1) IL rfl (Or.inl rfl) (Or.inr rfl)) cJ))
  case t=>exact fun cl C s₃ H₃ fp=>gx (aO j3 (pv 0) (pv 2) (aT _))
  case e=>exact fun cl C s₃ H₃ fp=>pv 1
  refine⟨_,rfl,l,rfl,⟨_,a_.of T.at_⟩,fun D hD=>lL (fun σ=>∃a b,σ=[a,b,some (.int (h:Int))]) (·.1) (·.2) (h:Int) hD T.at_ T.po (by lia) ⟨_,_,rfl⟩ ?_ ?_⟩
  .rintro z σ H3 Kt Kf hj ⟨x,y,rfl⟩ ha kt kf;refine⟨z.1,_,rfl,be.of ha,rfl,_,_,rfl,_,_,rfl,rfl,?_⟩;refine⟨_,rfl,_,rfl,rfl,_,rfl,?_⟩;refine iC (fun e=>?_) (fun e=>?_)
   .exact⟨_,rfl,kt _ ⟨_,_,rfl⟩ (by simpa using e)⟩
   .exact kf _ ⟨_,_,rfl⟩ (by simpa using e)
  .generalize SX:((zp zs).filter fun y=>decide (y.1=(h:Int))).map (·.2)=os;have EI:os.length<=8:=by rw[<-SX,aI];exact fi.most h
   have sm:aE H (upd H D (.lst (IV os))):=aj hD;refine⟨_,rfl,tb.same sm,fun f' c' H2 OW fK B_ xW=>?_⟩;have t2:jI Pt H2:=OW;have mC:H2 D=some (.lst (IV os)):=fK _ _ af ((tb.same sm).not af (by intro ps z;cases z));refine⟨D,f',c',os,h,n,rfl,rfl,a_.of mC,(by lia),xW,B_,rfl,rfl,by lia,fun r a7 wz ko=>?_⟩;rw[<-SX] at ko;rw[yC fi hh ko];have yB:aE H2 (upd H2 r (.lst (NV (gE n (zp zs) h)))):=aj wz;refine k r _ (t2.same yB) (fun b o e hb=>yB _ _ (fK b o (sm _ _ e) hb)) ?_ af;cases z:H r with
   |none=>rfl
   |some o=>
    by_cases hP:r=Pt
    .rcases t2 with q|⟨_,q,_⟩ <;> · rw[<-hP,wz] at q;cases q
    .rw[fK r o (sm _ _ z) hP] at wz;cases wz
end
abbrev AN:Stmt:=fz 30
abbrev vS:Stmt:=fz 31
def i6(n:Nat)(R:List Nat)(f:Nat->Nat):List V:=(List.range n).map fun x=>if x∈R then V.int ((f x:Nat):Int) else .bD
theorem iO:(i6 n R f).length=n:=by unfold i6;rw[aI,fN]
theorem iP(h:x<n):(i6 n R f)[x]?=some (if x∈R then V.int ((f x:Nat):Int) else .bD):=by
 unfold i6;rw[bh,qt h];rfl
theorem vT(hs:s<n):(List.replicate n V.bD).set s (V.int 0)=i6 n [s] (fun _=>0):=by
 apply uN;intro x;by_cases hx:x<n
 .rw[iP hx];by_cases e:x=s
  .subst e;rw[nE (by rw[nw];exact hx),ak (by simp)];rfl
  .rw[qp (fun z=>e z.symm),List.getElem?_replicate,ak hx,ai (by simp[e])]
 .rw[lU (by rw[jl,nw];lia),lU (by rw[iO];lia)]
theorem AO(hv:v<n):(i6 n R f).set v (V.int ((k:Nat):Int))=i6 n (R++[v]) (put f v k):=by
 apply uN;intro x;by_cases hx:x<n
 .rw[iP hx];by_cases e:x=v
  .subst e;rw[nE (by rw[iO];exact hx),ak (by simp),iJ]
  .rw[qp (fun z=>e z.symm),iP hx,eD e];by_cases h:x∈R
   .rw[ak h,ak (jP _ h)]
   .rw[ai h,ai (fun z=>(dk.mp z).elim h fun z=>e (by simpa using z))]
 .rw[lU (by rw[jl,iO];lia),lU (by rw[iO];lia)]
def KC(σ:St):Nat:=match σ[4]? with
 |some (some (V.int z))=>z.toNat
 |_=>0
theorem Vx:(["others"]:List Str).Nodup:=by decide +kernel
def oM(H:Hp)(ol:Addr)(n:Nat)(ts:Ts):Prop:=∃bs:List Addr,H ol=some (.lst (bs.map V.ref))/\Holds H bs n (fun h=>.lst (NV (gE n ts h)))
theorem oM.same(x:oM H ol n ts)(e:aE H H'):oM H' ol n ts:=let ⟨bs,a,b⟩:=x;⟨bs,e _ _ a,b.mono fun _ _ z=>e _ _ z⟩
theorem E3{as:List Addr}{i:Nat}{x:V}(h:(as.map V.ref)[i]?=some x):i<as.length/\x=.ref (as.getD i 0):=by
 rw[bh] at h;cases e:as[i]? with
 |none=>rw[e] at h;cases h
 |some a=>
  rw[e] at h;refine⟨(di.mp e).1,?_⟩;rw[bE,e];exact(bA h).symm
section
variable {P:Program} {w:World} {K:PySem.W.Frag} {mg:Str->Option Value} {base:Heap}
theorem jJ:aB ["out_lists","start","distances","reached","at","house","other"] ["out_lists","start"] (aq AN):=⟨rfl,rfl,rfl,by decide +kernel,rfl,by decide +kernel,by decide +kernel⟩
def rF:Sp:=fun vs H Q _=>∃ (ol:Addr) (n s:Nat) (ts:Ts),vs=[.ref ol,.int s]/\lI n ts/\s<n/\oM H ol n ts/\
 ∀ (r:Addr) (H':Hp),aE H H'->H r=none->H' r=some (.lst (NV ((List.range n).map (EW ts s))))->Q (.ref r) H'
theorem Dp{f:Addr}{fd:FuncData}(F:eh K "distances_from" "distances_from" AN f fd)(B:Bl mg):bi P w K mg base bg 1 f fd ["out_lists","start"] rF:=by
 refine F.ok jJ (fun vs H Q E h=>?_) (fun cM A outer s H vs Q E hr h=>?_)
 .obtain⟨ol,n,s,ts,rfl,_⟩:=h;rfl
 .obtain⟨ol,n,st,ts,rfl,fi,hs,O,k⟩:=h;have n1:=fi.n1;have n2:=fi.n2;refine'⟨_,ah (jC (i:=2) (g:=bR 0) (NB:=["others"]) (src:=[none]) (cA (by kernel_rfl)) rfl (cX (pv 0)) ?g ?t ?e jJ.nd rfl rfl rfl)
   (ah (iB av (n9 (pv 2) (pv 1) fU))
   (ah (aN (i:=3) jJ.nd rfl (Or.inl rfl) (cR (aa (pv 1) ag)))
   (ah (aN (i:=4) jJ.nd rfl (Or.inl rfl) av)
   (ah (n_ dw (aO og (pv 4) (aK aM (by rfl) B.len dE (aa (pv 3) ag)) (aT _))
    (ah (aN (i:=5) jJ.nd rfl (Or.inl rfl) (bq bt (pv 3) (pv 4) (fun _ _=>rfl)))
    (ah (cr dw rfl (cX (bq bt (pv 0) (pv 5) (fun _ _=>rfl))) (az (i:=6) jJ.nd rfl (Or.inl rfl))
     (ap (bJ (aO zA (bq bt (pv 2) (pv 6) (fun _ _=>rfl)) cP (aT _))
      (ah (iB (aX et (bq bt (pv 2) (pv 5) (fun _ _=>rfl)) av) (n9 (pv 2) (pv 6) fU))
      (ap (bL (eW eO eN eM bv (pv 3) (aa (pv 6) ag))))) aQ)))
    (ap (k9 (i:=4) jJ.nd rfl (Or.inl rfl) av u6)))))
   (ap (aJ (pv 2))))))),?_⟩
  case g=>exact fun cl C s₃ H₃ fp=>az (i:=0) Vx rfl (Or.inl rfl) (Or.inr rfl)
  case t=>exact fun cl C s₃ H₃ fp=>dZ
  case e=>exact fun cl C s₃ H₃ fp=>cP
  obtain⟨bs,EI,OX,IC⟩:=id O;refine⟨_,rfl,ol,rfl,⟨_,a_.of EI⟩,fun D hD=>?_⟩;have Vy:ol≠D:=ao EI hD;refine dW (xs:=bs.map V.ref) (fun i ys σ H2=>(∃a,σ=[a])/\ys=List.replicate i V.bD/\H2=upd H D (.lst ys)) ⟨⟨_,rfl⟩,rfl,rfl⟩ (fun i ys σ H2 _ ⟨_,_,e⟩=>by rw[e];exact a_.of (by rw[am Vy];exact EI)) ?_ ?_
  .rintro i x ys σ H2 Kt Kf hx ⟨⟨a,rfl⟩,rfl,rfl⟩ kt kf;have hi:=(E3 hx).1;refine kt _ _ _ af ?_ ⟨⟨_,rfl⟩,?_,by rw[mQ]⟩
   .rw[nw];exact bX hi (by rw[OX];exact bn n2 (by decide))
   .rw[uy]
  .rintro ys σ H2 ⟨_,rfl,rfl⟩;rw[aI,OX];refine⟨_,rfl,_,rfl,D,_,st,st,rfl,rfl,af,by rw[nw];exact iV hs,?_⟩;rw[mQ,vT hs];refine⟨_,rfl,by show 1<=sizeLine;decide,fun R hR=>?_⟩;have M2:D≠R:=ao (H:=upd H D (.lst (i6 n [st] (fun _=>0)))) af hR;have OY:H R=none:=by rw[am M2.symm] at hR;exact hR
   refine zw (fun σ H2=>∃ (i:Nat) (Rs:List Nat) (f:Nat->Nat),i<=Rs.length/\yu n ts st i Rs f/\(∃a b,σ=[some (.ref ol),some (.int st),some (.ref D),some (.ref R),some (.int (i:Int)),a,b])/\aE H H2/\H2 D=some (.lst (i6 n Rs f))/\H2 R=some (.lst (NV Rs)))
    (fun σ _=>n-KC σ) ⟨0,[st],fun _=>0,cE _,yu.start hs,⟨none,none,rfl⟩,aW (aj hD) OY,?_,af⟩ ?_ ?_
   .rw[am M2,af]
   .rintro σ H2 ⟨i,Rs,f,hi,Bf,⟨a,b,rfl⟩,sm,mC,OZ⟩;have Xb:Rs.length<=n:=gG Bf.nd Bf.lt;refine⟨_,rfl,_,rfl,R,_,rfl,.inl (a_.of OZ),_,_,rfl,rfl,_,rfl,?_⟩;rw[bb];by_cases pY:i<Rs.length
    .rw[show decide ((i:Int)<((Rs.length:Nat):Int))=true by simp;lia];refine mw ?_;have hu:Rs[i]?=some Rs[i]:=bC pY;generalize Rs[i]=u at hu;have Dq:u<n:=Bf.lt u (cC hu);have Vz:(NV Rs)[i]?=some (.int (u:Int)):=by rw[bh,hu];rfl
     refine⟨_,rfl,_,rfl,R,_,_,_,rfl,rfl,a_.of OZ,aY Vz,?_⟩;have M3:(bs.map V.ref)[u]?=some (.ref (bs.getD u 0)):=by
      rw[bh,bE,bC (by rw[OX];exact Dq)];rfl
     have VA:=sm _ _ (IC _ Dq);refine⟨_,rfl,_,rfl,ol,_,_,_,rfl,rfl,a_.of (sm _ _ EI),aY M3,_,rfl,⟨_,a_.of VA⟩,?_⟩;have Xc:bs.getD u 0≠D:=ao (IC _ Dq) hD;have Xd:bs.getD u 0≠R:=ao (IC _ Dq) OY;refine jZ (K:=K) (xs:=NV (gE n ts u)) (fun j σ H3=>∃ (mD:List Nat) (f':Nat->Nat),yu n ts st i mD f'/\mD[i]?=some u/\(∀v∈(gE n ts u).take j,v∈mD/\f' v<=f' u+1)/\
      (∃b,σ=[some (.ref ol),some (.int st),some (.ref D),some (.ref R),some (.int (i:Int)),some (.int (u:Int)),b])/\aE H H3/\H3 D=some (.lst (i6 n mD f'))/\H3 R=some (.lst (NV mD)))
      ⟨Rs,f,Bf,hu,fun v hv=>by simp at hv,⟨_,rfl⟩,sm,mC,OZ⟩ (fun j σ H3 _ ⟨_,_,_,_,_,_,E4,_⟩=>a_.of (E4 _ _ (IC _ Dq))) ?_ ?_
     .rintro j x σ H3 hx ⟨mD,f',Dr,ww,dn,⟨b',rfl⟩,E4,pj,tG⟩;rw[bh] at hx;cases hv:(gE n ts u)[j]? with
      |none=>rw[hv] at hx;cases hx
      |some v=>
       rw[hv] at hx;obtain rfl:V.int ((v:Nat):Int)=x:=bA hx;have SY:v∈gE n ts u:=cC hv;have M4:v<n:=C8 fi Dq SY;have VB:T ts u v:=(iI fi Dq).mp SY;have tk:(gE n ts u).take (j+1)=(gE n ts u).take j++[v]:=by rw[d7,hv];rfl
       have KD:u∈mD:=cC ww;refine⟨_,rfl,_,rfl,D,_,_,_,rfl,rfl,a_.of pj,aY (iP M4),rfl,_,rfl,?_⟩;by_cases Gy:v∈mD
       .rw[ak Gy];refine fX ⟨mD,f',Dr,ww,fun x hx=>?_,⟨_,rfl⟩,E4,pj,tG⟩;rw[tk] at hx;rcases dk.mp hx with z|z
        .exact dn x z
        .simp at z;subst z;exact⟨Gy,Dr.bd u ww _ Gy⟩
       .rw[ai Gy];refine mw ?_;have VC:(i6 n mD f')[u]?=some (.int ((f' u:Nat):Int)):=by rw[iP Dq,ak KD]
        refine⟨_,rfl,_,rfl,D,_,_,_,rfl,rfl,a_.of pj,aY VC,_,_,rfl,rfl,_,rfl,_,rfl,D,_,_,_,rfl,rfl,pj,by rw[iO];exact iV M4,?_⟩;have e1:(i6 n mD f').set v (.int (((f' u:Nat):Int)+1))=i6 n (mD++[v]) (put f' v (f' u+1)):=by
         rw[show ((f' u:Nat):Int)+1=((f' u+1:Nat):Int) by lia,AO M4]
        rw[e1];have tI:(upd H3 D (.lst (i6 n (mD++[v]) (put f' v (f' u+1))))) R=some (.lst (NV mD)):=by rw[am M2.symm];exact tG
        have KE:mD.length<=n:=gG Dr.nd Dr.lt;refine⟨_,rfl,.inl ⟨rfl,_,a_.of tI⟩,_,rfl,R,_,_,rfl,rfl,tI,by rw[bb];exact bX (show mD.length<33 by lia) (by decide),?_⟩;have BZ:i<mD.length:=(di.mp ww).1;have VD:u≠v:=fun z=>Gy (z ▸ KD);refine⟨mD++[v],put f' v (f' u+1),Dr.add ww M4 VB Gy,by rw[lT BZ];exact ww,fun x hx=>?_,⟨_,rfl⟩,aW (aW E4 hD) OY,?_,?_⟩
        .rw[eD VD];rw[tk] at hx;rcases dk.mp hx with z|z
         .obtain⟨q1,q2⟩:=dn x z;exact⟨jP _ q1,by rw[eD (fun (z:x=v)=>Gy (z ▸ q1))];exact q2⟩
         .simp at z;subst z;exact⟨by simp,by rw[iJ];exact aF _⟩
        .rw[am M2,af]
        .rw[af];show _=some (HO.lst (NV (mD++[v])));rw[show NV (mD++[v])=NV mD++[.int (v:Int)] by unfold NV;rw[cn];rfl]
     .rintro σ H3 ⟨mD,f',Dr,ww,dn,⟨b',rfl⟩,E4,pj,tG⟩;rw[bb,fO] at dn;have BZ:i<mD.length:=(di.mp ww).1;have KE:mD.length<=n:=gG Dr.nd Dr.lt;refine⟨_,rfl,_,_,rfl,rfl,⟨⟨i+1,mD,f',BZ,Dr.next ww (fun v t=>dn v ((iI fi Dq).mpr t)),⟨_,_,rfl⟩,E4,pj,tG⟩,?_⟩⟩;show n-((i:Int)+1).toNat<n-(i:Int).toNat;lia
    .rw[show decide ((i:Int)<((Rs.length:Nat):Int))=false by rw[decide_eq_false_iff_not];lia];have e:i6 n Rs f=NV ((List.range n).map (EW ts st)):=by
      unfold i6 NV;rw[gW];refine jQ fun x hx=>?_;obtain⟨q1,q2⟩:=Bf.done fi (by lia) (cD.mp hx);rw[ak q1,q2];rfl
     rw[e] at mC;refine fX ⟨_,rfl,k D H2 sm hD mC⟩
   .rintro σ H2 Q1 Q2 imp ⟨v,e1,v2,e2,p,ys,e3,e4,i1,i2,e5,e6,kk,e7,q⟩;exact⟨v,e1,v2,e2,p,ys,e3,e4,i1,i2,e5,e6,kk,e7,imp _ _ q⟩
end
theorem KG:(["row"]:List Str).Nodup:=by decide +kernel
section
variable {P:Program} {w:World} {K:PySem.W.Frag} {mg:Str->Option Value} {base:Heap}
theorem Ds:aB ["distances"] ["distances"] (aq vS):=⟨rfl,rfl,rfl,by decide +kernel,rfl,by decide +kernel,by decide +kernel⟩
def rG:Sp:=fun vs H Q _=>∃ (l:Addr) (ds:List Addr) (n:Nat) (o:Nat->List V),vs=[.ref l]/\H l=some (.lst (ds.map V.ref))/\n<=32/\Holds H ds n (fun j=>.lst (o j))/\(∀j,j<n->∀x∈o j,∃i,x=.int i)/\∀H',aE H H'->Q .bD H'
theorem AQ(F:eh K "check_reached" "check_reached" vS f fd)(B:Bl mg):bi P w K mg base bg 1 f fd ["distances"] rG:=by
 refine F.ok Ds (fun vs H Q E h=>?_) (fun cM A outer s H vs Q E hr h=>?_)
 .obtain⟨l,ds,n,o,rfl,_⟩:=h;rfl
 .obtain⟨l,ds,n,o,rfl,hl,n2,hh,hx,k⟩:=h;refine'⟨_,ap (bJ (dg (aK (x_ rfl) (by rfl) B.any PyProof.Rows.boot_any (aa ?c ag))) cp aQ),?_⟩;case c=>
   refine' cL (g:=bR 0) (te:=pG (RP K false) (tC .bD) (bU 0)) (NB:=["row"]) (src:=[none]) (cA (by kernel_rfl)) rfl (cX (pv 0)) ?g ?t ?e;case g=>exact fun cl C s₃ H₃ fp=>az (i:=0) KG rfl (Or.inl rfl) (Or.inr rfl)
   case t=>exact fun cl C s₃ H₃ fp=>dZ
   case e=>exact fun cl C s₃ H₃ fp=>gs xL cP (pv 0) rfl
  refine⟨_,rfl,l,rfl,⟨_,a_.of hl⟩,fun D hD=>?_⟩;have nl:l≠D:=ao hl hD;refine dW (xs:=ds.map V.ref) (fun i ys σ H2=>(∃a,σ=[a])/\ys=(List.replicate i false).map V.bl/\H2=upd H D (.lst ys)) ⟨⟨_,rfl⟩,rfl,rfl⟩ (fun i ys σ H2 _ ⟨_,_,e⟩=>by rw[e];exact a_.of (by rw[am nl];exact hl)) ?_ ?_
  .rintro i x ys σ H2 Kt Kf VE ⟨⟨a,rfl⟩,rfl,rfl⟩ kt kf;obtain⟨hi,rfl⟩:=E3 VE;rw[hh.1] at hi;have hd:=hh.2 i hi;have nd:ds.getD i 0≠D:=ao hd hD;have q1:(o i).all dJ=true:=hV.mpr fun x qT=>by obtain⟨z,rfl⟩:=hx i hi x qT;rfl
   have q2:MG .bD (o i)=false:=by
    unfold MG;rw[uO];intro x qT;obtain⟨z,rfl⟩:=hx i hi x qT;exact fun z=>by cases z
   refine⟨_,rfl,_,_,rfl,.inl (a_.of (by rw[am nd];exact hd)),rfl,q1,?_⟩;refine kt _ _ _ af ?_ ⟨⟨_,rfl⟩,?_,by rw[mQ]⟩
   .rw[aI,nw];exact bX hi (bn n2 (by decide))
   .rw[uy,cn,q2];rfl
  .rintro ys σ H2 ⟨_,rfl,rfl⟩;refine⟨D,_,rfl,a_.of af,_,rfl,?_⟩;have e:(List.replicate (ds.map V.ref).length false).any id=false:=by
    rw[uO];intro x qT;rw[(List.mem_replicate.mp qT).2];decide
   rw[e];exact fX (k _ (aj hD))
end
theorem SZ:(["one","other"]:List Str).Nodup:=by decide +kernel
theorem KH:(["house","many","ties"]:List Str).Nodup:=by decide +kernel
theorem O0:(["house","self"]:List Str).Nodup:=by decide +kernel
def ja(p Pt:Addr)(H H':Hp):Prop:=∀b o,H b=some o->b≠p->b≠Pt->H' b=some o
theorem dY.mono(h:dY H l n zs)(e:ja p Pt H H')(hp:H p=some (.ins C dx fs))(tb:jI Pt H):dY H' l n zs:=
 ⟨h.tT,e _ _ h.at_ (dF h.at_ hp (by intro z;cases z)) (tb.not h.at_ (by intro ps z;cases z)),fun z hz=>e _ _ (h.po z hz) (dF (h.po z hz) hp (by intro z;cases z)) (tb.not (h.po z hz) (by intro ps z;cases z))⟩
theorem jI.mono(t:jI Pt H)(e:∀b o,H b=some o->b≠p->H' b=some o)(hp:H p=some (.ins C dx fs)):jI Pt H':=by
 rcases t with z|⟨c,z,y⟩
 .exact .inl (e _ _ z (dF z hp (by intro q;cases q)))
 .exact .inr ⟨c,e _ _ z (dF z hp (by intro q;cases q)),e _ _ y (dF y hp (by intro q;cases q))⟩
theorem jI.full(t:jI Pt H):H Pt≠none:=by
 rcases t with z|⟨c,z,y⟩ <;> rw[z] <;> intro q <;> cases q
theorem ja.free(s:ja p Pt H H')(hp:H' p≠none)(tb:jI Pt H')(h:H' r=none):H r=none:=by
 cases z:H r with
 |none=>rfl
 |some o=>
  by_cases e1:r=p
  .subst e1;exact absurd h hp
  .by_cases e2:r=Pt
   .subst e2;exact absurd h tb.full
   .rw[s r o z e1 e2] at h;cases h
theorem KI(h:k [] H):mq σ H k:=h
theorem iX{H:Hp}{p:Addr}{o:HO}(h:H p=some o):H p≠none:=by rw[h];intro z;cases z
section
variable {P:Program} {w:World} {K:PySem.W.Frag} {mg:Str->Option Value} {base:Heap}
theorem Gz:aB ["self","many","ties"] ["self","many","ties"] (aq xc):=⟨rfl,rfl,rfl,by decide +kernel,rfl,by decide +kernel,by decide +kernel⟩
def vU(C Pt:Addr):Sp:=fun vs H Q E=>∃ (p dx:Addr) (n:Nat) (l:Addr) (zs:Zs),vs=[.ref p,.int n,.ref l]/\H p=some (.ins C dx [])/\dY H l n zs/\jI Pt H/\
  ∀H',gb C H' (fun a=>H a=none) p n (zp zs)->jI Pt H'->ja p Pt H H'->Q .bD H'
theorem Dt{f C Pt:Addr}{fd:FuncData}(F:eh K "__init__" "Net.__init__" xc f fd)(T:NT K mg C)(B:Bl mg)(CT:bZ P w K mg base bg 6 "check_ties" ["many","ties"] iW)(CB:bZ P w K mg base bg 1 "check_balance" ["many","ties"] iW)(VF:bZ P w K mg base bg 1 "houses_out" ["many","ties","house"] (rE Pt))(DF:bZ P w K mg base bg 1 "distances_from" ["out_lists","start"] rF)(CR:bZ P w K mg base bg 1 "check_reached" ["distances"] rG):
  bi P w K mg base bg 7 f fd ["self","many","ties"] (vU C Pt):=by
 refine F.ok Gz (fun vs H Q E h=>?_) (fun cM A outer s H vs Q E hr h=>?_)
 .obtain⟨p,dx,n,l,zs,rfl,_⟩:=h;rfl
 .have GA:bO 1 _:=hr.mono (by decide);refine'⟨_,ah (bL (aA CT hr aL (aa (pv 1) (aa (pv 2) ag))))
   (ah (bL (aA CB GA aL (aa (pv 1) (aa (pv 2) ag))))
   (ah (lu (pv 0) (pv 1) rfl)
   (ah (lu (pv 0) (aK vF (by rfl) B.sorted zf (aa ?c1 ag)) rfl)
   (ah (lu (pv 0) ?c2 rfl)
   (ah (lu (pv 0) ?c3 rfl)
   (ap (bL (aA CR GA aL (aa (jy (pv 0) rfl) ag))))))))),?_⟩
  case c1=>
   refine' cL (g:=o5 K 2 (dH (bR 0) (dH (bR 1) o4))) (te:=Cp (cK (bU 0) (cK (bU 1) mq))) (NB:=["one","other"]) (src:=[none,none]) (cA (by kernel_rfl)) rfl (cX (pv 2)) ?g ?t ?e;case g=>exact fun cl C s₃ H₃ fp=>dI (n:=2) rfl (aR (az (i:=0) SZ rfl (Or.inl rfl) (Or.inr rfl)) (aR (az (i:=1) SZ rfl (Or.inl rfl) (Or.inr rfl)) cJ))
   case t=>exact fun cl C s₃ H₃ fp=>dZ
   case e=>exact fun cl C s₃ H₃ fp=>dt (aa (pv 0) (aa (pv 1) ag))
  case c2=>
   refine' cL (g:=bR 0) (te:=om (rE Pt) [] E0 (cK (bU 1) (cK (bU 2) (cK (bU 0) mq)))) (NB:=["house","many","ties"]) (src:=[none,some 1,some 2]) (cA (by kernel_rfl)) rfl (cq rfl B.range (aa (pv 1) ag)) ?g ?t ?e;case g=>exact fun cl C s₃ H₃ fp=>az (i:=0) KH rfl (Or.inl rfl) (Or.inr rfl)
   case t=>exact fun cl C s₃ H₃ fp=>dZ
   case e=>exact fun cl C s₃ H₃ fp=>aA VF GA aL (aa (pv 1) (aa (pv 2) (aa (pv 0) ag)))
  case c3=>
   refine' cL (g:=bR 0) (te:=om rF [] E0 (cK (JB K (bU 1) "out_lists") (cK (bU 0) mq))) (NB:=["house","self"]) (src:=[none,some 0]) (cA (by kernel_rfl)) rfl (cq rfl B.range (aa (pv 1) ag)) ?g ?t ?e;case g=>exact fun cl C s₃ H₃ fp=>az (i:=0) O0 rfl (Or.inl rfl) (Or.inr rfl)
   case t=>exact fun cl C s₃ H₃ fp=>dZ
   case e=>exact fun cl C s₃ H₃ fp=>aA DF GA aL (aa (jy (pv 1) rfl) (aa (pv 0) ag))
  obtain⟨p,dx,n,l,zs,rfl,hp,TT,tb,k⟩:=h;have fi:=TT.tT;have n1:=fi.n1;have n2:=fi.n2;have dq:zs.length<=256:=by have:=fi.len;rw[ce] at this;exact this
  refine⟨_,rfl,_,rfl,n,l,zs,rfl,TT,fun H1 s1=>?_⟩;refine⟨_,rfl,_,rfl,n,l,zs,rfl,TT.same s1,fun H2 s2=>?_⟩;have IM:aE H H2:=s1.trans s2;refine⟨_,rfl,_,rfl,p,C,dx,[],rfl,IM _ _ hp,T.cl,T.nH,(by show 0<1000;decide),?_⟩
  let G1:Hp:=upd H2 p (.ins C dx (cg "house_count" (.int n) []))
  have d1:ja p Pt H G1:=fun b o e h1 _=>by show upd _ _ _ _=_;rw[am h1];exact IM _ _ e
  have M5:G1 p=some (.ins C dx (cg "house_count" (.int n) [])):=af;have O1:dY G1 l n zs:=TT.mono d1 hp tb;have Du:jI Pt G1:=tb.mono (fun b o e h1=>by show upd _ _ _ _=_;rw[am h1];exact IM _ _ e) hp;refine⟨_,rfl,l,rfl,⟨_,a_.of O1.at_⟩,fun D hD=>?_⟩;refine AG (fun y=>y) (fun σ=>∃a b,σ=[a,b]) O1.at_ O1.po hD (by lia) ⟨_,_,rfl⟩ ?_ ?_
  .rintro z σ H3 R Kf hz ⟨a,b,rfl⟩ ha kk;refine⟨_,_,rfl,be.of ha,rfl,_,_,rfl,_,_,rfl,rfl,?_⟩;exact⟨_,rfl,_,rfl,by show 2<=sizeLine;decide,fun t ht=>kk _ _ ⟨_,_,rfl⟩ ht⟩
  .intro S0 H3 sm pj Dv ez VG;rw[List.map_id'] at ez;have RU:S0.length=zs.length:=by rw[<-ce,ez,ce]
   refine KI ?_;refine De pj Dv (by lia) (fun u hu=>by have:=(fi.rg u (ez ▸ hu)).2;lia) fun tl IN O2 pm VH=>?_;have O4:H tl=none:=d1.free (iX M5) Du (sm.free O2);have FG:∀z∈IN,H z.1=none:=fun z hz=>d1.free (iX M5) Du (VG z (pm.mem_iff.mp hz));have O5:H3 p=some (.ins C dx (cg "house_count" (.int n) [])):=sm _ _ M5;have GC:p≠tl:=ao O5 O2;refine⟨_,rfl,p,C,dx,_,rfl,by rw[am GC];exact O5,T.cl,T.nT,by show 1<1000;decide,?_⟩
   let G2:Hp:=upd (upd H3 tl (.lst (zr IN))) p (.ins C dx (cg "tie_list" (.ref tl) (cg "house_count" (.int n) [])))
   have q2:∀b o,H3 b=some o->b≠p->G2 b=some o:=fun b o e h1=>by
    show upd _ _ _ _=_;rw[am h1,am (ao e O2)];exact e
   have d2:ja p Pt H G2:=fun b o e h1 h2=>q2 _ _ (sm _ _ (d1 _ _ e h1 h2)) h1;have S4:G2 tl=some (.lst (zr IN)):=by show upd _ _ _ _=_;rw[am GC.symm,af]
   have O6:PO G2 IN:=fun z hz=>q2 _ _ (Dv z (pm.mem_iff.mp hz)) (dF (Dv z (pm.mem_iff.mp hz)) O5 (by intro z;cases z));have GD:G2 p=some (.ins C dx (cg "tie_list" (.ref tl) (cg "house_count" (.int n) []))):=af;have VI:dY G2 l n zs:=TT.mono d2 hp tb;have Dw:jI Pt G2:=Du.mono (fun b o e h1=>q2 _ _ (sm _ _ e) h1) M5;refine⟨_,rfl,n,rfl,by lia,by lia,fun D2 mC=>?_⟩;refine jD (n:=n) (lo:=0) (fun i ys σ H4=>(∃a,σ=[a,some (.int n),some (.ref l)])/\∃bs:List Addr,ys=bs.map V.ref/\(∀b∈bs,H b=none)/\Holds H4 bs i (fun h=>.lst (NV (gE n (zp zs) h)))/\iN Pt G2 H4/\jI Pt H4/\H4 D2=some (.lst ys)/\∀b∈bs,b≠D2)
    ⟨⟨_,rfl⟩,[],rfl,(fun _ h=>nomatch h),Holds.nil,iN.of (aj mC),Dw.same (aj mC),af,(fun _ h=>nomatch h)⟩ ?_ ?_
   .rintro i ys σ H4 Kt Kf hi ⟨⟨a,rfl⟩,bs,rfl,O7,hb,AR,IP,vV,O8⟩ kt kf;have VJ:dY H4 l n zs:=VI.mono (p:=p) (fun b o e _ h2=>AR _ _ e h2) GD Dw;have IQ:=AR _ _ GD (Dw.not GD (by intro ps z;cases z));refine⟨_,rfl,_,rfl,_,rfl,n,l,i,zs,by rw[fS];rfl,hi,VJ,IP,fun r H5 t5 r9 Dx IR=>?_⟩;have O9:H r=none:=ja.free (fun b o e h1 h2=>AR _ _ (d2 _ _ e h1 h2) h2) (iX IQ) IP Dx;have M6:H5 D2=some (.lst (bs.map V.ref)):=r9 _ _ vV (IP.not vV (by intro ps z;cases z));have KJ:r≠D2:=by rintro rfl;rw[vV] at Dx;cases Dx
    have jb:∀b o pc,H5 b=some o->b≠D2->(upd H5 D2 pc) b=some o:=fun b o pc e h=>by rw[am h];exact e
    refine kt _ _ _ M6 (by rw[aI,hb.1];exact bX hi (bn n2 (by decide))) ⟨⟨_,rfl⟩,bs++[r],by rw[cn];rfl,?_,?_,?_,?_,af,?_⟩
    .intro b iZ;rcases dk.mp iZ with z|z
     .exact O7 b z
     .rw[cN.mp z];exact O9
    .refine Holds.snoc (hb.mono fun j hj e=>?_) (jb _ _ _ IR KJ);refine jb _ _ _ (r9 _ _ e (IP.not e (by intro ps z;cases z))) (O8 _ ?_);rw[bE,bC (by rw[hb.1];exact hj)];exact l0 _
    .intro b o e h;exact jb _ _ _ (r9 _ _ (AR _ _ e h) h) (ao e mC)
    .rcases t5 with z|⟨c,z,y⟩
     .exact .inl (jb _ _ _ z (dF z M6 (by intro q;cases q)))
     .exact .inr ⟨c,jb _ _ _ z (dF z M6 (by intro q;cases q)),jb _ _ _ y (dF y M6 (by intro q;cases q))⟩
    .intro b iZ;rcases dk.mp iZ with z|z
     .exact O8 b z
     .rw[cN.mp z];exact KJ
   .rintro ys σ H4 ⟨_,bs,rfl,O7,hb,AR,IP,vV,O8⟩;have IQ:H4 p=some (.ins C dx (cg "tie_list" (.ref tl) (cg "house_count" (.int n) []))):=AR _ _ GD (Dw.not GD (by intro ps z;cases z));have O_:H D2=none:=d2.free (iX GD) Dw mC;refine⟨_,rfl,p,C,dx,_,rfl,IQ,T.cl,T.nO,by have h1:=cQ "tie_list" (V.ref tl) (cg "house_count" (V.int n) []);have h2:=cQ "house_count" (V.int n) [];simp at h2;lia,?_⟩
    let G3:Hp:=upd H4 p (.ins C dx (cg "out_lists" (.ref D2) (cg "tie_list" (.ref tl) (cg "house_count" (.int n) []))))
    have q3:∀b o,H4 b=some o->b≠p->G3 b=some o:=fun b o e h1=>by show upd _ _ _ _=_;rw[am h1];exact e
    have GE:G3 p=some (.ins C dx (cg "out_lists" (.ref D2) (cg "tie_list" (.ref tl) (cg "house_count" (.int n) [])))):=af;have d3:ja p Pt H G3:=fun b o e h1 h2=>q3 _ _ (AR _ _ (d2 _ _ e h1 h2) h2) h1;have Pa:jI Pt G3:=IP.mono q3 IQ;have S6:Holds G3 bs n (fun h=>.lst (NV (gE n (zp zs) h))):=hb.mono fun j hj e=>q3 _ _ e (dF e IQ (by intro z;cases z));have Pb:G3 D2=some (.lst (bs.map V.ref)):=q3 _ _ vV (dF vV IQ (by intro z;cases z));have O3:oM G3 D2 n (zp zs):=⟨bs,Pb,S6⟩
    refine⟨_,rfl,n,rfl,by lia,by lia,fun D3 GG=>?_⟩;refine jD (n:=n) (lo:=0) (fun i ys σ H6=>(∃a,σ=[a,some (.ref p)])/\∃ds:List Addr,ys=ds.map V.ref/\(∀b∈ds,H b=none)/\Holds H6 ds i (fun s=>.lst (NV ((List.range n).map (EW (zp zs) s))))/\aE G3 H6/\H6 D3=some (.lst ys)/\∀b∈ds,b≠D3)
     ⟨⟨_,rfl⟩,[],rfl,(fun _ h=>nomatch h),Holds.nil,aj GG,af,(fun _ h=>nomatch h)⟩ ?_ ?_
    .rintro i ys σ H6 Kt Kf hi ⟨⟨a,rfl⟩,ds,rfl,rH,hd,Dy,GJ,Jz⟩ kt kf;refine⟨_,rfl,p,C,dx,_,_,rfl,Dy _ _ GE,T.cl,T.nO,by rw[aV,ak rfl],_,rfl,D2,n,i,zp zs,by rw[fS];rfl,fi,hi,O3.same Dy,fun r H7 Pc Pd VL=>?_⟩;have VM:H7 D3=some (.lst (ds.map V.ref)):=Pc _ _ GJ;have KJ:r≠D3:=by rintro rfl;rw[GJ] at Pd;cases Pd
     have O9:H r=none:=ja.free (fun b o e h1 h2=>Dy _ _ (d3 _ _ e h1 h2)) (iX (Dy _ _ GE)) (Pa.same Dy) Pd;have jb:∀b o pc,H7 b=some o->b≠D3->(upd H7 D3 pc) b=some o:=fun b o pc e h=>by rw[am h];exact e
     refine kt _ _ _ VM (by rw[aI,hd.1];exact bX hi (bn n2 (by decide))) ⟨⟨_,rfl⟩,ds++[r],by rw[cn];rfl,?_,?_,?_,af,?_⟩
     .intro b iZ;rcases dk.mp iZ with z|z
      .exact rH b z
      .rw[cN.mp z];exact O9
     .refine Holds.snoc (hd.mono fun j hj e=>?_) (jb _ _ _ VL KJ);refine jb _ _ _ (Pc _ _ e) (Jz _ ?_);rw[bE,bC (by rw[hd.1];exact hj)];exact l0 _
     .intro b o e;exact jb _ _ _ (Pc _ _ (Dy _ _ e)) (ao e GG)
     .intro b iZ;rcases dk.mp iZ with z|z
      .exact Jz b z
      .rw[cN.mp z];exact KJ
    .rintro ys σ H6 ⟨_,ds,rfl,rH,hd,Dy,GJ,Jz⟩;have KL:=Dy _ _ GE;refine⟨_,rfl,p,C,dx,_,rfl,KL,T.cl,T.nD,by have h1:=cQ "tie_list" (V.ref tl) (cg "house_count" (V.int n) []);have h2:=cQ "house_count" (V.int n) [];have h3:=cQ "out_lists" (V.ref D2) (cg "tie_list" (V.ref tl) (cg "house_count" (V.int n) []));simp at h2;lia,?_⟩;have q4:∀b o u,H6 b=some o->b≠p->(upd H6 p u) b=some o:=fun b o u e h1=>by rw[am h1];exact e
     refine⟨_,rfl,p,C,dx,_,_,rfl,af,T.cl,T.nD,by rw[aV,ak rfl],D3,ds,n,fun s=>NV ((List.range n).map (EW (zp zs) s)),rfl,q4 _ _ _ GJ (dF GJ KL (by intro z;cases z)),n2,hd.mono fun j hj e=>q4 _ _ _ e (dF e KL (by intro z;cases z)),fun j hj x hx=>?_,fun H8 s8=>?_⟩
     .obtain⟨y,hy,rfl⟩:=bQ.mp hx;exact⟨_,rfl⟩
     .have up:∀b o,G3 b=some o->b≠p->H8 b=some o:=fun b o e h1=>s8 _ _ (q4 _ _ _ (Dy _ _ e) h1);have Pe:H D3=none:=d3.free (iX GE) Pa GG;have S8:∀b o,G2 b=some o->b≠p->b≠Pt->H8 b=some o:=fun b o e h1 h2=>up _ _ (q3 _ _ (AR _ _ e h2) h1) h1;refine k H8 ⟨fi,dx,tl,D2,D3,s8 _ _ af,O_,Pe,⟨bs,up _ _ Pb (dF Pb GE (by intro z;cases z)),O7,S6.mono fun j hj e=>up _ _ e (dF e GE (by intro z;cases z))⟩,
       ⟨ds,s8 _ _ (q4 _ _ _ GJ (dF GJ KL (by intro z;cases z))),rH,hd.mono fun j hj e=>s8 _ _ (q4 _ _ _ e (dF e KL (by intro z;cases z)))⟩,
       ⟨O4,IN,S8 _ _ S4 GC.symm (Dw.not S4 (by intro ps z;cases z)),fun z hz=>S8 _ _ (O6 z hz) (dF (O6 z hz) GD (by intro z;cases z)) (Dw.not (O6 z hz) (by intro ps z;cases z)),FG,((show (zp IN).Perm (zp S0) from pm.map _).trans (qF ez)),VH⟩⟩ ?_ fun b o e h1 h2=>up _ _ (d3 _ _ e h1 h2) h1
      exact Pa.mono up GE
end
theorem km:NV xs++[.int (x:Int)]=NV (xs++[x]):=by unfold NV;rw[cn];rfl
theorem kn{xs:List Nat}{i:Nat}{x:V}(h:(NV xs)[i]?=some x):∃y,xs[i]?=some y/\x=.int (y:Int):=by
 unfold NV at h;rw[bh] at h;cases e:xs[i]? with
 |none=>rw[e] at h;cases h
 |some z=>rw[e] at h;exact⟨z,rfl,(bA h).symm⟩
end ph
namespace L2
open PySem PySem.Spec PyProof.Rows
section
variable {X:Cx}
def AS(X:Cx)(H:Hp)(d:Nat)(x y:V):Prop:=∀ (ae:List (Addr×Obj)) (s:Shared) (σ:St) (A:Around) (u v:Value),aD X ae σ H s->A.units+d<cLine->bf x u->bf y v->SeqAt.EqAt A s u v true
theorem Dz:AS X H 0 (.int i) (.int i):=by
 intro ae s σ A u v I hu rx ry;have h:=qW (A:=A) (s:=s) rx ry rfl rfl;rw[show kJ (.int i) (.int i)=true by show decide (i=i)=true;simp] at h;exact h
theorem lM(I:aD X ae σ H s)(hu:A.units+d<cLine)(rx:aZ xs us)(ry:aZ ys vs)(he:∀i,i<xs.length->i<ys.length->AS X H d (xs.getD i .bD) (ys.getD i .bD)):∀j (h1:j<us.toArray.size) (h2:j<vs.toArray.size),SeqAt.EqAt A s us.toArray[j] vs.toArray[j] true:=by
 intro j h1 h2;have j1:j<xs.length:=by rw[rx.length];simpa using h1
 have j2:j<ys.length:=by rw[ry.length];simpa using h2
 have e1:xs[j]?=some (xs.getD j .bD):=by rw[bE,bC j1];rfl
 have e2:ys[j]?=some (ys.getD j .bD):=by rw[bE,bC j2];rfl
 obtain⟨u,IK,ru⟩:=rx.get e1;obtain⟨v,C7,rv⟩:=ry.get e2;have eu:us.toArray[j]=u:=by
  have:us[j]?=some us.toArray[j]:=by simp at h1 |-
  rw[IK] at this;exact(bA this).symm
 have ev:vs.toArray[j]=v:=by
  have:vs[j]?=some vs.toArray[j]:=by simp at h2 |-
  rw[C7] at this;exact(bA this).symm
 rw[eu,ev];exact he j j1 j2 ae s σ A u v I hu ru rv
theorem oN:(List.range n).all (fun _=>true)=true:=hV.mpr fun _ _=>rfl
theorem DA{H:Hp}{d:Nat}{a b:Addr}{xs ys:List V}(ha:be X.K H a xs)(hb:be X.K H b ys)(hl:xs.length=ys.length)(he:∀i,i<xs.length->i<ys.length->AS X H d (xs.getD i .bD) (ys.getD i .bD)):AS X H (d+1) (.ref a) (.ref b):=by
 intro ae s σ A u v I hu rx ry;obtain rfl:u=Value.ref a:=rx;obtain rfl:v=Value.ref b:=ry;by_cases B0:a=b
 .subst B0;exact SeqAt.EqAt.same _
 obtain⟨us,r1,p1,_⟩:=I.tuple ha;obtain⟨vs,r2,p2,_⟩:=I.tuple hb;refine SeqAt.EqAt.of_refs B0 ?_;have h:=SeqAt.RcAt.tuples (A:=A) (s:=s) (l:=a) (b:=b) (e:=fun _=>true) (show s.heap.IsTuple a us.toArray from p1) (show s.heap.IsTuple b vs.toArray from p2) (by lia) (lM I (by show A.units+1+d<cLine;lia) r1 r2 he);rw[oN] at h;have e:(us.toArray.size==vs.toArray.size)=true:=by simp only[cw];rw[<-r1.length,<-r2.length,hl];simp
 rw[e] at h;exact h
def Pf(X:Cx)(BV:Bool)(d:Nat):R2:=fun x y H Q=>∃p q xs ys,x=.ref p/\y=.ref q/\be X.K H p xs/\be X.K H q ys/\xs.length=ys.length/\(∀i,i<xs.length->i<ys.length->AS X H d (xs.getD i .bD) (ys.getD i .bD))/\Q (.bl (!BV)) H
theorem rJ{d:Nat}(hu:X.A.units+(d+1)<cLine):kI X (compareOp .NotEq) (Pf X true d):=by
 intro ae s σ H x y v u Q I rx ry h;obtain⟨p,q,xs,ys,rfl,rfl,hp,hq,hl,he,k⟩:=h;obtain rfl:v=Value.ref p:=rx;obtain rfl:u=Value.ref q:=ry;obtain⟨us,r1,p1,_⟩:=I.tuple hp;obtain⟨vs,r2,p2,_⟩:=I.tuple hq;have e:(us.toArray.size==vs.toArray.size)=true:=by simp only[cw];rw[<-r1.length,<-r2.length,hl];simp
 refine SeqAt.RcNeAt.tuples (e:=fun _=>true) (show s.heap.IsTuple p us.toArray from p1) (show s.heap.IsTuple q vs.toArray from p2) (by lia) (lM I (by show X.A.units+1+d<cLine;lia) r1 r2 he) _ _ _ _ ⟨.bl _,H,I,rfl,?_⟩;rw[oN,e];exact k
def KM(X:Cx)(BV:Bool)(d:Nat):R2:=fun x y H Q=>∃p q xs ys,x=.ref p/\y=.ref q/\a_ X.K H p xs/\a_ X.K H q ys/\xs.length=ys.length/\(∀i,i<xs.length->i<ys.length->AS X H d (xs.getD i .bD) (ys.getD i .bD))/\Q (.bl (!BV)) H
theorem m6{d:Nat}(hu:X.A.units+(d+1)<cLine):kI X (compareOp .NotEq) (KM X true d):=by
 intro ae s σ H x y v u Q I rx ry h;obtain⟨p,q,xs,ys,rfl,rfl,hp,hq,hl,he,k⟩:=h;obtain rfl:v=Value.ref p:=rx;obtain rfl:u=Value.ref q:=ry;obtain⟨us,r1,p1,_⟩:=I.list hp;obtain⟨vs,r2,p2,_⟩:=I.list hq;refine SeqAt.RcNeAt.lists (e:=fun _=>true) p1.isList p2.isList (by simp only[cw];rw[<-r1.length,<-r2.length];exact hl) (by lia) (lM I (by show X.A.units+1+d<cLine;lia) r1 r2 he) _ _ _ _ ⟨.bl _,H,I,rfl,?_⟩;rw[oN];exact k
end
end L2
namespace ph
open PySem L2 f9
section
variable {P:Program} {w:World} {K:PySem.W.Frag} {mg:Str->Option Value} {base:Heap}
end
end ph
namespace L2
open PySem PySem.Spec PyProof.Rows
theorem vW{X:Cx}:Jo X .Mult (fun x y H Q=>∃i j,x=.int i/\y=.int j/\Ch i j/\Q (.int (i*j)) H):=by
 intro ae s σ H x y v u Q I r1 r2 h;obtain⟨i,j,e1,e2,c,q⟩:=h;subst e1;subst e2;obtain⟨t,rfl⟩:=r1;obtain⟨t',rfl⟩:=r2;exact imul_int ⟨.int _,H,I.tok _,⟨_,rfl⟩,q⟩ c.ok
end L2
namespace ph
open PySem L2 f9
abbrev AT:Stmt:=fz 36
abbrev rK:Stmt:=fz 37
abbrev rL:Stmt:=fz 39
abbrev rM:Stmt:=fz 40
abbrev AU:Stmt:=fz 41
def qc(ns:List Nat):Nat:=ns.foldl (·*·) 1
theorem vX{ns:List Nat}{x:Nat}:qc (ns++[x])=qc ns*x:=by unfold qc;rw[List.foldl_append];rfl
theorem AV{ns:List Nat}:qc ns=pr ns:=by
 have go:∀ (l:List Nat) (a:Nat),l.foldl (·*·) a=a*pr l:=fun l=>by
  induction l with
  |nil=>intro a;exact(fD a).symm
  |cons x l ih=>intro a;rw[qE,ih];show a*x*pr l=a*(x*pr l);rw[jp]
 unfold qc;rw[go,qP]
theorem iM.weak{H:Hp}{L L':Addr->Prop}{l:Addr}{n:Nat}{r:Nat->List Nat}(R:iM H L l n r)(h:∀a,L a->L' a):iM H L' l n r:=let ⟨bs,a,b,c⟩:=R;⟨bs,a,fun x hx=>h _ (b x hx),c⟩
theorem gb.weak{C:Addr}{H:Hp}{L L':Addr->Prop}{p:Addr}{n:Nat}{ts:Ts}(N:gb C H L p n ts)(h:∀a,L a->L' a):gb C H L' p n ts:=
 let ⟨dx,tl,ol,ds,a,l1,l2,b,c,d1,zs,d2,d3,d4,d5⟩:=N.ob
 ⟨N.tT,dx,tl,ol,ds,a,h _ l1,h _ l2,b.weak h,c.weak h,h _ d1,zs,d2,d3,fun z hz=>h _ (d4 z hz),d5⟩
def mh(H:Hp)(D:Addr)(ts:Ts)(H2:Hp):Prop:=aE H H2/\∃zs:Zs,H2 D=some (.lst (zr zs))/\PO H2 zs/\zp zs=ts
theorem mh.add{H H2:Hp}{D t:Addr}{ts:Ts}{u:Int×Int}{zs:Zs}(hD:H D=none)(sm:aE H H2)(h1:H2 D=some (.lst (zr zs)))(po:PO H2 zs)(ez:zp zs=ts)(ht:H2 t=none):mh H D (ts++[u]) (upd (upd H2 t (Go u)) D (.lst (zr zs++[.ref t]))):=by
 have nD:D≠t:=ao h1 ht;refine⟨aW (sm.trans (aj ht)) hD,zs++[(t,u)],by rw[af,lJ];rfl,?_,?_⟩
 .refine PO.putL (xs:=zr zs) ?_ (by rw[am nD];exact h1);exact(po.putN ht).append (PO.one af)
 .rw[lK,ez];rfl
section
variable {P:Program} {w:World} {K:PySem.W.Frag} {mg:Str->Option Value} {base:Heap}
abbrev AW(C Pt:Addr)(H:Hp)(n:Nat)(ts:Ts)(Q:VK):Prop:=∀ (p:Addr) (H':Hp),H p=none->gb C H' (fun a=>H a=none) p n ts->jI Pt H'->iN Pt H H'->Q (.ref p) H'
theorem iQ:aB ["many","pairs","ties","pair","one","other"] ["many","pairs"] (aq rK):=⟨rfl,rfl,rfl,by decide +kernel,rfl,by decide +kernel,by decide +kernel⟩
def oO(C Pt:Addr):Sp:=fun vs H Q _=>∃ (n:Nat) (l:Addr) (zs:Zs),vs=[.int n,.ref l]/\H l=some (.lst (zr zs))/\PO H zs/\lI n (kh (zp zs))/\jI Pt H/\AW C Pt H n (kh (zp zs)) Q
theorem yD{f C Pt fI:Addr}{fd S9:FuncData}(F:eh K "pairs_net" "pairs_net" rK f fd)(B:Bl mg)(T:NT K mg C)(M:Mk K C fI)(bI:gX K S9 ["self","many","ties"] [])(GI:bi P w K mg base bg 7 fI S9 ["self","many","ties"] (vU C Pt))(R:bZ P w K mg base bg 1 "is_row" ["thing","length"] (tQ K)):
  bi P w K mg base bg 9 f fd ["many","pairs"] (oO C Pt):=by
 refine F.ok iQ (fun vs H Q E h=>?_) (fun cM A outer s H vs Q E hr h=>?_)
 .obtain⟨n,l,zs,rfl,_⟩:=h;rfl
 .obtain⟨n,l,zs,rfl,hl,po,fi,tb,k⟩:=h;have h1:bO 1 _:=hr.mono (by decide);refine⟨_,ah (bJ (dG (dg (aK eY (by rfl) B.Gm nq (aa (pv 1) (aa (gn (v:=.ty "list") rfl B.lst qh rfl) ag))))) cp aQ)
   (ah (aN (i:=2) iQ.nd rfl (Or.inl rfl) (cR ag))
   (ah (cr dw rfl (cX (pv 1)) (az (i:=3) iQ.nd rfl (Or.inl rfl))
    (ah (bJ (dG (dg (aA R h1 aL (aa (pv 3) (aa av ag))))) cp aQ)
    (ah (iB (pv 3) (dI (n:=2) rfl (aR (az (i:=4) iQ.nd rfl (Or.inl rfl)) (aR (az (i:=5) iQ.nd rfl (Or.inl rfl)) cJ))))
    (ah (bL (eW eO eN eM bv (pv 2) (aa (dt (aa (pv 4) (aa (pv 5) ag))) ag)))
    (ap (bL (eW eO eN eM bv (pv 2) (aa (dt (aa (pv 5) (aa (pv 4) ag))) ag))))))))
   (ap (aJ (wj M GI hr rfl T.OU bI .nil aL (aa (pv 0) (aa (pv 2) ag))))))),?_⟩
  have dq:2*zs.length<=256:=by have:=fi.len;rw[rj,ce] at this;exact this
  refine⟨_,rfl,_,_,_,.type "list",true,rfl,⟨rfl,tU⟩,.of (.lst hl),_,rfl,fX ?_⟩;refine⟨by show 0<=sizeLine;decide,fun D hD=>?_⟩;refine⟨_,rfl,l,rfl,⟨_,a_.of (aj hD _ _ hl)⟩,jZ (K:=K) (xs:=zr zs) (fun i σ H2=>(∃x3 x4 x5,σ=[some (.int n),some (.ref l),some (.ref D),x3,x4,x5])/\mh H D (kh ((zp zs).take i)) H2) ⟨⟨_,_,_,rfl⟩,aj hD,[],af,PO.nil,rfl⟩ (fun i σ H2 _ z=>a_.of (z.2.1 _ _ hl)) ?_ ?_⟩
  .rintro i x σ H2 hx ⟨⟨x3,x4,x5,rfl⟩,yB,ys,hy,IS,ey⟩;obtain⟨z,hz,rfl⟩:=rC hx;have hi:i<zs.length:=(di.mp hz).1;have ha:=yB _ _ (po z (cC hz));have KN:ys.length<=256:=by rw[<-ce,ey,rj,kR,ce];lia
   refine⟨_,rfl,_,_,_,rfl,.tup ha,_,rfl,fX ?_⟩;refine⟨_,rfl,_,_,rfl,be.of ha,rfl,_,_,rfl,_,_,rfl,rfl,?_⟩;refine⟨_,rfl,.inl ⟨rfl,_,a_.of hy⟩,_,rfl,_,rfl,by show 2<=sizeLine;decide,fun t ht=>?_⟩;refine⟨D,_,_,rfl,rfl,aj ht _ _ hy,by rw[gI];exact cZ KN (by decide),?_⟩;obtain⟨E4,VN,Pg,Dv,S_⟩:=mh.add (u:=z.2) hD yB hy IS ey ht;have Ph:VN.length=ys.length+1:=by rw[<-ce,S_,<-ey,fk,ce];rfl
   generalize upd (upd H2 t _) D _=H3 at *;refine⟨_,rfl,.inl ⟨rfl,_,a_.of Pg⟩,_,rfl,_,rfl,by show 2<=sizeLine;decide,fun t2 E5=>?_⟩;refine⟨D,_,_,rfl,rfl,aj E5 _ _ Pg,by rw[gI,Ph];exact cZ (uS KN) (by decide),⟨_,_,_,rfl⟩,?_⟩;have P4:=mh.add (u:=wZ z.2) hD E4 Pg Dv S_ E5;have e2:(zp zs)[i]?=some z.2:=by unfold zp;rw[bh,hz];rfl
   rw[d7,e2,Option.toList_some,vK];rw[cx] at P4;exact P4
  .rintro σ H2 ⟨⟨x3,x4,x5,rfl⟩,yB,ys,hy,IS,ey⟩;rw[gI,<-ce,fO] at ey;refine⟨_,rfl,_,rfl,fun px dx nx Pi Pj=>?_⟩;have sN:aE H2 (upd (upd H2 dx (.own px)) px (.ins C dx [])):=(aj (o:=.own px) Pi).trans (aj (D:=px) (o:=.ins C dx []) (by rw[am Pj.symm];exact nx));have VO:(upd (upd H2 dx (.own px)) px (.ins C dx [])) px=some (.ins C dx []):=af;have sM:=yB.trans sN;generalize upd (upd H2 dx (.own px)) px (.ins C dx [])=HM at *;have TM:dY HM D n ys:=⟨by rw[ey];exact fi,sN _ _ hy,IS.same sN⟩
   refine⟨px,dx,n,D,ys,rfl,VO,TM,tb.same sM,fun H7 N7 t7 s7=>⟨rfl,?_⟩⟩;have Ta:H px=none:=yB.free nx;rw[ey] at N7;exact k px H7 Ta (N7.weak fun a ha=>sM.free ha) t7 fun b o e h=>s7 _ _ (sM _ _ e) (ao e Ta) h
theorem qd{o:Option Int}{a b:Nat}(h:a9 o a b=true):∃n:Nat,a<=n/\n<=b/\o=some (n:Int):=by
 cases o with
 |none=>cases h
 |some i=>
  unfold a9 at h;simp at h;exact⟨i.toNat,by lia,by lia,by congr 1;lia⟩
theorem AW.same{C Pt:Addr}{H H1:Hp}{n:Nat}{ts:Ts}{Q:VK}(k:AW C Pt H n ts Q)(s:aE H H1):AW C Pt H1 n ts Q:=fun p H' hp N t st=>k p H' (s.free hp) (N.weak fun a ha=>s.free ha) t fun b o e h=>st _ _ (s _ _ e) h
end
inductive Sd (K:PySem.W.Frag) (H:Hp):V->Option (List (Option Int))->Prop where
 |tup {p:Addr} {xs:List V} {os:List (Option Int)} (h:H p=some (.tup xs)) (hl:xs.length=os.length) (e:∀ (i:Nat) x o,xs[i]?=some x->os[i]?=some o->Wh K H x o):Sd K H (.ref p) (some os)
 |no {x:V} {t:Value} (ty:Iy K H x t) (h:PySem.W.kitOne K t (.type "tuple")=some false):Sd K H x none
def g9(os:List (Option Int)):List Nat:=os.map fun o=>(o.getD 0).toNat
def box:Option (List (Option Int))->Option (List Nat)
 |none=>none
 |some os=>if decide (1<=os.length)&&(decide (os.length<=5)&&(os.all (fun o=>a9 o 2 8)&&decide (pr (g9 os)<=32))) then some (g9 os) else none
theorem AX{os:List (Option Int)}{ns:List Nat}(h:box (some os)=some ns):ns=g9 os/\1<=ns.length/\ns.length<=5/\(∀x∈ns,2<=x/\x<=8)/\pr ns<=32/\os=ns.map fun (n:Nat)=>some (n:Int):=by
 unfold box at h;dsimp only at h;by_cases c:(decide (1<=os.length)&&(decide (os.length<=5)&&(os.all (fun o=>a9 o 2 8)&&decide (pr (g9 os)<=32))))=true
 .rw[ak c] at h;simp only[fQ,nJ,hV] at c;obtain⟨c1,c2,c3,c4⟩:=c;obtain rfl:=bA h;have ex:∀o∈os,∃n:Nat,2<=n/\n<=8/\o=some (n:Int):=fun o ho=>qd (a:=2) (b:=8) (c3 o ho);refine⟨rfl,by unfold g9;rw[aI];exact c1,by unfold g9;rw[aI];exact c2,fun x hx=>?_,c4,?_⟩
  .obtain⟨o,ho,rfl⟩:=bQ.mp hx;obtain⟨n,n1,n2,rfl⟩:=ex o ho;exact⟨by show 2<=(n:Int).toNat;lia,by show (n:Int).toNat<=8;lia⟩
  .unfold g9;rw[gW];conv=>lhs;rw[<-il os]
   refine jQ fun o ho=>?_;obtain⟨n,n1,n2,rfl⟩:=ex o ho;show some (n:Int)=some (((n:Int).toNat:Nat):Int);exact congrArg some (by lia)
 .rw[ai c] at h;cases h
section
variable {P:Program} {w:World} {K:PySem.W.Frag} {mg:Str->Option Value} {base:Heap}
theorem rN:aB ["numbers","result","number"] ["numbers"] (aq AU):=⟨rfl,rfl,rfl,by decide +kernel,rfl,by decide +kernel,by decide +kernel⟩
def oP(K:PySem.W.Frag):Sp:=fun vs H Q _=>∃ (a:Addr) (ns:List Nat),vs=[.ref a]/\be K H a (NV ns)/\(∀x∈ns,x<=1000)/\Q (.int (pr ns)) H
theorem DB{f:Addr}{fd:FuncData}(F:eh K "product" "product" AU f fd):bi P w K mg base bg 1 f fd ["numbers"] (oP K):=by
 refine F.ok rN (fun vs H Q E h=>?_) (fun cM A outer s H vs Q E hr h=>?_)
 .obtain⟨a,ns,rfl,_⟩:=h;rfl
 .obtain⟨a,ns,rfl,hS,hx,k⟩:=h;refine⟨_,ah (aN (i:=1) rN.nd rfl (Or.inl rfl) av)
   (ah (cr dw rfl (k_ (pv 0)) (az (i:=2) rN.nd rfl (Or.inl rfl)) (ap (k9 (i:=1) rN.nd rfl (Or.inl rfl) (pv 2) vW)))
   (ap (aJ (pv 1)))),?_⟩
  refine⟨_,rfl,a,rfl,⟨_,hS⟩,iR (K:=K) (xs:=NV ns) (fun i σ H2=>H2=H/\∃x,σ=[some (.ref a),some (.int (qc (ns.take i))),x]) ⟨rfl,_,rfl⟩ (fun i σ H2 _ z=>by rw[z.1];exact hS) ?_ ?_⟩
  .rintro i x σ H2 qT ⟨rfl,y,rfl⟩;obtain⟨v,hv,rfl⟩:=kn qT;have h1:=hx v (cC hv);refine⟨_,rfl,_,rfl,_,_,rfl,rfl,.inr ⟨by lia,by lia⟩,rfl,some (.int v),?_⟩;have tk:ns.take (i+1)=ns.take i++[v]:=by rw[d7,hv];rfl
   rw[tk,vX];rfl
  .rintro σ H2 ⟨rfl,x,rfl⟩;rw[bb,fO,AV];exact⟨_,rfl,k⟩
end
end ph
namespace f9
def E6(m:Nat)(ns:List Nat)(i:Nat):List (Nat×Nat):=(List.range i).flatMap fun j=>pf m (pr (ns.take j)) (ns.getD j 0)
theorem jc{α:Type}{f:Nat->List α}{n:Nat}:(List.range (n+1)).flatMap f=(List.range n).flatMap f++f n:=by
 rw[h_,List.flatMap_append];simp
theorem gJ:∀ {ns:List Nat} {x:Nat},pr (ns++[x])=pr ns*x
 |[],x=>by show x*1=1*x;lia
 |n::ns,x=>by show n*pr (ns++[x])=n*pr ns*x;rw[gJ,jp]
theorem AY{m:Nat}:∀ {ns:List Nat} {st:Nat},bx m st ns=(List.range ns.length).flatMap fun j=>pf m (st*pr (ns.take j)) (ns.getD j 0)
 |[],st=>rfl
 |n::ns,st=>by
  show pf m st n++bx m (st*n) ns=_;rw[c_,qj,List.flatMap_cons,AY (ns:=ns)];congr 1
  .show pf m st n=pf m (st*1) n;rw[fD]
  .rw[List.flatMap_map];congr 1;funext j;show _=pf m (st*(n*pr (ns.take j))) (ns.getD j 0);rw[jp]
end f9
namespace ph
open PySem L2 f9
section
variable {P:Program} {w:World} {K:PySem.W.Frag} {mg:Str->Option Value} {base:Heap}
theorem oQ{os:List (Option Int)}(h:(decide (1<=os.length)&&(decide (os.length<=5)&&(os.all (fun o=>a9 o 2 8)&&decide (pr (g9 os)<=32))))=false):box (some os)=none:=by
 unfold box;dsimp only;rw[h];rfl
theorem GK{os:List (Option Int)}(h:(decide (1<=os.length)&&(decide (os.length<=5)&&(os.all (fun o=>a9 o 2 8)&&decide (pr (g9 os)<=32))))=true):box (some os)=some (g9 os):=by
 unfold box;dsimp only;rw[h];rfl
theorem Sd.nums{H:Hp}{p:Addr}{os:List (Option Int)}{xs:List V}(h:H p=some (.tup xs))(hl:xs.length=os.length)(e:∀ (i:Nat) x o,xs[i]?=some x->os[i]?=some o->Wh K H x o)(ha:os.all (fun o=>a9 o 2 8)=true):xs=NV (g9 os)/\∀x∈g9 os,2<=x/\x<=8:=by
 have ex:∀o∈os,∃n:Nat,2<=n/\n<=8/\o=some (n:Int):=fun o ho=>qd (a:=2) (b:=8) (hV.mp ha o ho);refine⟨uN fun i=>?_,fun x hx=>?_⟩
 .unfold NV g9;rw[bh,bh];cases c:xs[i]? with
  |none=>
   have:os[i]?=none:=by
    rw[List.getElem?_eq_none_iff] at c |-;lia
   rw[this];rfl
  |some x=>
   have hi:i<os.length:=by have:=(di.mp c).1;lia
   have c2:os[i]?=some os[i]:=bC hi;obtain⟨n,n1,n2,e3⟩:=ex os[i] (l0 hi);have wh:=e i x _ c c2;rw[c2,e3] at *;obtain rfl:=AI wh;show some (V.int (n:Int))=some (V.int (((n:Int).toNat:Nat):Int));rw[nK]
 .obtain⟨o,ho,rfl⟩:=bQ.mp hx;obtain⟨n,n1,n2,rfl⟩:=ex o ho;exact⟨by show 2<=(n:Int).toNat;lia,by show (n:Int).toNat<=8;lia⟩
theorem tW:aB ["sides","side"] ["sides"] (aq rL):=⟨rfl,rfl,rfl,by decide +kernel,rfl,by decide +kernel,by decide +kernel⟩
def oR(K:PySem.W.Frag)(CS:Addr):Sp:=fun vs H Q E=>∃ (x:V) (o:Option (List (Option Int))),vs=[x]/\Sd K H x o/\(box o=none->E (.ref CS) none H)/\(∀ns,box o=some ns->Q .bD H)
theorem yE{f CS:Addr}{fd:FuncData}(F:eh K "check_sides" "check_sides" rL f fd)(B:Bl mg)(e:Er K mg "NoShape" CS)(gM:∃t,mg "MOST_SIDES"=some (.int 5 t))(gS:∃t,mg "SHORTEST_SIDE"=some (.int 2 t))(gL:∃t,mg "LONGEST_SIDE"=some (.int 8 t))(gH:∃t,mg "MOST_HOUSES"=some (.int 32 t))(W:bZ P w K mg base bg 2 "is_whole_within" ["thing","least","most"] (f_ K))(PR:bZ P w K mg base bg 1 "product" ["numbers"] (oP K)):bi P w K mg base (iU P w) 3 f fd ["sides"] (oR K CS):=by
 obtain⟨tM,gM⟩:=gM;obtain⟨tS,gS⟩:=gS;obtain⟨tL,gL⟩:=gL;obtain⟨tH,gH⟩:=gH;refine F.Iz tW (fun vs H Q E h=>?_) (fun cM A outer s H vs Q E hr h=>?_)
 .obtain⟨x,o,rfl,_⟩:=h;rfl
 .obtain⟨x,o,rfl,sd,k1,k2⟩:=h;have h1:bO 1 _:=hr.mono (by decide);refine⟨_,ah (bJ (PW.pt (zm (dG (dg (aK eY (by rfl) B.Gm nq (aa (pv 0) (aa (gn (v:=.ty "tuple") rfl B.tup fL rfl) ag))))) (u4 (dG (dg (aA W hr aL (aa (aK aM (by rfl) B.len dE (aa (pv 0) ag)) (aa av (aa (gm (v:=.int 5) rfl gM ⟨_,rfl⟩) ag))))))))) (ap (j9 (q:=fun H1=>E (.ref CS) none H1) rfl e.ok rfl e.at_ (aa qQ ag) (fun _ _ _ _ _ _ _ I m q=>j8 I m q))) aQ)
   (ah (cr FX rfl (k_ (pv 0)) (az (i:=1) tW.nd rfl (Or.inl rfl)) (ap (bJ (dG (dg (aA W hr aL (aa (pv 1) (aa (gm (v:=.int 2) rfl gS ⟨_,rfl⟩) (aa (gm (v:=.int 8) rfl gL ⟨_,rfl⟩) ag)))))) (ap (j9 (q:=fun H1=>E (.ref CS) none H1) rfl e.ok rfl e.at_ (aa qQ ag) (fun _ _ _ _ _ _ _ I m q=>j8 I m q))) aQ)))
   (ap (bJ (aO pI (aA PR h1 aL (aa (pv 0) ag)) (gm (v:=.int 32) rfl gH ⟨_,rfl⟩) (aT _)) (ap (j9 (q:=fun H1=>E (.ref CS) none H1) rfl e.ok rfl e.at_ (aa qQ ag) (fun _ _ _ _ _ _ _ I m q=>j8 I m q))) aQ))),?_⟩
  cases sd with
  |no ty h=>exact⟨_,rfl,_,_,_,_,false,rfl,⟨rfl,h⟩,ty,_,rfl,mw ⟨by show 1<=sizeLine;decide,k1 rfl⟩⟩
  |@tup p xs os hp hl ew=>
   refine⟨_,rfl,_,_,_,.type "tuple",true,rfl,⟨rfl,rB⟩,.of (.tup hp),_,rfl,fX ?_⟩;refine⟨_,rfl,p,xs,rfl,.inr (be.of hp),_,_,1,5,rfl,.int _,_,rfl,?_⟩;cases hw:a9 (some ((xs.length:Nat):Int)) 1 5 with
   |false=>
    refine mw ⟨by show 1<=sizeLine;decide,k1 (oQ ?_)⟩;unfold a9 at hw;simp at hw;by_cases c:1<=os.length
    .rw[bK c,dD (show ¬ os.length<=5 by lia)];rfl
    .rw[dD c];rfl
   |true=>
    have EX:1<=os.length/\os.length<=5:=by unfold a9 at hw;simp at hw;lia
    refine fX ⟨_,rfl,p,rfl,⟨_,be.of hp⟩,iR (K:=K) (xs:=xs) (fun i σ H2=>H2=H/\(∃v,σ=[some (.ref p),v])/\∀j o,j<i->os[j]?=some o->a9 o 2 8=true) ⟨rfl,⟨_,rfl⟩,fun j o hj=>absurd hj (by lia)⟩ (fun i σ H2 _ z=>by rw[z.1];exact be.of hp) ?_ ?_⟩
    .rintro i v σ H2 hv ⟨rfl,⟨v',rfl⟩,pY⟩;have hi:i<os.length:=by have:=(di.mp hv).1;lia
     have ho:os[i]?=some os[i]:=bC hi;refine⟨_,rfl,_,_,2,8,rfl,ew i v _ hv ho,_,rfl,?_⟩;cases hc:a9 os[i] 2 8 with
     |false=>
      refine mw ⟨by show 1<=sizeLine;decide,k1 (oQ ?_)⟩;have:os.all (fun o=>a9 o 2 8)=false:=by
       rw[List.all_eq_false];exact⟨os[i],l0 hi,by rw[hc];decide⟩
      rw[bK EX.1,bK EX.2,this];rfl
     |true=>
      refine fX ⟨rfl,⟨_,rfl⟩,fun j o hj Pk=>?_⟩;by_cases c:j=i
      .subst c;rw[ho] at Pk;obtain rfl:=bA Pk;exact hc
      .exact pY j o (by lia) Pk
    .rintro σ H2 ⟨rfl,⟨v',rfl⟩,pY⟩;have ha:os.all (fun o=>a9 o 2 8)=true:=hV.mpr fun o ho=>by
      obtain⟨j,hj,rfl⟩:=qo.mp ho;exact pY j _ (by lia) (bC hj)
     obtain⟨ex,hx⟩:=Sd.nums hp hl ew ha;subst ex;refine⟨_,rfl,p,g9 os,rfl,be.of hp,fun x qT=>by have:=hx x qT;lia,_,_,rfl,rfl,_,rfl,?_⟩;refine iC (fun c=>?_) (fun c=>?_)
     .have c':(32:Int)<((pr (g9 os):Nat):Int):=by simpa using c
      refine⟨by show 1<=sizeLine;decide,k1 (oQ ?_)⟩;rw[bK EX.1,bK EX.2,ha,dD (by lia)];rfl
     .have c':¬ (32:Int)<((pr (g9 os):Nat):Int):=by simpa using c
      exact k2 _ (GK (by rw[bK EX.1,bK EX.2,ha,bK (by lia)];rfl))
end
theorem E7{A B:Prop}{b:Bool}(hb:b=true)(h:A):if b=true then A else B:=by rw[ak hb];exact h
theorem e_{A B:Prop}{b:Bool}(hb:b=false)(h:B):if b=true then A else B:=by rw[ai (by rw[hb];decide)];exact h
theorem AZ{m st n:Nat}:pf (m+1) st n=pf m st n++(if m / st % n+1<n then [(m,m+st)] else []):=by
 unfold pf;rw[h_,i7,cn,fq];by_cases c:m / st % n+1<n
 .rw[ak (bK c),ak c];rfl
 .rw[ai (by simpa using c),ai c];rfl
theorem gK:∀ {ns:List Nat} {i:Nat},(∀x∈ns,1<=x)->pr (ns.take i)<=pr ns
 |[],i,_=>by rw[List.take_nil];exact aF _
 |n::ns,0,h=>by
  show 1<=n*pr ns;have:∀ {l:List Nat},(∀x∈l,1<=x)->1<=pr l:=fun {l}=>by
   induction l with
   |nil=>intro _;exact aF _
   |cons x l ih=>intro hl;exact js (hl x b_) (ih fun y hy=>hl y (bV _ hy))
  exact this (l:=n::ns) h
 |n::ns,i+1,h=>by
  show n*pr (ns.take i)<=n*pr ns;exact nB n (gK fun x hx=>h x (bV _ hx))
section
variable {P:Program} {w:World} {K:PySem.W.Frag} {mg:Str->Option Value} {base:Heap}
theorem gc:aB ["sides","pairs","step","side","house"] ["sides"] (aq rM):=⟨rfl,rfl,rfl,by decide +kernel,rfl,by decide +kernel,by decide +kernel⟩
def oT:Sp:=fun vs H Q _=>∃ (a:Addr) (ns:List Nat),vs=[.ref a]/\H a=some (.tup (NV ns))/\ns.length<=5/\(∀x∈ns,2<=x/\x<=8)/\pr ns<=32/\∀ (r:Addr) (zs:Zs) (H':Hp),aE H H'->H r=none->H' r=some (.lst (zr zs))->PO H' zs->zp zs=(iL ns).map oK->Q (.ref r) H'
theorem yF{f:Addr}{fd:FuncData}(F:eh K "box_pairs" "box_pairs" rM f fd)(B:Bl mg)(PR:bZ P w K mg base bg 1 "product" ["numbers"] (oP K)):bi P w K mg base bg 2 f fd ["sides"] oT:=by
 refine F.ok gc (fun vs H Q E h=>?_) (fun cM A outer s H vs Q E hr h=>?_)
 .obtain⟨a,ns,rfl,_⟩:=h;rfl
 .obtain⟨a,ns,rfl,ha,hl,hn,hm,k⟩:=h;refine⟨_,ah (aN (i:=1) gc.nd rfl (Or.inl rfl) (cR ag))
   (ah (aN (i:=2) gc.nd rfl (Or.inl rfl) av)
   (ah (cr dw rfl (k_ (pv 0)) (az (i:=3) gc.nd rfl (Or.inl rfl))
    (ah (cr dw rfl (cq rfl B.range (aa (aA PR hr aL (aa (pv 0) ag)) ag)) (az (i:=4) gc.nd rfl (Or.inl rfl))
     (ap (bJ (aO og (aX et (aX dU (aX iS (pv 4) (pv 2)) (pv 3)) av) (pv 3) (aT _))
      (ap (bL (eW eO eN eM bv (pv 1) (aa (dt (aa (pv 4) (aa (aX et (pv 4) (pv 2)) ag))) ag)))) aQ)))
    (ap (k9 (i:=2) gc.nd rfl (Or.inl rfl) (pv 3) vW))))
   (ap (aJ (pv 1))))),?_⟩
  refine⟨by show 0<=sizeLine;decide,fun D hD=>?_⟩;have s0:=aj (o:=.lst []) hD;have Tb:∀x∈ns,1<=x:=fun x hx=>by have:=hn x hx;lia
  refine⟨_,rfl,a,rfl,⟨_,be.of (s0 _ _ ha)⟩,iR (K:=K) (xs:=NV ns) (fun i σ H2=>(∃x3 x4,σ=[some (.ref a),some (.ref D),some (.int ((pr (ns.take i):Nat):Int)),x3,x4])/\mh H D ((E6 (pr ns) ns i).map oK) H2) ⟨⟨_,_,rfl⟩,s0,[],af,PO.nil,rfl⟩ (fun i σ H2 _ z=>be.of (z.2.1 _ _ ha)) ?_ ?_⟩
  .rintro i x σ H2 hx ⟨⟨x3,x4,rfl⟩,P2⟩;obtain⟨n,hv,rfl⟩:=kn hx;have hi:i<ns.length:=(di.mp hv).1;have VP:=hn n (cC hv);have kH:=gK (ns:=ns) (i:=i) Tb;have VQ:1<=pr (ns.take i):=by
    have:=gK (ns:=ns.take i) (i:=0) fun x hx=>Tb x (ny hx);exact this
   have gd:ns.getD i 0=n:=by rw[bE,hv];rfl
   have tk:ns.take (i+1)=ns.take i++[n]:=by rw[d7,hv];rfl
   rw[tk,gJ];have eB:E6 (pr ns) ns (i+1)=E6 (pr ns) ns i++pf (pr ns) (pr (ns.take i)) n:=by unfold E6;rw[jc,gd]
   rw[eB];generalize pr (ns.take i)=st at *;refine⟨_,rfl,a,ns,rfl,be.of (P2.1 _ _ ha),fun x hx=>by have:=hn x hx;lia,?_⟩;refine⟨((pr ns:Nat):Int),rfl,by lia,by lia,dz (n:=pr ns) (lo:=0) (fun j σ H4=>(∃x4,σ=[some (.ref a),some (.ref D),some (.int (st:Int)),some (.int (n:Int)),x4])/\mh H D ((E6 (pr ns) ns i++pf j st n).map oK) H4) ⟨⟨_,rfl⟩,by rw[show pf 0 st n=[] from rfl,jm];exact P2⟩ ?_ ?_⟩
   .rintro j σ H4 hj ⟨⟨VR,rfl⟩,AR,Tc,M7,M8,KO⟩;have VS:((0:Int)+(j:Int)) / (st:Int) % (n:Int)+1=(((j / st % n+1:Nat)):Int):=by rw[fS];rfl
    refine⟨_,rfl,_,rfl,_,_,rfl,rfl,⟨by lia,by lia⟩,_,rfl,_,_,rfl,rfl,(by show (0:Int)<(n:Int);lia),_,_,rfl,rfl,_,rfl,_,_,rfl,rfl,_,rfl,?_⟩;rw[VS,AZ];by_cases c:j / st % n+1<n
    .rw[ak c];refine E7 (bK (by lia)) ?_;rw[fS];refine⟨_,rfl,.inl ⟨rfl,_,a_.of M7⟩,_,rfl,_,rfl,_,rfl,_,_,rfl,rfl,by show 2<=sizeLine;decide,fun t ht=>?_⟩;have Pl:Tc.length<=1000:=by
      have e:=congrArg List.length KO;rw[ce,aI,fk] at e;have z1:∀m' s' n',(pf m' s' n').length<=m':=fun m' s' n'=>by unfold pf;rw[aI];exact bn (jO _ _) (by simp)
      have z2:∀i',(E6 (pr ns) ns i').length<=i'*32:=fun i'=>by
       induction i' with
       |zero=>exact aF _
       |succ i' ih=>unfold E6 at ih |-;rw[jc,fk,Nat.succ_mul];have:=z1 (pr ns) (pr (ns.take i')) (ns.getD i' 0);lia
      have:=z2 i;have:=z1 j st n;lia
     refine⟨D,_,_,rfl,rfl,aj ht _ _ M7,by rw[gI];exact cZ Pl (by decide),⟨_,rfl⟩,?_⟩;have P5:=mh.add (u:=oK (j,j+st)) hD AR M7 M8 KO ht;rw[<-cx,cn (l₂:=[(j,j+st)])];exact P5
    .rw[ai c,jm];refine e_ (dD (by lia)) ⟨⟨_,rfl⟩,AR,Tc,M7,M8,KO⟩
   .rintro σ H4 ⟨⟨VR,rfl⟩,P4⟩;exact⟨_,rfl,_,rfl,_,_,rfl,rfl,.inr ⟨by lia,by lia⟩,⟨_,_,rfl⟩,P4⟩
  .rintro σ H2 ⟨⟨x3,x4,rfl⟩,yB,zs,hz,po,ez⟩;refine⟨_,rfl,k D zs H2 yB hD hz po ?_⟩;rw[ez,bb];unfold iL E6;rw[AY];simp only[qP]
theorem GN:aB ["sides"] ["sides"] (aq AT):=⟨rfl,rfl,rfl,by decide +kernel,rfl,by decide +kernel,by decide +kernel⟩
def vY(K:PySem.W.Frag)(C Pt CS:Addr):Sp:=fun vs H Q E=>∃ (x:V) (o:Option (List (Option Int))),vs=[x]/\Sd K H x o/\jI Pt H/\(box o=none->E (.ref CS) none H)/\(∀ns,box o=some ns->AW C Pt H (pr ns) (kh ((iL ns).map oK)) Q)
theorem DC{f C Pt CS:Addr}{fd:FuncData}(F:eh K "box_net" "box_net" AT f fd)(VT:bZ P w K mg base (iU P w) 3 "check_sides" ["sides"] (oR K CS))(PN:bZ P w K mg base bg 9 "pairs_net" ["many","pairs"] (oO C Pt))(PR:bZ P w K mg base bg 1 "product" ["numbers"] (oP K))(BP:bZ P w K mg base bg 2 "box_pairs" ["sides"] oT):
  bi P w K mg base (iU P w) 10 f fd ["sides"] (vY K C Pt CS):=by
 refine F.Iz GN (fun vs H Q E h=>?_) (fun cM A outer s H vs Q E hr h=>?_)
 .obtain⟨x,o,rfl,_⟩:=h;rfl
 .obtain⟨x,o,rfl,sd,tb,k1,k2⟩:=h;have h1:bO 1 _:=hr.mono (by decide);have h2:bO 2 _:=hr.mono (by decide);have h3:bO 3 _:=hr.mono (by decide);refine⟨_,ah (bL (aA VT h3 (sI (E':=E) fun _ _ _ z=>z) (aa (pv 0) ag)))
   (ap (aJ (aA PN hr aL (aa (aA PR h1 aL (aa (pv 0) ag)) (aa (aA BP h2 aL (aa (pv 0) ag)) ag))))),?_⟩
  refine⟨_,rfl,x,o,rfl,sd,k1,fun ns hb=>?_⟩;cases sd with
  |no ty h=>cases hb
  |@tup p xs os hp hl ew=>
   obtain⟨e1,l1,l2,hn,hm,eo⟩:=AX hb;have ha:os.all (fun o=>a9 o 2 8)=true:=hV.mpr fun o ho=>by
    rw[eo] at ho;obtain⟨n,Mv,rfl⟩:=bQ.mp ho;have:=hn n Mv;unfold a9;simp;lia
   obtain⟨ex,_⟩:=Sd.nums hp hl ew ha;rw[<-e1] at ex;subst ex;refine⟨_,rfl,p,ns,rfl,be.of hp,fun x hx=>by have:=hn x hx;lia,?_⟩;refine⟨_,rfl,p,ns,rfl,hp,l2,hn,hm,fun r zs H2 s2 Pm Pn po ez=>?_⟩;refine⟨pr ns,r,zs,rfl,Pn,po,?_,tb.same s2,?_⟩
   .rw[ez];exact AA (fun x hx=>(hn x hx).1) (by rintro rfl;simp at l1) hm
   .rw[ez];exact(k2 ns hb).same s2
end
end ph
namespace L2
open PySem PySem.Spec PyProof.Rows
section
variable {X:Cx}
end
def b8(cells:List (Str×Addr))(a:Addr):Prop:=∃x,cells.lookup x=some a
abbrev gZ(h0:Heap)(b:Addr):HO:=.ext fun h=>h.get? b=h0.get? b
open Classical in
noncomputable def gN(S:Addr->Prop)(h0:Heap)(H:Hp):Hp:=fun b=>if S b then some (gZ h0 b) else H b
open Classical in
noncomputable def xh(S:Addr->Prop)(H:Hp):Hp:=fun b=>if S b then none else H b
section
variable {S:Addr->Prop} {h0 h h':Heap} {H H':Hp} {b:Addr} {P:Program} {w:World} {fs:List Addr}
theorem kq(e:S b):gN S h0 H b=some (gZ h0 b):=ak e
theorem bo(e:¬ S b):gN S h0 H b=H b:=ai e
theorem lN(e:S b):xh S H b=none:=ak e
theorem cY(e:¬ S b):xh S H b=H b:=ai e
theorem fc(e:H b=none):xh S H b=none:=by
 by_cases c:S b
 .exact lN c
 .rw[cY c];exact e
theorem xi(x:ge P w H h)(l:∀a,S a->H a=some (gZ h0 a)):ge P w (xh S H) h:=fun a o e=>by
 by_cases c:S a
 .rw[lN c] at e;cases e
 .rw[cY c] at e;exact(x a o e).jU (fun _ _ _ q=>q) (fun d q=>by rw[cY fun z=>by rw[l d z] at q;cases q];exact q) fun d xs q=>by rw[cY fun z=>by rw[l d z] at q;cases q];exact q
theorem tX(x:ge P w H h)(l:∀a,S a->H a=none/\h.get? a=h0.get? a/\∃o,h0.get? a=some o):ge P w (gN S h0 H) h:=fun a o e=>by
 by_cases c:S a
 .rw[kq c] at e;cases e;obtain⟨_,e1,o,e2⟩:=l a c;exact⟨e1,⟨o,e1.trans e2⟩,fun h1 h2 z k=>(k o (z.trans e2)).trans e2.symm⟩
 .rw[bo c] at e;exact(x a o e).jU (fun _ _ _ q=>q) (fun d q=>by rw[bo fun z=>by rw[(l d z).1] at q;cases q];exact q) fun d xs q=>by rw[bo fun z=>by rw[(l d z).1] at q;cases q];exact q
theorem GQ(u:Un fs [] (gN S h0 H) H' h h')(l:∀a,S a->H a=none/\h.get? a=h0.get? a/\a∉fs)(l':∀a,S a->h'.get? a=h0.get? a):Un fs [] H (xh S H') h h' where
 keep:=fun b o e n hb hx=>by
  by_cases c:S b
  .rw[l' b c,<-(l b c).2.1];exact e
  .exact u.keep b o e (by rw[bo c];exact n) hb hx
 slot:=fun b o e n hb hx=>u.slot b o e (by rw[bo fun z=>(l b z).2.2 hb];exact n) hb hx
 free:=fun b o e n hx=>by
  by_cases c:S b
  .exact lN c
  .exact fc (u.free b o e (by rw[bo c];exact n) hx)
 there:=u.there
 gj:=fun b xs e=>by
  have c:¬ S b:=fun z=>by rw[(l b z).1] at e;cases e
  rw[cY c];exact u.gj b xs (by rw[bo c];exact e)
 iq:=fun b o v e=>by
  have c:¬ S b:=fun z=>by rw[(l b z).1] at e;cases e
  rw[cY c];exact u.iq b o v (by rw[bo c];exact e)
 ir:=fun b ps e=>by
  have c:¬ S b:=fun z=>by rw[(l b z).1] at e;cases e
  rw[cY c];exact u.ir b ps (by rw[bo c];exact e)
theorem DD(u:Un fs [] (xh S H) H' h h')(l:∀a,S a->H a=some (gZ h0 a)):Un fs [] H (gN S h0 H') h h' where
 keep:=fun b o e n hb hx=>u.keep b o e (fc n) hb hx
 slot:=fun b o e n hb hx=>u.slot b o e (fc n) hb hx
 free:=fun b o e n hx=>by
  have c:¬ S b:=fun z=>by rw[l b z] at n;cases n
  rw[bo c];exact u.free b o e (fc n) hx
 there:=u.there
 gj:=fun b xs e=>by
  have c:¬ S b:=fun z=>by rw[l b z] at e;cases e
  rw[bo c];exact u.gj b xs (by rw[cY c];exact e)
 iq:=fun b o v e=>by
  have c:¬ S b:=fun z=>by rw[l b z] at e;cases e
  rw[bo c];exact u.iq b o v (by rw[cY c];exact e)
 ir:=fun b ps e=>by
  have c:¬ S b:=fun z=>by rw[l b z] at e;cases e
  rw[bo c];exact u.ir b ps (by rw[cY c];exact e)
end
structure tY(cells:List (Str×Addr))(h0:Heap)(H:Hp):Prop where
 inj:∀x y c,cells.lookup x=some c->cells.lookup y=some c->x=y
 at_:∀a,b8 cells a->H a=some (gZ h0 a)
 cell:∀x c,cells.lookup x=some c->∃v,h0.IsCell c v
theorem tY.mono{cells:List (Str×Addr)}{h0:Heap}{H H':Hp}(l:tY cells h0 H)(s:∀a,b8 cells a->H a=some (gZ h0 a)->H' a=some (gZ h0 a)):tY cells h0 H':=⟨l.inj,fun a c=>s a c (l.at_ a c),l.cell⟩
def tZ(cells:List (Str×Addr))(h0:Heap)(x:Str)(v:V):Prop:=∃u c,bf v u/\cells.lookup x=some c/\h0.IsCell c (some u)
def GR(X:Cx)(sp:Sp)(t:TA):TE:=fun σ H Q=>t σ H fun vs H1=>(∀a,b8 X.env.cells a->H1 a=none)->∀h0:Heap,tY X.env.cells h0 (gN (b8 X.env.cells) h0 H1)->(∀ (i:Nat) (x:Str) (v:V),X.N[i]?=some x->σ[i]?=some (some v)->X.env.scope.names.lookup x=some .cell->tZ X.env.cells h0 x v)->
 sp vs (gN (b8 X.env.cells) h0 H1) (fun v H'=>(∀a,b8 X.env.cells a->H' a=some (gZ h0 a))/\Q v (xh (b8 X.env.cells) H')) E0
section
variable {X:Cx} {k:Nat} {x:Str} {ps:List Str} {sp:Sp} {e:Expr} {es:List Expr} {t:TA} {p pos:Pos}
theorem DE(C:bZ X.prog X.w X.K X.mg X.base bg k x ps sp)(hr:bO k X.A)(Je:X.fn=fun _=>true)(Xe:X.ex=[])(ha:PA X (e::es) t)(hg:Gl X x:=by rfl)(vk:(x==("__debug__":Str))=false:=by decide)(he:starEach (e::es) X.env=(false,eval e X.env)::starEach es X.env:=by rfl)(r_:(backTo pos (starEach es X.env)).any (·.1)=false:=by rfl):
  PE X (.Call (.Name x p) (e::es) [] pos) (GR X sp t):=by
 obtain⟨f,fd,hm,hk,hb,F⟩:=C.ex;intro ae s σ H Q I h;refine ji (jW I hg hm ?_ vk);refine qu (h₀:=X.base) I.ok.mod.Fs hk (bS (ha pos ae s σ H _ I h) fun us s1 ⟨vs,H1,I1,r,q⟩=>⟨I1.k7,?_⟩) he r_;have cF:∀a,b8 X.env.cells a->H1 a=none/\(∃o,s1.heap.get? a=some o)/\a∉kG X.stack/\X.base.get? a=none:=fun a ⟨y,ey⟩=>by
  obtain⟨v,o,ho,hd⟩:=I1.cell y a ey;have ab:=I1.ok.Ir y a (by rw[Je]) ey;refine⟨I1.iw y a ey,⟨o,ho⟩,fun iZ=>?_,qv (bn I1.ok.yV ab)⟩;rcases aS.mp (I1.n0 a iZ) with z|z
  .exact I1.Eo y a ey z
  .obtain⟨_,o',si,_⟩:=I1.ok.jw.mem z;exact absurd (bX (aH si) ab) (eQ _)
 have L:tY X.env.cells s1.heap (gN (b8 X.env.cells) s1.heap H1):=⟨I1.ok.inj,fun a c=>kq c,I1.cell⟩
 have q':=q (fun a c=>(cF a c).1) s1.heap L fun i y v h1 h2 h3=>by
  obtain⟨m,_,hl⟩:=I1.loc;obtain⟨u,ru,lk⟩:=hl i y v h1 h2 (.inr (.inl h3));rcases lk with ⟨z,_⟩|⟨_,c,e1,e2⟩
  .have z:X.env.scope.names.lookup y=some .local:=z;rw[h3] at z;cases z
  .exact⟨u,c,ru,e1,e2⟩
 have VU:sB X.prog X.w X.K X.mg X.base X.A X.stack s1 (gN (b8 X.env.cells) s1.heap H1):=by
  obtain⟨e1,e2,e3,e4,e5,e6,e7,e8⟩:=I1.FN;refine⟨e1,e2,fun b o eb=>⟨(e3 b o eb).1,?_⟩,e4,e5,fun b iZ=>?_,tX e7 fun a c=>⟨(cF a c).1,rfl,(cF a c).2.1⟩,e8⟩
  .rw[bo fun z=>by rw[(cF b z).2.2.2] at eb;cases eb];exact(e3 b o eb).2
  .rw[bo fun z=>(cF b z).2.2.1 iZ];exact e6 b iZ
 have hl:us.length=ps.length:=by rw[<-r.length];exact F.len _ _ _ _ q'
 have iZ:=hb s1 us I1.k7 (by rw[jm];exact hl);rw[jm] at iZ;refine kZ (jr (F.run X.A X.stack s1 _ ⟨us,[]⟩ us vs _ E0 hr VU iZ r q') fun rr s' hq=>?_);cases rr with
 |error e=>exact hq.elim
 |ok fl=>
  cases fl with
  |ret u=>
   obtain⟨v,H',os,bare,un,bp,rv,k1,k2⟩:=hq;have l':∀a,b8 X.env.cells a->s'.heap.get? a=s1.heap.get? a:=fun a c=>(bp a _ (k1 a c)).1;exact I1.after ⟨v,xh _ H',os,bare,GQ un (fun a c=>⟨(cF a c).1,rfl,(cF a c).2.2.1⟩) l',xi bp k1,rv,k2⟩
  |next=>exact False.elim hq
  |brk=>exact False.elim hq
  |cont=>exact False.elim hq
end
def rO(scope:Scope)(cz:List (Str×Addr))(qual:Str)(f c L:Addr):Env:=
 { scope:=scope,locals:=L,globals:=mainGlobals,cells:=cz,qual:=qual++".<locals>.",func:=some f,code:=.ref c,frame:=some L,builtins:=builtinsNs }
def vZ(X:Cx)(NB:List Str)(scope:Scope)(cz:List (Str×Addr))(qual:Str)(f c:Addr)(s:Shared)(H:Hp):Cx:=
 { X with A:=X.A.deeper (rO scope cz qual f c s.heap.objs.size),N:=NB,s₀:=s,H₀:=H,env:=rO scope cz qual f c s.heap.objs.size,outer:=X.stack,stack:=rO scope cz qual f c s.heap.objs.size::X.stack,ex:=[],fn:=fun _=>false,pn:=[],xe:=fun _ _=>False }
structure xj(NB:List Str)(nP:Nat)(scope:Scope)(qual:Str)(params:Arguments)(body:Expr):Prop where
 kind:scope.kind=.function
 nd:NB.Nodup
 bind:∀cz pm c ra us,us.length=nP->bindArgs (PySem.W.kla_fn "<lambda>" qual params body scope cz pm (.ref c) ra) ⟨us,[]⟩=pure ((NB.take nP).zip us)
 par:∀x∈NB.take nP,scope.names.lookup x=some .local
 fr:∀i x,nP<=i->NB[i]?=some x->scope.names.lookup x=some .free
 rb:∀z∈scope.names,z.2≠.cell
 co:scope.isCoroutine=false
 gen:scope.isGenerator=false
theorem t4{x:Str}{v:Value}:∀ {l:List (Str×Value)},(l.map (·.1)).Nodup->(x,v)∈l->l.lookup x=some v
 |(y,u)::l,nd,h=>by
  obtain⟨n1,n2⟩:=fR.mp nd;rcases aS.mp h with z|z
  .injection z with z1 z2;rw[z1,z2,dQ,beq_self_eq_true]
  .have ne:x≠y:=fun e=>n1 (by rw[<-e];exact bQ.mpr ⟨_,z,rfl⟩);rw[dQ,show (x==y)=false by simpa using ne];exact t4 n2 z
theorem A0{x:Str}{v:Value}{l:List Str}{us:List Value}{i:Nat}(nd:l.Nodup)(hl:l.length<=us.length)(h1:l[i]?=some x)(h2:us[i]?=some v):(l.zip us).reverse.lookup x=some v:=by
 refine t4 ?_ (List.mem_reverse.mpr (cC (i:=i) ?_))
 .rw[List.map_reverse,List.map_fst_zip hl];exact(qw l).nodup_iff.mpr nd
 .rw[List.getElem?_zip_eq_some];exact⟨h1,h2⟩
section
variable {X:Cx} {ae:List (Addr×Obj)} {σ:St} {H:Hp} {s:Shared} {NB:List Str} {nP:Nat} {scope:Scope} {qual:Str} {params:Arguments} {body:Expr} {cz cells:List (Str×Addr)} {f c:Addr} {h₁ h0:Heap} {t₁:Nat} {vs ws:List V} {us:List Value}
theorem A1(I:aD X ae σ H s)(S:xj NB nP scope qual params body)(hd:X.A.handled=none)(M9:X.calm=true)(c1:∀x c,cz.lookup x=some c->cells.lookup x=some c)(c2:∀x,(x,NameKind.free)∈scope.names->∃c,cz.lookup x=some c)(L:tY cells h0 H)(hw:∀ (i:Nat) (x:Str) (v:V),NB[nP+i]?=some x->ws[i]?=some v->tZ cells h0 x v)(hn:h₁.Ns s.heap.objs.size (fun x=>((NB.take nP).zip us).reverse.lookup x))(hk:∀b o,s.heap.get? b=some o->h₁.get? b=some o)(rv:aZ vs us)(hv:vs.length=nP)(dq:nP+ws.length=NB.length):
  aD (vZ X NB scope cz qual f c s (xh (b8 cells) H)) [] ((vs++ws).map some) (xh (b8 cells) H) { s with heap:=h₁,toks:=t₁ }:=by
 have VV:∀ {x c},cz.lookup x=some c->b8 cells c:=fun {x c} e=>⟨x,c1 x c e⟩
 have VW:∀a,b8 cells a->s.heap.get? a=h0.get? a:=fun a z=>(I.bp a _ (L.at_ a z)).1;have ot:∀x c v,cells.lookup x=some c->h0.IsCell c v->h₁.IsCell c v:=fun x c v e ⟨o,ho,Ft⟩=>⟨o,hk _ _ ((VW c ⟨x,e⟩).trans ho),Ft⟩
 refine⟨⟨I.ok.mod,S.kind,rfl,rfl,aF _,fun x y c e1 e2=>L.inj x y c (c1 x c e1) (c1 y c e2),fun x hx=>?_,(fun x c z e=>by cases z),fun _=>hd,Around.frames_deeper I.ok.frames,.inr ⟨rfl,rfl⟩,(fun b hb=>by cases hb),fun b o e=>⟨(I.bs b o e).1,fc (I.bs b o e).2⟩,bn I.ok.yV I.sz,(fun b o e hb=>by cases hb),(fun b hb=>by cases hb),I.stack,fun b hb=>fc (I.jV b hb)⟩,
  rfl,I.bare,Un.kept hk,⟨_,hn,fun i x w e1 e2 e3=>?_⟩,fun x c e=>?_,fc (I.bp.fresh (aF _)),fun x c e=>lN (VV e),fun p hp=>absurd (show p∈([]:List (Addr×Obj)) from hp) (by simp),(xi I.bp L.at_).kept hk,?_⟩
 .have hx:scope.names.lookup x=some .cell\/scope.names.lookup x=some .free:=hx;rcases hx with z|z
  .exact absurd rfl (S.rb _ (hU z))
  .exact c2 x (hU z)
 .have e1:NB[i]?=some x:=e1;have e2:(vs++ws)[i]?=some w:=by
   rw[bh] at e2;obtain⟨w',h1,h2⟩:=Option.map_eq_some_iff.mp e2;rw[h1];exact h2
  by_cases hi:i<nP
  .rw[lT (by rw[hv];exact hi)] at e2;obtain⟨u,hu,ru⟩:=rv.get e2;have hp:(NB.take nP)[i]?=some x:=by rw[zh hi];exact e1
   have hx:x∈NB.take nP:=cC hp;refine⟨u,ru,.inl ⟨S.par x hx,?_⟩⟩;exact A0 (S.nd.sublist (List.take_sublist _ _)) (by rw[<-rv.length,hv];exact List.length_take_le _ _) hp hu
  .rw[nu (by rw[hv];lia),hv] at e2;obtain⟨u,c',ru,ec,hc⟩:=hw (i-nP) x w (by rw[show nP+(i-nP)=i by lia];exact e1) e2;have hF:=S.fr i x (by lia) e1;obtain⟨M_,KP⟩:=c2 x (hU hF);have:M_=c':=by have:=c1 x M_ KP;rw[ec] at this;exact(bA this).symm
   subst this;exact⟨u,ru,.inr ⟨.inr hF,M_,KP,ot x M_ _ ec hc⟩⟩
 .obtain⟨v,vd⟩:=L.cell x c (c1 x c e);exact⟨v,ot x c v (c1 x c e) vd⟩
 .show ((vs++ws).map some).length=NB.length;rw[aI,fk,hv];exact dq
def E8(nP:Nat)(scope:Scope)(qual:Str)(params:Arguments)(body:Expr)(NB:List Str)(te:TE)(f:Addr)(vs:List V)(H:Hp)(Q:VK):Prop:=∃ (cells:List (Str×Addr)) (c:Addr) (h0:Heap) (ws:List V),H f=some (oz f qual params body scope cells c)/\H c=some (md c qual)/\vs.length=nP/\nP+ws.length=NB.length/\tY cells h0 H/\
 (∀ (i:Nat) (x:Str) (v:V),NB[nP+i]?=some x->ws[i]?=some v->tZ cells h0 x v)/\te ((vs++ws).map some) (xh (b8 cells) H) fun v H'=>(∀a,b8 cells a->H' a=none)->Q v (gN (b8 cells) h0 H')
theorem DG{te:TE}{Q:VK}{k:Nat}(hr:bO k X.A)(M9:X.calm=true)(S:xj NB nP scope qual params body)(I:aD X ae σ H s)(rv:aZ vs us)(hb:∀cz c s H,PE (vZ X NB scope cz qual f c s H) body te)(h:E8 nP scope qual params body NB te f vs H Q):
  wpAny (model X.prog X.w) X.A (call (.ref f) us) (EP X ae σ Q) X.xe s:=by
 obtain⟨cells,c,h0,ws,hf,hc,hv,dq,L,hw,h⟩:=h;obtain⟨cz,pm,ra,c1,c2,FW⟩:=(I.bp f _ hf).1;have Os:s.heap.CodeRec (.ref c) qual:=(I.bp c _ hc).1;have Ab:X.A.depth<recursionLimit:=by have:=hr.dp;lia
 have VX:us.length=nP:=by rw[<-rv.length];exact hv
 refine kZ (PySem.W.kla_callFunE Ab FW rfl S.co S.gen rfl Os ?_);rw[S.bind _ _ _ _ _ VX];refine wpAny_pure (wpAny_newFunctionEnv S.rb (fun x hx=>?_) (fun h₁ sU J8=>⟨I.nolimit.fresh _ J8,?_⟩) S.kind)
 .exact S.par _ (kT hx).1
 have F7:∀b o,s.heap.get? b=some o->h₁.get? b=some o:=fun b o e=>J8.extBut b o (aU (aH e)) (bN _ e);refine PySem.W.kla_codeExpr ?_;have J:=A1 (f:=f) (c:=c) (t₁:=s.toks+((NB.take nP).zip us).length) I S hr.hd M9 c1 c2 L hw sU F7 rv hv dq;refine io (hb cz c s _ [] _ _ _ _ J h) (fun w s' ⟨v',H',J',r',q'⟩=>?_) fun _ _ z=>z.elim;have kp:∀a,b8 cells a->H' a=none/\s'.heap.get? a=h0.get? a/\∃o,h0.get? a=some o:=fun a z=>by
  obtain⟨y,ey⟩:=id z;have e0:s.heap.get? a=h0.get? a:=(I.bp a _ (L.at_ a z)).1;obtain⟨v,o,ho,_⟩:=L.cell y a ey;have es:s.heap.get? a=some o:=e0.trans ho;refine⟨J'.base.free a o es (lN z) (by intro z;cases z),?_,o,ho⟩;rw[ho];exact J'.base.keep a o es (lN z) (fun iZ=>by have:=I.jV a iZ;rw[L.at_ a z] at this;cases this) (by intro z;cases z)
 exact⟨v',gN (b8 cells) h0 H',I.Ev (ch:=[]) J'.os (DD J'.base L.at_) (tX J'.bp kp) J'.bare (fun b hb=>by cases hb),r',q' fun a z=>(kp a z).1⟩
def KQ(i:Nat)(nP:Nat)(scope:Scope)(qual:Str)(params:Arguments)(body:Expr)(NB:List Str)(te:TE)(t:TA):TE:=fun σ H Q=>∃f,σ[i]?=some (some (.ref f))/\(∃cells c,H f=some (oz f qual params body scope cells c))/\t σ H fun vs H1=>E8 nP scope qual params body NB te f vs H1 Q
theorem DH{te:TE}{k i:Nat}{x:Str}{e:Expr}{es:List Expr}{t:TA}{p pos:Pos}(hr:bO k X.A)(M9:X.calm=true)(S:xj NB nP scope qual params body)(hx:PE X (.Name x p) (bU i))(ha:PA X (e::es) t)(hb:∀f cz c s H,PE (vZ X NB scope cz qual f c s H) body te)(he:starEach (e::es) X.env=(false,eval e X.env)::starEach es X.env:=by rfl)(r_:(backTo pos (starEach es X.env)).any (·.1)=false:=by rfl):
  PE X (.Call (.Name x p) (e::es) [] pos) (KQ i nP scope qual params body NB te t):=by
 intro ae s σ H Q I h;obtain⟨f,hσ,⟨cells,c,hf⟩,h⟩:=h;have fn:∀ {s:Shared} {H:Hp} {cells:List (Str×Addr)} {c:Addr},ge X.prog X.w H s.heap->H f=some (oz f qual params body scope cells c)->PySem.W.FnAt f s.heap:=fun {s H cells c} bp hf=>by
  obtain⟨cz,pm,ra,_,_,e⟩:=(bp f _ hf).1;exact⟨_,_,_,_,e⟩
 refine ji (bS (hx ae s σ H (fun v H1=>v=.ref f/\H1=H) I ⟨_,hσ,rfl,rfl⟩) fun u s1 ⟨v,H1,I1,r1,ev,eH⟩=>?_);subst ev;subst eH;cases r1;refine PySem.W.callWith_F (fn I1.bp hf) (bS (ha pos ae s1 σ H1 _ I1 h) fun us s2 ⟨vs,H2,I2,r,q⟩=>⟨?_,?_⟩) he r_
 .obtain⟨Po,c',_,_,xW,_⟩:=id q;exact fn I2.bp xW
 .exact DG hr M9 S I2 r (hb f) q
end
end L2
namespace f9
def bY:List Nat->Nat->List Nat
 |[],_=>[]
 |n::ns,h=>(h % n)::bY ns (h / n)
theorem cB:∀ {ns:List Nat} {h:Nat},(bY ns h).length=ns.length
 |[],_=>rfl
 |n::ns,h=>by show (bY ns (h / n)).length+1=ns.length+1;rw[cB]
theorem t6:∀ {ns:List Nat} {n h:Nat},bY (ns++[n]) h=bY ns h++[h / pr ns % n]
 |[],n,h=>by show [h % n]=[h / 1 % n];rw[nX]
 |m::ns,n,h=>by
  show (h % m)::bY (ns++[n]) (h / m)=(h % m)::(bY ns (h / m)++[h / (m*pr ns) % n]);rw[t6,pC]
theorem jK:∀ {ns:List Nat} {h i:Nat},(∀x∈ns,0<x)->i<ns.length->(bY ns h).getD i 0<ns.getD i 0
 |[],_,_,_,hi=>absurd hi (gT _)
 |n::ns,h,0,hn,_=>jt h (hn n b_)
 |n::ns,h,i+1,hn,hi=>jK (ns:=ns) (h:=h / n) (i:=i) (fun x hx=>hn x (bV _ hx)) (qi hi)
def rP:List Nat->List Nat->Nat
 |n::ns,d::ds=>d+n*rP ns ds
 |_,_=>0
theorem t9:∀ {ns ds:List Nat} {n d:Nat},ns.length=ds.length->rP (ns++[n]) (ds++[d])=rP ns ds+pr ns*d
 |[],[],n,d,_=>by show d+n*0=0+1*d;lia
 |m::ns,e::ds,n,d,h=>by
  show e+m*rP (ns++[n]) (ds++[d])=e+m*rP ns ds+m*pr ns*d;rw[t9 (ik h),eT,jp,nW]
theorem kr:∀ {ns:List Nat} {h:Nat},h<pr ns->rP ns (bY ns h)=h
 |[],h,hh=>by have hh:h<1:=hh;show 0=h;lia
 |n::ns,h,hh=>by
  show h % n+n*rP ns (bY ns (h / n))=h;rw[kr (ux hh),Nat.mod_add_div]
theorem rQ:∀ {ns ds:List Nat} {k v:Nat},ns.length=ds.length->k<ds.length->rP ns (ds.set k v)+pr (ns.take k)*ds.getD k 0=rP ns ds+pr (ns.take k)*v
 |[],[],k,v,_,h=>absurd h (gT _)
 |n::ns,d::ds,0,v,_,_=>by show v+n*rP ns ds+1*d=d+n*rP ns ds+1*v;lia
 |n::ns,d::ds,k+1,v,hl,hk=>by
  have ih:=rQ (ns:=ns) (ds:=ds) (k:=k) (v:=v) (ik hl) (qi hk);show d+n*rP ns (ds.set k v)+n*pr (ns.take k)*ds.getD k 0=d+n*rP ns ds+n*pr (ns.take k)*v;rw[nW,nW,jp,jp,<-eT,<-eT,ih]
def y0(ns:List Nat)(a b:Nat):Option Nat:=(List.range ns.length).find? fun i=>decide ((bY ns a).getD i 0≠(bY ns b).getD i 0)
theorem m9{ns:List Nat}{a b k:Nat}(h:y0 ns a b=some k):k<ns.length/\(bY ns a).getD k 0≠(bY ns b).getD k 0:=
 ⟨cD.mp (List.mem_of_find?_eq_some h),fm (List.find?_some (p:=fun i=>decide ((bY ns a).getD i 0≠(bY ns b).getD i 0)) h)⟩
def xk(ns:List Nat)(a b:Nat):Option Nat:=(y0 ns a b).map fun k=>if (bY ns a).getD k 0<(bY ns b).getD k 0 then a+pr (ns.take k) else a-pr (ns.take k)
end f9
namespace L2
open PySem PySem.Spec PyProof.Rows
theorem DI{X:Cx}:Jo X .FloorDiv (fun x y H Q=>∃i j,x=.int i/\y=.int j/\FI i j/\Q (.int (i / j)) H):=by
 intro ae s σ H x y v u Q I r1 r2 h;exact zx ae s σ H x y v u Q I r1 r2 h
end L2
namespace ph
open PySem L2 f9
abbrev DJ:Stmt:=gw (fz 43) 0
abbrev GS:Stmt:=gw (fz 43) 3
abbrev GT:Stmt:=gw (fz 43) 4
abbrev GU:Stmt:=gw (fz 43) 7
abbrev GV:Stmt:=gw (fz 43) 8
structure Bx(ns:List Nat):Prop where
 l1:1<=ns.length
 l5:ns.length<=5
 sd:∀x∈ns,2<=x/\x<=8
 E9:pr ns<=32
theorem Bx.pos{ns:List Nat}(B:Bx ns):∀x∈ns,0<x:=fun x hx=>by have:=B.sd x hx;lia
abbrev VY(ns:List Nat):Ts:=kh ((iL ns).map oK)
structure E_(K:PySem.W.Frag)(mg:Str->Option Value)(CB:Addr):Prop where
 cl:zF K CB
 nN:eC K CB "tied_net"
 nS:eC K CB "side_row"
 OU:mg "Box"=some (.ref CB)
def A2(pn sr:Addr):List (Str×V):=cg "side_row" (.ref sr) (cg "tied_net" (.ref pn) [])
theorem VZ:¬ (("tied_net":Str)="side_row"):=by decide +kernel
theorem KR{pn sr:Addr}:(A2 pn sr).lookup ("tied_net":Str)=some (.ref pn):=by unfold A2;rw[aV,ai VZ,aV,ak rfl]
theorem A3{pn sr:Addr}:(A2 pn sr).lookup ("side_row":Str)=some (.ref sr):=by unfold A2;rw[aV,ak rfl]
theorem rR{pn sr:Addr}{m:Str}(h1:¬ m="tied_net")(h2:¬ m="side_row"):(A2 pn sr).lookup m=none:=by unfold A2;rw[aV,ai h2,aV,ai h1];rfl
structure eI(C CB:Addr)(H:Hp)(L:Addr->Prop)(b:Addr)(ns:List Nat):Prop where
 bx:Bx ns
 ob:∃dx pn sr,H b=some (.ins CB dx (A2 pn sr))/\gb C H L pn (pr ns) (VY ns)/\H sr=some (.tup (NV ns))
theorem eI.same{C CB b:Addr}{H H':Hp}{L:Addr->Prop}{ns:List Nat}(h:eI C CB H L b ns)(s:aE H H'):eI C CB H' L b ns:=
 let ⟨dx,pn,sr,a,c,d⟩:=h.ob
 ⟨h.bx,dx,pn,sr,s _ _ a,c.same s,s _ _ d⟩
abbrev Na(K:PySem.W.Frag)(H:Hp)(x:V)(o:Option Int):Prop:=∀H',aE H H'->Wh K H' x o
theorem ku{ns:List Nat}{h i:Nat}(hi:i<ns.length):(NV (bY ns h))[i]?=some (.int (((bY ns h).getD i 0:Nat):Int)):=by
 have:i<(bY ns h).length:=by rw[cB];exact hi
 rw[bh,bC this,bE,bC this];rfl
section
variable {P:Program} {w:World} {K:PySem.W.Frag} {mg:Str->Option Value} {base:Heap}
theorem KS:aB ["self","sides"] ["self","sides"] (aq DJ):=⟨rfl,rfl,rfl,by decide +kernel,rfl,by decide +kernel,by decide +kernel⟩
def A4(C CB Pt:Addr):Sp:=fun vs H Q _=>∃ (b dx sr:Addr) (ns:List Nat),vs=[.ref b,.ref sr]/\H b=some (.ins CB dx [])/\H sr=some (.tup (NV ns))/\Bx ns/\jI Pt H/\
 ∀H',eI C CB H' (fun a=>H a=none) b ns->jI Pt H'->ja b Pt H H'->Q .bD H'
theorem A5{ns:List Nat}(B:Bx ns):box (some (ns.map fun (n:Nat)=>some (n:Int)))=some ns:=by
 have e:g9 (ns.map fun (n:Nat)=>some (n:Int))=ns:=by
  unfold g9;rw[gW];conv=>rhs;rw[<-il ns]
  exact jQ fun n _=>rfl
 unfold box;dsimp only;rw[e,ak];rw[aI,bK B.l1,bK B.l5,bK B.E9,u3,Bool.true_and,Bool.true_and,hV];intro o ho;obtain⟨n,hn,rfl⟩:=bQ.mp ho;have:=B.sd n hn;unfold a9;simp;lia
theorem KU{H:Hp}{a:Addr}{ns:List Nat}(h:H a=some (.tup (NV ns))):Sd K H (.ref a) (some (ns.map fun (n:Nat)=>some (n:Int))):=by
 refine .tup h (by rw[aI,aI]) fun i x o hx ho=>?_;obtain⟨n,hn,rfl⟩:=kn hx;rw[bh,hn] at ho;cases ho;exact .int _
theorem GX{f C CB CS Pt:Addr}{fd:FuncData}(F:eh K "__init__" "Box.__init__" DJ f fd)(B:Bl mg)(TB:E_ K mg CB)(BN:bZ P w K mg base (iU P w) 10 "box_net" ["sides"] (vY K C Pt CS)):bi P w K mg base bg 11 f fd ["self","sides"] (A4 C CB Pt):=by
 refine F.ok KS (fun vs H Q E h=>?_) (fun cM A outer s H vs Q E hr h=>?_)
 .obtain⟨b,dx,sr,ns,rfl,_⟩:=h;rfl
 .obtain⟨b,dx,sr,ns,rfl,hb,v3,BX,tb,q⟩:=h;refine⟨_,ah (lu (pv 0) (aA BN hr wu (aa (pv 1) ag)) rfl)
   (ap (lu (pv 0) (bu br (by rfl) B.tup fL (aa (pv 1) ag)) rfl)),?_⟩
  refine⟨_,rfl,_,_,rfl,KU v3,tb,(fun z=>by rw[A5 BX] at z;cases z),fun Xf e pn H1 Td N1 t1 s1=>?_⟩;rw[A5 BX] at e;cases e;have nb:b≠Pt:=tb.not hb (by intro ps z;cases z);have Te:sr≠b:=by rintro rfl;rw[hb] at v3;cases v3
  have M3:=s1 _ _ hb nb;refine⟨_,rfl,b,CB,dx,_,rfl,M3,TB.cl,TB.nN,by show 0<1000;decide,?_⟩;have KW:=s1 _ _ v3 (tb.not v3 (by intro ps z;cases z));refine⟨_,rfl,sr,_,rfl,.inr ⟨be.of (by rw[am Te];exact KW),?_⟩⟩;refine⟨_,rfl,b,CB,dx,_,rfl,af,TB.cl,TB.nS,by show 1<1000;decide,?_⟩;have kp:∀c o,c≠b->H1 c=some o->(upd (upd H1 b (.ins CB dx (cg "tied_net" (.ref pn) []))) b (.ins CB dx (cg "side_row" (.ref sr) (cg "tied_net" (.ref pn) [])))) c=some o:=fun c o n e=>by rw[am n,am n];exact e
  refine q _ ⟨BX,dx,pn,sr,af,N1.keep (fun c o l e=>kp c o (by rintro rfl;rw[hb] at l;cases l) e) (fun o e=>kp pn o (by rintro rfl;rw[hb] at Td;cases Td) e),kp _ _ Te KW⟩ ?_ (fun c o e n1 n2=>kp c o n1 (s1 _ _ e n2));rcases t1 with z|⟨c,z,y⟩
  .exact .inl (kp _ _ nb.symm z)
  .exact .inr ⟨c,kp _ _ nb.symm z,kp _ _ (by rintro rfl;rw[M3] at y;cases y) y⟩
end
theorem kA{pn sr:Addr}:(A2 pn sr).lookup ("place":Str)=none:=rR (by decide +kernel) (by decide +kernel)
theorem A6{pn sr:Addr}:(A2 pn sr).lookup ("house":Str)=none:=rR (by decide +kernel) (by decide +kernel)
theorem A7{pn sr:Addr}:(A2 pn sr).lookup ("phase":Str)=none:=rR (by decide +kernel) (by decide +kernel)
theorem lO{ns:List Nat}(h:∀x∈ns,0<x):0<pr ns:=by
 induction ns with
 |nil=>exact Nat.one_pos
 |cons n ns ih=>exact js (h n b_) (ih fun x hx=>h x (bV _ hx))
theorem xl{K:PySem.W.Frag}{a b:Addr}{xs ys:List V}{g:TG}{tb:TS}{D:sk}{σ:St}{H:Hp}(EU:xs.length=ys.length)(Pv:Nat->St->Hp->Prop)(h0:Pv 0 σ H)(hl:∀i σ H,i<=xs.length->Pv i σ H->be K H a xs/\be K H b ys)(hs:∀i x y p σ H,xs[i]?=some x->ys[i]?=some y->Pv i σ H->H p=none->g (.ref p) σ (upd H p (.tup [x,y])) fun σ2 H2=>tb { D with nx:=Pv (i+1),ct:=Pv (i+1),bk:=D.nx } σ2 H2)(hd:∀σ H,Pv xs.length σ H->D.nx σ H):
  ∃W:Nat->Nat->St->Hp->Prop,(∃m,W 0 m σ H)/\∀i m σ H,W i m σ H->
   ((IJ K a b).stop i H/\D.nx σ H)\/((IJ K a b).go i H/\∃N:St->Hp->Prop,(∀σ' H',N σ' H'->∃m',m'<m/\W (i+1) m' σ' H')/\∀x H',(IJ K a b).FF i H x H'->g x σ H' fun σ2 H2=>tb { D with nx:=N,ct:=N,bk:=D.nx } σ2 H2):=by
 refine⟨fun i m σ H=>m=xs.length-i/\i<=xs.length/\Pv i σ H,⟨xs.length,by simp,cE _,h0⟩,?_⟩;rintro i m σ H ⟨rfl,hi,p⟩;obtain⟨q1,q2⟩:=hl i σ H hi p;by_cases de:i<xs.length
 .have oJ:i<ys.length:=by lia
  refine .inr ⟨⟨xs,ys,xs[i],ys[i],q1,q2,by simp[de],by simp[oJ]⟩,Pv (i+1),fun σ' H' p'=>⟨xs.length-(i+1),by lia,rfl,de,p'⟩,?_⟩;rintro v H' ⟨pp,x,y,rfl,hn,rfl,C7,Ks⟩;exact hs i x y pp σ _ (C7 xs q1) (Ks ys q2) p hn
 .have e:i=xs.length:=by lia
  subst e;exact .inl ⟨⟨xs,q1,aF _⟩,hd σ H p⟩
section
variable {P:Program} {w:World} {K:PySem.W.Frag} {mg:Str->Option Value} {base:Heap}
theorem xm:aB ["self","house","numbers","side"] ["self","house"] (aq GS):=⟨rfl,rfl,rfl,by decide +kernel,rfl,by decide +kernel,by decide +kernel⟩
def xn(K:PySem.W.Frag)(C CB CE:Addr):Sp:=fun vs H Q E=>∃ (L:Addr->Prop) (b:Addr) (ns:List Nat) (x:V) (o:Option Int),vs=[.ref b,x]/\eI C CB H L b ns/\Wh K H x o/\(a9 o 0 ((pr ns:Int)-1)=false->E (.ref CE) none H)/\∀h:Nat,h<pr ns->o=some (h:Int)->∀ (t:Addr) (H':Hp),aE H H'->H' t=some (.tup (NV (bY ns h)))->Q (.ref t) H'
theorem GY{f C CB CE:Addr}{fd:FuncData}(F:eh K "place" "Box.place" GS f fd)(B:Bl mg)(T:NT K mg C)(TB:E_ K mg CB)(M:mB P w K mg base (iU P w) 4 C "check_house" ["self","thing"] (rD K C CE)):bi P w K mg base (iU P w) 5 f fd ["self","house"] (xn K C CB CE):=by
 obtain⟨fM,V0,mM,bM,GM⟩:=M.ex;refine F.Iz xm (fun vs H Q E h=>?_) (fun cM A outer s H vs Q E hr h=>?_)
 .obtain⟨L,b,ns,x,o,rfl,_⟩:=h;rfl
 .obtain⟨L,b,ns,x,o,rfl,⟨BX,dx,pn,sr,hb,N,v3⟩,wh,k1,k2⟩:=h;obtain⟨V1,tl,ol,ds,h1,_⟩:=N.ob;have l5:=BX.l5;refine⟨_,ah (bL (fv (jy (pv 0) rfl) T.cl mM GM hr bM .nil (sI (E':=E) fun _ _ _ z=>z) (aa (pv 1) ag)))
   (ah (aN (i:=2) xm.nd rfl (Or.inl rfl) (cR ag))
   (ah (cr FX rfl (k_ (jy (pv 0) rfl)) (az (i:=3) xm.nd rfl (Or.inl rfl))
    (ah (bL (eW eO eN eM bv (pv 2) (aa (aX dU (pv 1) (pv 3)) ag)))
    (ap (k9 (i:=1) xm.nd rfl (Or.inl rfl) (pv 3) DI))))
   (ap (aJ (bu br (by rfl) B.tup fL (aa (pv 2) ag)))))),?_⟩
  refine⟨_,rfl,b,CB,dx,_,_,rfl,hb,TB.cl,TB.nN,KR,pn,V1,_,rfl,h1,OV _ _ _ _,_,rfl,L,pn,pr ns,_,x,o,rfl,N,wh,k1,fun hw=>?_⟩;obtain⟨h,hh,rfl⟩:=vQ hw;obtain rfl:=AI wh;refine⟨by show 0<=sizeLine;decide,fun D hD=>?_⟩;have s0:=aj (o:=.lst []) hD;refine⟨_,rfl,b,CB,dx,_,_,rfl,s0 _ _ hb,TB.cl,TB.nS,A3,sr,rfl,⟨_,be.of (s0 _ _ v3)⟩,iR (K:=K) (xs:=NV ns) (fun i σ H2=>(∃x,σ=[some (.ref b),some (.int ((h / pr (ns.take i):Nat):Int)),some (.ref D),x])/\aE H H2/\H2 D=some (.lst (NV (bY (ns.take i) h)))) ⟨⟨_,by rw[List.take_zero];show _=[_,some (V.int ((h / 1:Nat):Int)),_,_];rw[nX];rfl⟩,s0,af⟩ (fun i σ H2 _ z=>be.of (z.2.1 _ _ v3)) ?_ ?_⟩
  .rintro i x σ H2 hx ⟨⟨x',rfl⟩,sm,mC⟩;obtain⟨n,hv,rfl⟩:=kn hx;have hi:i<ns.length:=(di.mp hv).1;have VP:=BX.sd n (cC hv);have tk:ns.take (i+1)=ns.take i++[n]:=by rw[d7,hv];rfl
   rw[tk,t6,gJ];have dl:(bY (ns.take i) h).length<=5:=by rw[cB,kR];lia
   refine⟨_,rfl,.inl ⟨rfl,_,a_.of mC⟩,_,rfl,_,rfl,_,_,rfl,rfl,(by show (0:Int)<(n:Int);lia),D,_,_,rfl,rfl,mC,by rw[bb];exact cZ dl (by decide),?_⟩;refine⟨_,rfl,_,rfl,_,_,rfl,rfl,⟨by lia,by lia⟩,⟨some (.int n),?_⟩,aW sm hD,?_⟩
   .rw[<-pC];rfl
   .rw[af,<-km];rfl
  .rintro σ H2 ⟨⟨x',rfl⟩,sm,mC⟩;rw[bb,fO] at mC;exact⟨_,rfl,D,_,rfl,.inl ⟨a_.of mC,fun t ht=>k2 h hh rfl t _ (sm.trans (aj ht)) af⟩⟩
theorem oU:aB ["self","place","total","step","number","side"] ["self","place"] (aq GT):=⟨rfl,rfl,rfl,by decide +kernel,rfl,by decide +kernel,by decide +kernel⟩
def A8(C CB:Addr):Sp:=fun vs H Q _=>∃ (L:Addr->Prop) (b a:Addr) (ns es:List Nat),vs=[.ref b,.ref a]/\eI C CB H L b ns/\H a=some (.tup (NV es))/\es.length=ns.length/\(∀i,i<ns.length->es.getD i 0<ns.getD i 0)/\∀H',aE H H'->Q (.int (rP ns es:Nat)) H'
theorem GZ{f C CB:Addr}{fd:FuncData}(F:eh K "house" "Box.house" GT f fd)(B:Bl mg)(hz:mg "zip"=none)(TB:E_ K mg CB)(R:bZ P w K mg base bg 1 "is_row" ["thing","length"] (tQ K))(HO:bZ P w K mg base bg 3 "is_house" ["many","thing"] (kj K)):bi P w K mg base bg 4 f fd ["self","place"] (A8 C CB):=by
 refine F.ok oU (fun vs H Q E h=>?_) (fun cM A outer s H vs Q E hr h=>?_)
 .obtain⟨L,b,a,ns,es,rfl,_⟩:=h;rfl
 .obtain⟨L,b,a,ns,es,rfl,⟨BX,dx,pn,sr,hb,N,v3⟩,ha,el,lt,q⟩:=h;have h1:bO 1 _:=hr.mono (by decide);have l5:=BX.l5;refine⟨_,ah (bJ (dG (dg (aA R h1 aL (aa (pv 1) (aa (aK aM (by rfl) B.len dE (aa (jy (pv 0) rfl) ag)) ag))))) cp aQ)
   (ah (aN (i:=2) oU.nd rfl (Or.inl rfl) av)
   (ah (aN (i:=3) oU.nd rfl (Or.inl rfl) av)
   (ah (cr dw rfl (mY rfl hz (aa (pv 1) (aa (jy (pv 0) rfl) ag))) (dI (n:=2) rfl (aR (az (i:=4) oU.nd rfl (Or.inl rfl)) (aR (az (i:=5) oU.nd rfl (Or.inl rfl)) cJ)))
    (ah (bJ (dG (dg (aA HO hr aL (aa (pv 5) (aa (pv 4) ag))))) cp aQ)
    (ah (k9 (i:=2) oU.nd rfl (Or.inl rfl) (aX eA (pv 3) (pv 4)) u6)
    (ap (k9 (i:=3) oU.nd rfl (Or.inl rfl) (pv 5) vW)))))
   (ap (aJ (pv 2)))))),?_⟩
  refine⟨_,rfl,_,rfl,b,CB,dx,_,_,rfl,hb,TB.cl,TB.nS,A3,sr,_,rfl,.inr (be.of v3),_,_,_,rfl,.tup ha,_,rfl,e_ (by show (!decide (((NV es).length:Int)=((NV ns).length:Int)))=false;rw[bb,bb,el,bK rfl];rfl) ?_⟩;refine⟨_,rfl,_,rfl,b,CB,dx,_,_,rfl,hb,TB.cl,TB.nS,A3,a,sr,_,_,rfl,be.of ha,be.of v3,by rw[bb,bb];lia,?_⟩;refine xl (K:=K) (xs:=NV es) (ys:=NV ns) (by rw[bb,bb];exact el) (fun i σ H2=>(∃x4 x5,σ=[some (.ref b),some (.ref a),some (.int ((rP (ns.take i) (es.take i):Nat):Int)),some (.int ((pr (ns.take i):Nat):Int)),x4,x5])/\aE H H2) ⟨⟨_,_,rfl⟩,aE.refl _⟩ (fun i σ H2 _ z=>⟨be.of (z.2 _ _ ha),be.of (z.2 _ _ v3)⟩) ?_ ?_
  .rintro i x y pp σ H2 hx hy ⟨⟨x4,x5,rfl⟩,sm⟩ DK;obtain⟨e,he,rfl⟩:=kn hx;obtain⟨n,hn,rfl⟩:=kn hy;have hi:i<ns.length:=(di.mp hn).1;have l:=lt i hi;rw[bE,he,bE,hn] at l;have l:e<n:=l;have n8:=BX.sd n (cC hn);have tk:ns.take (i+1)=ns.take i++[n]:=by rw[d7,hn];rfl
   have V2:es.take (i+1)=es.take i++[e]:=by rw[d7,he];rfl
   rw[tk,V2,t9 (by rw[kR,kR,el]),gJ];refine⟨pp,_,rfl,be.of af,rfl,_,_,rfl,_,_,rfl,rfl,?_⟩;refine⟨_,rfl,_,rfl,_,_,_,rfl,.int _,_,rfl,e_ (by rw[eK l];rfl) ?_⟩;refine⟨_,rfl,_,rfl,_,rfl,_,_,rfl,rfl,.inr ⟨by lia,by lia⟩,_,_,rfl,rfl,?_⟩;refine⟨_,rfl,_,rfl,_,_,rfl,rfl,.inr ⟨by lia,by lia⟩,⟨_,_,rfl⟩,sm.trans (aj DK)⟩
  .rintro σ H2 ⟨⟨x4,x5,rfl⟩,sm⟩;rw[bb,el,fO,<-el,fO];exact⟨_,rfl,q H2 sm⟩
end
def oV:Option Nat->V
 |none=>.bD
 |some y=>.int (y:Int)
theorem Fa{ns:List Nat}{a b k:Nat}(hk:k<ns.length)(hj:∀j,j<k->(bY ns a).getD j 0=(bY ns b).getD j 0)(ne:(bY ns a).getD k 0≠(bY ns b).getD k 0):y0 ns a b=some k:=
 List.find?_range_eq_some.mpr ⟨bK ne,cD.mpr hk,fun j h=>by rw[dD (fun z=>z (hj j h))];rfl⟩
theorem Fb{ns:List Nat}{a b:Nat}(hj:∀j,j<ns.length->(bY ns a).getD j 0=(bY ns b).getD j 0):y0 ns a b=none:=
 uI.mpr fun j h=>by simpa using hj j (cD.mp h)
section
variable {P:Program} {w:World} {K:PySem.W.Frag} {mg:Str->Option Value} {base:Heap}
theorem xo:aB ["self","house","home","here","there","k"] ["self","house","home"] (aq GU):=⟨rfl,rfl,rfl,by decide +kernel,rfl,by decide +kernel,by decide +kernel⟩
def A9(K:PySem.W.Frag)(C CB CE:Addr):Sp:=fun vs H Q E=>∃ (L:Addr->Prop) (b:Addr) (ns:List Nat) (x y:V) (o o':Option Int),vs=[.ref b,x,y]/\eI C CB H L b ns/\Na K H x o/\Na K H y o'/\(a9 o 0 ((pr ns:Int)-1)=false\/a9 o' 0 ((pr ns:Int)-1)=false->∀H',aE H H'->E (.ref CE) none H')/\∀h g:Nat,h<pr ns->g<pr ns->o=some (h:Int)->o'=some (g:Int)->∀H',aE H H'->Q (oV (y0 ns h g)) H'
theorem G0{f C CB CE:Addr}{fd:FuncData}(F:eh K "phase" "Box.phase" GU f fd)(B:Bl mg)(TB:E_ K mg CB)(M:mB P w K mg base (iU P w) 5 CB "place" ["self","house"] (xn K C CB CE)):bi P w K mg base (iU P w) 6 f fd ["self","house","home"] (A9 K C CB CE):=by
 obtain⟨fM,V0,mM,bM,GM⟩:=M.ex;refine F.Iz xo (fun vs H Q E h=>?_) (fun cM A outer s H vs Q E hr h=>?_)
 .obtain⟨L,b,ns,x,y,o,o',rfl,_⟩:=h;rfl
 .obtain⟨L,b,ns,x,y,o,o',rfl,BA,wx,wy,k1,k2⟩:=h;obtain⟨dx,pn,sr,hb,N,v3⟩:=BA.ob;have l5:=BA.bx.l5;refine⟨_,ah (aN (i:=3) xo.nd rfl (Or.inl rfl) (fv (pv 0) TB.cl mM GM hr bM .nil (sI (E':=E) fun _ _ _ z=>z) (aa (pv 1) ag)))
   (ah (aN (i:=4) xo.nd rfl (Or.inl rfl) (fv (pv 0) TB.cl mM GM hr bM .nil (sI (E':=E) fun _ _ _ z=>z) (aa (pv 2) ag)))
   (ah (cr FX rfl (cq rfl B.range (aa (aK aM (by rfl) B.len dE (aa (pv 3) ag)) ag)) (az (i:=5) xo.nd rfl (Or.inl rfl))
    (ap (bJ (aO sv (bq cS (pv 3) (pv 5) (fun _ _=>rfl)) (bq cS (pv 4) (pv 5) (fun _ _=>rfl)) (aT _)) (ap (aJ (pv 5))) aQ)))
   (ap (aJ cP)))),?_⟩
  refine⟨_,rfl,b,dx,_,rfl,hb,kA,_,rfl,L,b,ns,x,o,rfl,BA,wx _ (aE.refl _),(fun z=>k1 (.inl z) _ (aE.refl _)),fun h hh e t1 H1 s1 A_=>?_⟩;subst e;refine⟨_,rfl,b,dx,_,rfl,s1 _ _ hb,kA,_,rfl,L,b,ns,y,o',rfl,BA.same s1,wy _ s1,(fun z=>k1 (.inr z) _ s1),fun g hg e t2 H2 s2 E5=>?_⟩;subst e;have KY:=s2 _ _ A_;have IM:=s1.trans s2;have dl:(NV (bY ns h)).length=ns.length:=by rw[bb,cB]
  refine⟨_,rfl,t1,_,rfl,.inr (be.of KY),_,rfl,by lia,by rw[dl];lia,?_⟩;rw[dl];refine dz (n:=ns.length) (lo:=0) (fun k σ H3=>H3=H2/\(∃z,σ=[some (.ref b),some x,some y,some (.ref t1),some (.ref t2),z])/\∀j,j<k->(bY ns h).getD j 0=(bY ns g).getD j 0) ⟨rfl,⟨_,rfl⟩,fun j hj=>absurd hj (gT _)⟩ ?_ ?_
  .rintro k σ _ hk ⟨rfl,⟨z,rfl⟩,hj⟩;rw[fS];refine⟨_,rfl,_,rfl,t1,_,_,_,rfl,rfl,be.of KY,aY (ku hk),_,rfl,_,rfl,t2,_,_,_,rfl,rfl,be.of E5,aY (ku hk),rfl,_,rfl,?_⟩;by_cases c:(bY ns h).getD k 0=(bY ns g).getD k 0
   .rw[c,bK rfl];exact fX ⟨rfl,⟨_,rfl⟩,fun j Pp=>by
     rcases nC.mp Pp with z|z
     .exact hj j z
     .rw[z];exact c⟩
   .rw[dD (fun z=>c (by injection z with z;exact ii z))];refine mw ⟨_,rfl,?_⟩;have:=k2 h g hh hg rfl rfl _ IM;rw[Fa hk hj c] at this;exact this
  .rintro σ _ ⟨rfl,⟨z,rfl⟩,hj⟩;have:=k2 h g hh hg rfl rfl _ IM;rw[Fb hj] at this;exact this
end
end ph
namespace L2
open PySem PySem.Spec PyProof.Rows
theorem Ba{X:Cx}:Jq X (fun o i H Q=>∃p xs v,∃k:Nat,o=.ref p/\i=.int (k:Int)/\H p=some (.lst xs)/\xs[k]?=some v/\Q v H):=by
 intro ae s σ H o i ov iv Q I ro ri h;obtain⟨p,xs,v,k,rfl,rfl,hp,hv,q⟩:=h;cases ro;obtain⟨t,rfl⟩:=ri;obtain⟨its,r,pl,hz⟩:=I.list (a_.of hp);have hk:=(di.mp hv).1;obtain⟨w,ew,FE⟩:=r.get hv;have hl:=r.length;have hn:=lm;exact PySem.wpAny_getItem_list pl.isList (by lia) (by lia) (by simpa using ew) ⟨v,H,I,FE,q⟩
end L2
namespace ph
open PySem L2 f9
theorem G4{ns:List Nat}{a b k:Nat}(hp:∀x∈ns,0<x)(ha:a<pr ns)(h:y0 ns a b=some k):xk ns a b=some (rP ns ((bY ns a).set k (if (bY ns a).getD k 0<(bY ns b).getD k 0 then (bY ns a).getD k 0+1 else (bY ns a).getD k 0-1))):=by
 obtain⟨hk,ne⟩:=m9 h;unfold xk;rw[h,jS];refine congrArg some ?_;have e:=rQ (ns:=ns) (ds:=bY ns a) (k:=k) (v:=if (bY ns a).getD k 0<(bY ns b).getD k 0 then (bY ns a).getD k 0+1 else (bY ns a).getD k 0-1) cB.symm (by rw[cB];exact hk);rw[kr ha] at e;by_cases c:(bY ns a).getD k 0<(bY ns b).getD k 0
 .rw[ak c] at e |-;rw[ak c];rw[eT,fD] at e;lia
 .rw[ai c] at e |-;rw[ai c];have h1:(bY ns a).getD k 0=((bY ns a).getD k 0-1)+1:=by lia
  rw[h1,eT,fD,uH] at e;lia
section
variable {P:Program} {w:World} {K:PySem.W.Frag} {mg:Str->Option Value} {base:Heap}
theorem Bb:aB ["self","house","home","k","numbers"] ["self","house","home"] (aq GV):=⟨rfl,rfl,rfl,by decide +kernel,rfl,by decide +kernel,by decide +kernel⟩
def Bc(K:PySem.W.Frag)(C CB CE:Addr):Sp:=fun vs H Q E=>∃ (L:Addr->Prop) (b:Addr) (ns:List Nat) (x y:V) (o o':Option Int),vs=[.ref b,x,y]/\eI C CB H L b ns/\Na K H x o/\Na K H y o'/\(a9 o 0 ((pr ns:Int)-1)=false\/a9 o' 0 ((pr ns:Int)-1)=false->∀H',aE H H'->E (.ref CE) none H')/\∀h g:Nat,h<pr ns->g<pr ns->o=some (h:Int)->o'=some (g:Int)->∀H',aE H H'->Q (oV (xk ns h g)) H'
theorem G5{f C CB CE:Addr}{fd:FuncData}(F:eh K "wish" "Box.wish" GV f fd)(B:Bl mg)(TB:E_ K mg CB)(MF:mB P w K mg base (iU P w) 6 CB "phase" ["self","house","home"] (A9 K C CB CE))(MP:mB P w K mg base (iU P w) 5 CB "place" ["self","house"] (xn K C CB CE))(MH:mB P w K mg base bg 4 CB "house" ["self","place"] (A8 C CB)):bi P w K mg base (iU P w) 7 f fd ["self","house","home"] (Bc K C CB CE):=by
 obtain⟨fF,Xg,mF,bF,GF⟩:=MF.ex;obtain⟨fP,Xh,mP,bP,GP⟩:=MP.ex;obtain⟨fH,Xi,mH,bH,GH⟩:=MH.ex;refine F.Iz Bb (fun vs H Q E h=>?_) (fun cM A outer s H vs Q E hr h=>?_)
 .obtain⟨L,b,ns,x,y,o,o',rfl,_⟩:=h;rfl
 .obtain⟨L,b,ns,x,y,o,o',rfl,BA,wx,wy,k1,k2⟩:=h;obtain⟨dx,pn,sr,hb,N,v3⟩:=BA.ob;have h5:bO 5 _:=hr.mono (by decide);have h4:bO 4 _:=hr.mono (by decide);refine⟨_,ah (aN (i:=3) Bb.nd rfl (Or.inl rfl) (fv (pv 0) TB.cl mF GF hr bF .nil (sI (E':=E) fun _ _ _ z=>z) (aa (pv 1) (aa (pv 2) ag))))
   (ah (bJ (aO zA (pv 3) cP (aT _)) (ap (aJ cP)) aQ)
   (ah (aN (i:=4) Bb.nd rfl (Or.inl rfl) (bu j6 (by rfl) B.lst qh (aa (fv (pv 0) TB.cl mP GP h5 bP .nil wu (aa (pv 1) ag)) ag)))
   (ah (Ce (pv 4) (pv 3) Ba (n6 (aO og (bq bt (pv 4) (pv 3) (fun _ _=>rfl)) (bq cS (fv (pv 0) TB.cl mP GP h5 bP .nil wu (aa (pv 2) ag)) (pv 3) (fun _ _=>rfl)) (aT _)) av (pH lj av)) u6 fU)
   (ap (aJ (fv (pv 0) TB.cl mH GH h4 bH .nil aL (aa (bu br (by rfl) B.tup fL (aa (pv 4) ag)) ag))))))),?_⟩
  refine⟨_,rfl,b,dx,_,rfl,hb,A7,_,rfl,_,rfl,L,b,ns,x,y,o,o',rfl,BA,wx,wy,k1,fun h g hh hg e1 e2 H1 s1=>?_⟩;subst e1;subst e2;have BX:=BA.bx;refine dP (fun σ Hx=>H1=Hx/\σ=[some (.ref b),some x,some y,some (oV (y0 ns h g)),none]) ?_ (fun N hN=>hN _ _ ⟨rfl,rfl⟩);rintro σ _ ⟨rfl,rfl⟩;refine dP (fun σ Hx=>H1=Hx/\∃k,y0 ns h g=some k/\σ=[some (.ref b),some x,some y,some (.int (k:Int)),none]) ?_ ?_
  rotate_left
  .intro N hN;cases hp:y0 ns h g with
   |none=>
    refine⟨_,rfl,rfl,_,rfl,mw ?_⟩;have:=k2 h g hh hg rfl rfl H1 s1;unfold xk at this;rw[hp] at this;exact this
   |some k=>exact⟨_,rfl,rfl,_,rfl,e_ rfl (hN _ _ ⟨rfl,k,hp,rfl⟩)⟩
  rintro σ _ ⟨rfl,k,hp,rfl⟩;obtain⟨hk,ne⟩:=m9 hp;refine dP (fun σ H3=>∃D,σ=[some (.ref b),some x,some y,some (.int (k:Int)),some (.ref D)]/\aE H H3/\H D=none/\H3 D=some (.lst (NV (bY ns h)))) ?_ ?_
  rotate_left
  .intro N hN;refine⟨_,rfl,b,dx,_,rfl,s1 _ _ hb,kA,_,rfl,L,b,ns,x,_,rfl,BA.same s1,wx _ s1,(fun z=>by rw[eK hh] at z;cases z),fun h' _ e t1 H2 s2 A_=>?_⟩;obtain rfl:h=h':=ii (bA e);exact⟨t1,_,rfl,.inr (be.of A_),fun D hD=>hN _ _ ⟨D,rfl,(s1.trans s2).trans (aj hD),(s1.trans s2).free hD,af⟩⟩
  rintro σ H3 ⟨D,rfl,s3,nD,hD⟩;refine dP (fun σ H5=>σ=[some (.ref b),some x,some y,some (.int (k:Int)),some (.ref D)]/\aE H H5/\H5 D=some (.lst (NV ((bY ns h).set k (if (bY ns h).getD k 0<(bY ns g).getD k 0 then (bY ns h).getD k 0+1 else (bY ns h).getD k 0-1))))) ?_ ?_
  rotate_left
  .intro N hN;refine⟨_,rfl,_,rfl,D,_,_,k,rfl,rfl,hD,ku hk,_,rfl,_,rfl,D,_,_,_,rfl,rfl,a_.of hD,aY (ku hk),?_⟩;refine⟨_,rfl,b,dx,_,rfl,s3 _ _ hb,kA,_,rfl,L,b,ns,y,_,rfl,BA.same s3,wy _ s3,(fun z=>by rw[eK hg] at z;cases z),fun g' _ e t2 H4 s4 E5=>?_⟩;obtain rfl:g=g':=ii (bA e);have ix:yX (NV (bY ns h)).length (k:Int)=some k:=iV (by rw[bb,cB];exact hk);have st:∀v:Nat,(NV (bY ns h)).set k (.int (v:Int))=NV ((bY ns h).set k v):=fun v=>(List.map_set).symm;refine⟨_,rfl,t2,_,_,_,rfl,rfl,be.of E5,aY (ku hk),_,_,rfl,rfl,_,rfl,iC (fun c=>?_) (fun c=>?_)⟩
   .have c:=fm c;refine⟨_,_,rfl,rfl,D,_,_,k,rfl,rfl,s4 _ _ hD,ix,hN _ _ ⟨rfl,aW (s3.trans s4) nD,?_⟩⟩;rw[ak (by lia),af];exact congrArg (fun l=>some (HO.lst l)) (st ((bY ns h).getD k 0+1))
   .have c:¬ (((bY ns h).getD k 0:Nat):Int)<(((bY ns g).getD k 0:Nat):Int):=fun z=>c (bK z);refine⟨_,rfl,_,_,rfl,rfl,D,_,_,k,rfl,rfl,s4 _ _ hD,ix,hN _ _ ⟨rfl,aW (s3.trans s4) nD,?_⟩⟩;rw[ai (by lia),af];refine congrArg (fun l=>some (HO.lst l)) ?_;rw[<-st];exact congrArg (fun z=>(NV (bY ns h)).set k (V.int z)) (show (((bY ns h).getD k 0:Nat):Int)+-1=(((bY ns h).getD k 0-1:Nat):Int) by lia)
  rintro σ H5 ⟨rfl,s5,ul⟩;refine⟨_,rfl,b,dx,_,rfl,s5 _ _ hb,A6,_,rfl,D,_,rfl,.inl ⟨a_.of ul,fun t ht=>?_⟩⟩;have lh:=jK (h:=h) BX.pos hk;have lg:=jK (h:=g) BX.pos hk;refine⟨L,b,t,ns,_,rfl,(BA.same s5).same (aj ht),af,by rw[jl,cB],fun i hi=>?_,fun H' s'=>?_⟩
  .rw[bE,List.getElem?_set];by_cases c:k=i
   .subst c;rw[ak rfl,ak (by rw[cB];exact hk),jk];split <;> lia
   .rw[ai c,<-bE];exact jK BX.pos hi
  .have:=k2 h g hh hg rfl rfl H' ((s5.trans (aj ht)).trans s');rw[G4 BX.pos hh hp] at this;exact this
end
end ph
namespace f9
theorem v4:∀ {ns:List Nat} {h k:Nat},k<ns.length->(bY ns h).getD k 0=h / pr (ns.take k) % ns.getD k 0
 |[],_,_,hk=>absurd hk (gT _)
 |n::ns,h,0,_=>by show h % n=h / 1 % n;rw[nX]
 |n::ns,h,k+1,hk=>by
  have:=v4 (ns:=ns) (h:=h / n) (k:=k) (qi hk);show (bY ns (h / n)).getD k 0=h / (n*pr (ns.take k)) % ns.getD k 0;rw[this,pC]
theorem Fc{ns:List Nat}{h k:Nat}(hk:k<ns.length)(h1:1<=(bY ns h).getD k 0):pr (ns.take k)<=h:=by
 rw[v4 hk] at h1;rcases Nat.lt_or_ge h (pr (ns.take k)) with c|c
 .rw[uT c,Nat.zero_mod] at h1;exact absurd h1 (by decide)
 .exact c
theorem lO:∀ {ns:List Nat},(∀x∈ns,0<x)->0<pr ns
 |[],_=>Nat.one_pos
 |n::ns,h=>js (h n b_) (lO fun x hx=>h x (bV _ hx))
theorem Bd:∀ {ns ds:List Nat},ds.length=ns.length->(∀i,i<ns.length->ds.getD i 0<ns.getD i 0)->rP ns ds<pr ns
 |[],_,_,_=>Nat.one_pos
 |n::ns,[],e,_=>absurd e (by simp)
 |n::ns,d::ds,e,h=>by
  have ih:=Bd (ns:=ns) (ds:=ds) (ik e) fun i hi=>h (i+1) (Nat.succ_lt_succ hi);have h0:d<n:=h 0 (qM _);show d+n*rP ns ds<n*pr ns;have:n*(rP ns ds+1)<=n*pr ns:=nB n ih;rw[eT,fD] at this;lia
theorem G6{ns:List Nat}{a b:Nat}(ha:a<pr ns)(hb:b<pr ns)(h:y0 ns a b=none):a=b:=by
 have e:bY ns a=bY ns b:=by
  refine nR (by rw[cB,cB]) fun i h1 h2=>?_;have hi:i<ns.length:=by rw[cB] at h1;exact h1
  have:=uI.mp h i (cD.mpr hi);have e2:(bY ns a).getD i 0=(bY ns b).getD i 0:=by simpa using this
  rw[bE,bE,bC h1,bC h2] at e2;exact e2
 rw[<-kr ha,<-kr hb,e]
def wN(ns:List Nat)(a b:Nat):Nat:=(xk ns a b).getD 0
theorem xp{ns:List Nat}{a b:Nat}(hp:∀x∈ns,0<x)(ha:a<pr ns)(hb:b<pr ns)(ne:a≠b):xk ns a b=some (wN ns a b)/\wN ns a b≠a:=by
 cases h:y0 ns a b with
 |none=>exact absurd (G6 ha hb h) ne
 |some k=>
  obtain⟨hk,jB⟩:=m9 h;have pp:0<pr (ns.take k):=lO fun x hx=>hp x (ny hx);unfold wN xk;rw[h,jS,jk];refine⟨rfl,?_⟩;by_cases c:(bY ns a).getD k 0<(bY ns b).getD k 0
  .rw[ak c];lia
  .rw[ai c];have:=Fc (h:=a) hk (by lia);lia
def um(ns homes:List Nat)(st:List (Option Nat))(i:Nat):Bool:=(List.range i).any fun j=>decide (st.getD j none=st.getD i none)&&decide (wN ns ((st.getD i none).getD 0) (homes.getD j 0)=wN ns ((st.getD i none).getD 0) (homes.getD i 0))
def rS(ns homes:List Nat)(st:List (Option Nat))(i:Nat):Option Nat:=if (st.getD i none).isSome then (if um ns homes st i then st.getD i none else some (wN ns ((st.getD i none).getD 0) (homes.getD i 0))) else none
def B3(ns homes:List Nat)(st:List (Option Nat)):List (Option Nat):=(List.range st.length).map (rS ns homes st)
theorem rT{ns homes:List Nat}{st:List (Option Nat)}:(B3 ns homes st).length=st.length:=by unfold B3;rw[aI,fN]
theorem G7{ns homes:List Nat}{st:List (Option Nat)}{i:Nat}(h:i<st.length):(B3 ns homes st).getD i none=rS ns homes st i:=by
 unfold B3;rw[bE,bh,qt h];rfl
def uo(homes:List Nat)(fs:List (Option Nat)):List (Option Nat):=(List.range fs.length).map fun i=>if fs.getD i none=some (homes.getD i 0) then none else fs.getD i none
theorem kB{homes:List Nat}{fs:List (Option Nat)}:(uo homes fs).length=fs.length:=by unfold uo;rw[aI,fN]
theorem G8{homes:List Nat}{fs:List (Option Nat)}{i:Nat}(h:i<fs.length):(uo homes fs).getD i none=if fs.getD i none=some (homes.getD i 0) then none else fs.getD i none:=by
 unfold uo;rw[bE,bh,qt h];rfl
structure Sg(ns homes:List Nat)(st:List (Option Nat)):Prop where
 len:homes.length=st.length
 v5:st.length<=16
 hm:∀i,i<homes.length->homes.getD i 0<pr ns
 at_:∀i h,i<st.length->st.getD i none=some h->h<pr ns/\h≠homes.getD i 0
def IT(ns homes:List Nat)(st:List (Option Nat)):List (Option Nat):=uo homes (B3 ns homes st)
theorem m_{ns homes:List Nat}{st:List (Option Nat)}:(IT ns homes st).length=st.length:=by unfold IT;rw[kB,rT]
theorem KZ{ns:List Nat}{a b:Nat}(hp:∀x∈ns,0<x)(ha:a<pr ns)(hb:b<pr ns):wN ns a b<pr ns:=by
 cases h:y0 ns a b with
 |none=>
  unfold wN xk;rw[h];exact lO hp
 |some k=>
  obtain⟨hk,jB⟩:=m9 h;have la:=jK (h:=a) hp hk;have lb:=jK (h:=b) hp hk;have lk:k<(bY ns a).length:=by rw[cB];exact hk
  have e:=rQ (ns:=ns) (ds:=bY ns a) (k:=k) (v:=if (bY ns a).getD k 0<(bY ns b).getD k 0 then (bY ns a).getD k 0+1 else (bY ns a).getD k 0-1) cB.symm lk;rw[kr ha] at e;have lt:=Bd (ns:=ns) (ds:=(bY ns a).set k (if (bY ns a).getD k 0<(bY ns b).getD k 0 then (bY ns a).getD k 0+1 else (bY ns a).getD k 0-1)) (by rw[jl,cB]) fun i hi=>by
   rw[bE,List.getElem?_set];by_cases c:k=i
   .subst c;rw[ak rfl,ak lk,jk];split <;> lia
   .rw[ai c,<-bE];exact jK hp hi
  unfold wN xk;rw[h,jS,jk];by_cases c:(bY ns a).getD k 0<(bY ns b).getD k 0
  .rw[ak c] at e lt |-;rw[eT,fD] at e;lia
  .rw[ai c] at e lt |-;have h1:(bY ns a).getD k 0=((bY ns a).getD k 0-1)+1:=by lia
   rw[h1,eT,fD,uH] at e;lia
theorem Sg.next{ns homes:List Nat}{st:List (Option Nat)}(S:Sg ns homes st)(hp:∀x∈ns,0<x):Sg ns homes (IT ns homes st):=by
 refine⟨by rw[m_];exact S.len,by rw[m_];exact S.v5,S.hm,fun i h hi e=>?_⟩;rw[m_] at hi;unfold IT at e;rw[G8 (by rw[rT];exact hi),G7 hi] at e;by_cases c:rS ns homes st i=some (homes.getD i 0)
 .rw[ak c] at e;cases e
 .rw[ai c] at e;refine⟨?_,fun z=>c (by rw[e,z])⟩;unfold rS at e;cases es:st.getD i none with
  |none=>rw[es] at e;cases e
  |some y=>
   have hy:=(S.at_ i y hi es).1;rw[es] at e;rw[ak (show (some y).isSome=true from rfl)] at e;by_cases t:um ns homes st i=true
   .rw[ak t] at e;rw[<-bA e];exact hy
   .rw[ai t] at e;rw[<-bA e];exact KZ hp hy (S.hm i (by rw[S.len];exact hi))
def stN(ns homes:List Nat)(st:List (Option Nat)):Nat->List (Option Nat)
 |0=>st
 |k+1=>IT ns homes (stN ns homes st k)
theorem ng{ns homes:List Nat}{st:List (Option Nat)}:∀ {k:Nat},(stN ns homes st k).length=st.length
 |0=>rfl
 |k+1=>by show (IT ns homes (stN ns homes st k)).length=_;rw[m_,ng]
theorem Sg.stN{ns homes:List Nat}{st:List (Option Nat)}(S:Sg ns homes st)(hp:∀x∈ns,0<x):∀k,Sg ns homes (f9.stN ns homes st k)
 |0=>S
 |k+1=>(S.stN hp k).next hp
def rH(ns homes:List Nat)(st:List (Option Nat))(k:Nat):List (Option Nat):=B3 ns homes (stN ns homes st k)
theorem gO{ns homes:List Nat}{st:List (Option Nat)}{k:Nat}:(rH ns homes st k).length=st.length:=by unfold rH;rw[rT,ng]
def v6(st:List (Option Nat)):Bool:=st.any Option.isSome
structure Rn(ns homes:List Nat)(st:List (Option Nat))(most N:Nat):Prop where
 go:∀k,k<N->k<most/\v6 (stN ns homes st k)=true
 stop:¬ (N<most/\v6 (stN ns homes st N)=true)
theorem Rn.uniq{ns homes:List Nat}{st:List (Option Nat)}{most N M:Nat}(a:Rn ns homes st most N)(b:Rn ns homes st most M):N=M:=by
 rcases Nat.lt_trichotomy N M with h|h|h
 .exact absurd (b.go N h) a.stop
 .exact h
 .exact absurd (a.go M h) b.stop
def B4(ns homes:List Nat)(st:List (Option Nat))(i:Nat):List (Nat×Nat):=((List.range i).filter fun j=>(st.getD j none).isSome).map fun j=>((st.getD j none).getD 0,(rS ns homes st j).getD 0)
theorem nh{ns homes:List Nat}{st:List (Option Nat)}{i h:Nat}(e:st.getD i none=some h):um ns homes st i=true↔∃j,j<i/\st.getD j none=some h/\wN ns h (homes.getD j 0)=wN ns h (homes.getD i 0):=by
 unfold um;rw[qx];constructor
 .rintro⟨j,hj,hh⟩;obtain⟨a,b⟩:=Bool.and_eq_true_iff.mp hh;rw[e] at a b;exact⟨j,cD.mp hj,fm a,fm b⟩
 .rintro⟨j,hj,a,b⟩;refine⟨j,cD.mpr hj,Bool.and_eq_true_iff.mpr ⟨?_,?_⟩⟩
  .rw[e];exact bK a
  .rw[e];exact bK b
theorem kC{ns homes:List Nat}{st:List (Option Nat)}{i h:Nat}(e:st.getD i none=some h):rS ns homes st i=some (if um ns homes st i=true then h else wN ns h (homes.getD i 0)):=by
 unfold rS;rw[e,ak (show (some h).isSome=true from rfl)];by_cases c:um ns homes st i=true
 .rw[ak c,ak c]
 .rw[ai c,ai c];rfl
theorem Be{ns homes:List Nat}{st:List (Option Nat)}{h w:Nat}:∀ (j:Nat),st.getD j none=some h->wN ns h (homes.getD j 0)=w->∃k,k<=j/\st.getD k none=some h/\rS ns homes st k=some w:=by
 intro j;induction j using Nat.strongRecOn with
 |ind j ih=>
  intro e1 e2;by_cases c:um ns homes st j=true
  .obtain⟨k,hk,a,b⟩:=(nh e1).mp c;obtain⟨m,hm,x⟩:=ih k hk a (b.trans e2);exact⟨m,by lia,x⟩
  .exact⟨j,aF _,e1,by rw[kC e1,ai c,e2]⟩
theorem DL{ns homes:List Nat}{st:List (Option Nat)}{i h:Nat}(e:st.getD i none=some h)(ne:wN ns h (homes.getD i 0)≠h):(h,wN ns h (homes.getD i 0))∈B4 ns homes st i↔um ns homes st i=true:=by
 rw[nh e];unfold B4;rw[bQ];constructor
 .rintro⟨j,hj,z⟩;obtain⟨h1,h2⟩:=d8.mp hj;obtain⟨y,hy⟩:=pB.mp h2;have z1:(st.getD j none).getD 0=h:=congrArg Prod.fst z;have z2:(rS ns homes st j).getD 0=wN ns h (homes.getD i 0):=congrArg Prod.snd z;rw[hy] at z1;have z1:y=h:=z1;subst z1;refine⟨j,cD.mp h1,hy,?_⟩;rw[kC hy] at z2;by_cases c:um ns homes st j=true
  .rw[ak c] at z2;exact absurd z2.symm ne
  .rw[ai c] at z2;exact z2
 .rintro⟨j,hj,a,b⟩;obtain⟨k,hk,x,y⟩:=Be (ns:=ns) (homes:=homes) j a b;exact⟨k,d8.mpr ⟨cD.mpr (by lia),by rw[x];rfl⟩,by rw[x,y];rfl⟩
theorem t_{ns homes:List Nat}{st:List (Option Nat)}{i:Nat}:B4 ns homes st (i+1)=B4 ns homes st i++if (st.getD i none).isSome then [((st.getD i none).getD 0,(rS ns homes st i).getD 0)] else []:=by
 unfold B4;rw[h_,i7,cn,fq];by_cases c:(st.getD i none).isSome=true
 .rw[ak c,ak c];rfl
 .rw[ai c,ai c];rfl
def jM(st:List (Option Nat))(i:Nat):List Nat:=(List.range i).filter fun j=>(st.getD j none).isSome
theorem oW{st:List (Option Nat)}{i:Nat}:jM st (i+1)=jM st i++if (st.getD i none).isSome then [i] else []:=by
 unfold jM;rw[h_,i7,fq];rfl
theorem xq{st:List (Option Nat)}{i:Nat}:(jM st i).length<=i:=bn (jO _ _) (by rw[fN];exact aF _)
theorem gP{st:List (Option Nat)}{i j:Nat}:j∈jM st i↔j<i/\(st.getD j none).isSome=true:=by
 unfold jM;rw[d8,cD]
theorem ua{st:List (Option Nat)}{l m:Nat}:∀ {n:Nat},(jM st n)[m]?=some l->(jM st n).take m=jM st l/\l<n/\(st.getD l none).isSome=true
 |0,h=>by simp[jM] at h
 |n+1,h=>by
  rw[oW] at h |-;by_cases c:m<(jM st n).length
  .rw[lT c] at h;obtain⟨a,b,d⟩:=ua h;exact⟨by rw[List.take_append_of_le_length (by lia)];exact a,by lia,d⟩
  .rw[nu (by lia)] at h;by_cases d:(st.getD n none).isSome=true
   .rw[ak d] at h |-;have hm:m-(jM st n).length=0:=by
     have:=(di.mp h).1;simp at this;exact this
    rw[hm] at h;have h:n=l:=bA h;subst h;refine⟨?_,jR _,d⟩;rw[show m=(jM st n).length by lia];exact List.take_left
   .rw[ai d] at h;simp at h
theorem DM{st:List (Option Nat)}:v6 st=true↔jM st st.length≠[]:=by
 unfold v6;rw[qx];constructor
 .rintro⟨o,ho,hs⟩ z;obtain⟨i,hi,e⟩:=List.getElem_of_mem ho;have:i∈jM st st.length:=gP.mpr ⟨hi,by rw[bE,bC hi,jk,e];exact hs⟩;rw[z] at this;cases this
 .intro h;cases e:jM st st.length with
  |nil=>exact absurd e h
  |cons i r=>
   have hi:i∈jM st st.length:=by rw[e];exact b_
   obtain⟨a,b⟩:=gP.mp hi;rw[bE,bC a,jk] at b;exact⟨_,l0 a,b⟩
end f9
namespace L2
open PySem PySem.Spec PyProof.Rows
theorem xr{c it t:Addr}{h h':Heap}{k:Nat}(r:h.IsListIter it t k)(sb:Heap.SameBut c h h')(n:it≠c):h'.IsListIter it t k:=r.at fun o e=>bw sb n e
def G9(K:PySem.W.Frag)(a b:Addr):It:=
 ⟨fun i H=>∃xs ys x y,a_ K H a xs/\a_ K H b ys/\xs[i]?=some x/\ys[i]?=some y,fun i H v H'=>∃p x y,v=.ref p/\H p=none/\H'=upd H p (.tup [x,y])/\(∀xs,a_ K H a xs->xs[i]?=some x)/\∀ys,a_ K H b ys->ys[i]?=some y,fun i H=>∃xs ys,a_ K H a xs/\a_ K H b ys/\(xs.length<=i\/ys.length<=i)⟩
theorem yG{P:Program}{w:World}{K:PySem.W.Frag}{es:List Expr}{x1:Nat}{pos:Pos}(a b z ti tq i1 i2:Addr)(dj:ZipApart z ti tq i1 i2 a b):
  o6 P w K (.Tuple es x1 pos) (G9 K a b) [z,ti,tq,i1,i2] z (fun i h=>IsZip h z ti tq .none/\IsPair h ti (.ref i1) (.ref i2)/\(∃u v,IsPair h tq u v)/\h.IsListIter i1 a i/\h.IsListIter i2 b i) where
 mem:=by simp
 obj:=fun i h st c hc=>by
  obtain⟨gz,gi,⟨u,v,gq⟩,⟨o1,q1,c1,d1⟩,⟨o2,q2,c2,d2⟩⟩:=st;simp only[aS,eE,df] at hc;rcases hc with rfl|rfl|rfl|rfl|rfl
  .exact⟨_,gz,fun v z=>by have z':Data.fields _=Data.cell v:=z;cases z'⟩
  .exact⟨_,gi,fun v z=>by have z':Data.seq _ _=Data.cell v:=z;cases z'⟩
  .exact⟨_,gq,fun v z=>by have z':Data.seq _ _=Data.cell v:=z;cases z'⟩
  .exact⟨o1,q1,fun v z=>by rw[d1] at z;cases z⟩
  .exact⟨o2,q2,fun v z=>by rw[d2] at z;cases z⟩
 keep:=fun i h h' st k=>by
  obtain⟨gz,gi,⟨u,v,gq⟩,r1,r2⟩:=st;exact⟨k z (by simp) _ gz,k ti (by simp) _ gi,⟨u,v,k tq (by simp) _ gq⟩,r1.at fun o q=>k i1 (by simp) o q,r2.at fun o q=>k i2 (by simp) o q⟩
 item:=by
  intro X hP hw hK hc i ae s σ H E I hf st hg;subst hP hw hK;obtain⟨xs,ys,x,y,hx,hy,ex,ey⟩:=hg;obtain⟨us,rx,px,_⟩:=I.list hx;obtain⟨vs,ry,py,_⟩:=I.list hy;obtain⟨u,hu,ru⟩:=rx.get ex;obtain⟨v,hv,rv⟩:=ry.get ey;obtain⟨gz,gi,⟨u0,v0,gq⟩,r1,r2⟩:=st;refine wpAny_pyNext_zip_item dj gz gi gq r1 r2 px.isList py.isList (x:=u) (y:=v) (by simpa using hu) (by simpa using hv) fun h1 Ar ON OO OP OQ _ kp=>?_;refine⟨_,rfl,wpAny_letOwnedTupleGo_zip Ar fun h2 IH kK=>?_⟩;have zl:z<s.heap.objs.size:=aH gz;have nz:s.heap.objs.size≠z:=hZ zl;have Kq:∀c o,c∉[z,tq,i1,i2]->s.heap.get? c=some o->h2.get? c=some o:=fun c o hc e=>by
   simp only[aS,eE,df,not_or] at hc;exact bw kK hc.1 (kp c o hc.1 hc.2.1 hc.2.2.1 hc.2.2.2 e)
  have OR:IsPair h2 ti (.ref i1) (.ref i2):=Kq _ _ (by simp only[aS,eE,df,not_or];exact⟨dj.TIz,dj.TITO,dj.TIi1,dj.TIi2⟩) gi;have fe:∀e∈[z,tq,i1,i2],ff X ae H e:=fun e he=>hf e (by simp only[aS,eE,df] at he |-;rcases he with h|h|h|h <;> simp[h]);have I2:aD X ae σ (upd H s.heap.objs.size (.tup [x,y])) { s with heap:=h2,toks:=s.toks }:=
   I.wX (its:=[u,v]) fe Kq (aF _) (by show 2<=sizeLine;decide) (.cons ru (.cons rv .nil)) (bw kK nz OQ)
  refine⟨.ref s.heap.objs.size,_,I2,rfl,⟨_,x,y,rfl,I.bp.fresh (aF _),rfl,fun zs hz=>by rw[I.jX hz hx];exact ex,fun zs hz=>by rw[I.jX hz hy];exact ey⟩,⟨IH,OR,⟨u,v,bw kK dj.TOz ON⟩,xr OO kK dj.i1z,xr OP kK dj.i2z⟩,fun c hc=>?_⟩;have f0:=(hf c hc).1;have cl:c<s.heap.objs.size:=by
   simp only[aS,eE,df] at hc;rcases hc with rfl|rfl|rfl|rfl|rfl
   .exact zl
   .exact aH gi
   .exact aH gq
   .obtain⟨o,q,_⟩:=r1;exact aH q
   .obtain⟨o,q,_⟩:=r2;exact aH q
  rw[am (aU cl)];exact f0
 done:=by
  intro X hP hw hK hc i ae s σ H E I hf st hg;subst hP hw hK;obtain⟨xs,ys,hx,hy,hi⟩:=hg;obtain⟨us,rx,px,_⟩:=I.list hx;obtain⟨vs,ry,py,_⟩:=I.list hy;obtain⟨gz,gi,⟨u0,v0,gq⟩,r1,r2⟩:=st;have hl:=rx.length;have RU:=ry.length;refine wpAny_pyNext_zip_end (I.ok.hd hc) dj gz gi gq r1 r2 px.isList py.isList (hi.imp (fun hi=>by simp;lia) fun hi=>by simp;lia) fun h' kp=>⟨rfl,?_⟩
  have fe:∀e∈[z,tq,i1,i2],ff X ae H e:=fun e he=>hf e (by simp only[aS,eE,df] at he |-;rcases he with h|h|h|h <;> simp[h]);refine I.wW (t':=s.toks) fe fun c o hc e=>?_;simp only[aS,eE,df,not_or] at hc;exact kp c o hc.1 hc.2.1 hc.2.2.1 hc.2.2.2 e
 self:=fun _ _ _ _ _ st h=>qG st.1 h
section
variable {X:Cx}
def K0(K:PySem.W.Frag)(ta:TA):TI:=fun σ H R=>ta σ H fun vs H1=>∃a b xs ys,vs=[.ref a,.ref b]/\a_ K H1 a xs/\a_ K H1 b ys/\R (G9 K a b) H1
theorem DN{es:List Expr}{x1:Nat}{qU:Pos}{a b:Expr}{ta:TA}{p pos:Pos}(hg:Gl X "zip")(hm:X.mg "zip"=none)(ha:PA X [a,b] ta)(hs:starEach [a,b] X.env=[(false,eval a X.env),(false,eval b X.env)]:=by rfl)(l3:starEach [b] X.env=[(false,eval b X.env)]:=by rfl):
  PI X (.Tuple es x1 qU) (.Call (.Name "zip" p) [a,b] [] pos) (K0 X.K ta):=by
 intro ae s σ H R I h;refine Call_ (gl I hg hm PyProof.Rows.boot_zip (pz (bS (ha pos ae s σ H _ I h) fun us s1 ⟨vs,H1,I1,r1,q1⟩=>?_) (by rw[hs,l3]) (by rw[l3];rfl)));obtain⟨l,m,xs,ys,rfl,hl,OS,q⟩:=q1;obtain⟨u1,u2,rfl,Gb,OT⟩:=r1.two;obtain rfl:u1=Value.ref l:=Gb;obtain rfl:u2=Value.ref m:=OT;obtain⟨its,rv,pt,_⟩:=I1.list hl;obtain⟨zN,Vo,Cb,_⟩:=I1.list OS;have de:l<s1.heap.objs.size:=by obtain⟨o,e,_⟩:=pt.isList;exact aH e
 have oJ:m<s1.heap.objs.size:=by obtain⟨o,e,_⟩:=Cb.isList;exact aH e
 refine call_zip_2 pt.isList Cb.isList fun h' gz gi gq r1 r2 _ k=>?_;refine qG gz ?_;have I2:aD X ae σ H1 { s1 with heap:=h' }:=I1.kept (t':=s1.toks) k;refine⟨s1.heap.objs.size+4,[s1.heap.objs.size+4,s1.heap.objs.size+2,s1.heap.objs.size+3,s1.heap.objs.size,s1.heap.objs.size+1],_,_,H1,rfl,I2,yG l m _ _ _ _ _ (zipApart_new de oJ),⟨gz,gi,⟨_,_,gq⟩,r1,r2⟩,fun b hb=>?_,q⟩;have iZ:s1.heap.objs.size<=b:=by
  simp only[aS,eE,df] at hb;rcases hb with rfl|rfl|rfl|rfl|rfl
  .exact lZ _ _
  .exact lZ _ _
  .exact lZ _ _
  .exact aF _
  .exact lZ _ _
 exact I1.sq iZ (I1.bp.fresh iZ)
theorem yH{K:PySem.W.Frag}{a b D:Addr}{xs ys:List V}{g:TG}{tt:TT}{te:TE}{dB:Hp->Prop}{σB:St}{H0:Hp}(EU:ys.length<=xs.length)(Pv:Nat->List V->St->Hp->Prop)(h0:Pv 0 [] σB H0)(hl:∀i zs σ H,i<=ys.length->Pv i zs σ H->a_ K H a xs/\a_ K H b ys)(hs:∀i x y p zs σ H (Kt:V->St->Hp->Prop) (Kf:St->Hp->Prop),xs[i]?=some x->ys[i]?=some y->Pv i zs σ H->H p=none->
   (∀v σ2 H4,H4 D=some (.lst zs)->zs.length<sizeLine->Pv (i+1) (zs++[v]) σ2 (upd H4 D (.lst (zs++[v])))->Kt v σ2 H4)->(∀σ2 H3,Pv (i+1) zs σ2 H3->Kf σ2 H3)->
   g (.ref p) σ (upd H p (.tup [x,y])) fun σ2 H2=>tt σ2 H2 fun b H3=>if b=true then te σ2 H3 fun v H4=>Kt v σ2 H4 else Kf σ2 H3)(hd:∀zs σ H,Pv ys.length zs σ H->dB H):fY (G9 K a b) g tt te D dB σB H0:=by
 refine⟨fun i m σ H=>m=ys.length-i/\i<=ys.length/\∃zs,Pv i zs σ H,⟨ys.length,by simp,cE _,[],h0⟩,?_⟩;rintro i m σ H ⟨rfl,hi,zs,p⟩;obtain⟨q1,q2⟩:=hl i zs σ H hi p;by_cases oJ:i<ys.length
 .have de:i<xs.length:=by lia
  refine .inr ⟨⟨xs,ys,xs[i],ys[i],q1,q2,by simp[de],by simp[oJ]⟩,?_⟩;rintro v H' ⟨pp,x,y,rfl,hn,rfl,C7,Ks⟩;exact hs i x y pp zs σ _ (fun v σ2 H4=>∃zs,H4 D=some (.lst zs)/\zs.length<sizeLine/\∃m',m'<ys.length-i/\m'=ys.length-(i+1)/\i+1<=ys.length/\∃se,Pv (i+1) se σ2 (upd H4 D (.lst (zs++[v]))))
   (fun σ2 H3=>∃m',m'<ys.length-i/\m'=ys.length-(i+1)/\i+1<=ys.length/\∃se,Pv (i+1) se σ2 H3) (C7 xs q1) (Ks ys q2) p hn
   (fun v σ2 H4 z1 z2 z3=>⟨zs,z1,z2,_,by lia,rfl,oJ,_,z3⟩) (fun σ2 H3 z=>⟨_,by lia,rfl,oJ,_,z⟩)
 .have e:i=ys.length:=by lia
  subst e;exact .inl ⟨⟨xs,ys,q1,q2,.inr (aF _)⟩,hd zs σ H p⟩
end
end L2
namespace ph
open PySem L2 f9
abbrev G_:Stmt:=fz 50
abbrev Pq:Stmt:=fz 51
abbrev Pr:Stmt:=fz 53
abbrev Ps:Stmt:=fz 54
abbrev Pu:Stmt:=fz 55
structure K1(mg:Str->Option Value):Prop where
 zip:mg "zip"=none
 enum:mg "enumerate"=none
def cu(H:Hp)(p:Addr):Prop:=∃a b:Int,H p=some (.lst [.int a,.int b])/\0<=a/\0<=b/\b<4294967296
theorem cu.same{H H':Hp}{p:Addr}(h:cu H p)(s:aE H H'):cu H' p:=let ⟨a,b,e,r⟩:=h;⟨a,b,s _ _ e,r⟩
theorem cu.full{H:Hp}{p:Addr}(h:cu H p):H p≠none:=by obtain⟨a,b,e,_⟩:=h;rw[e];intro z;cases z
theorem cu.ne{H:Hp}{p q:Addr}(h:cu H p)(e:H q=none):q≠p:=by rintro rfl;exact h.full e
theorem cu.put{H:Hp}{p q:Addr}{o:HO}(h:cu H p)(n:p≠q):cu (upd H q o) p:=let ⟨a,b,e,r⟩:=h;⟨a,b,by rw[am n];exact e,r⟩
theorem cu.neT{H:Hp}{p q:Addr}{xs:List V}(h:cu H p)(e:H q=some (.tup xs)):q≠p:=by rintro rfl;obtain⟨a,b,z,_⟩:=h;rw[e] at z;cases z
theorem DO{ns:List Nat}{k:Nat}(B:Bx ns):pr (ns.take k)<=32:=bn (gK fun x hx=>B.pos x hx) B.E9
section
variable {P:Program} {w:World} {K:PySem.W.Frag} {mg:Str->Option Value} {base:Heap}
theorem xt:aB ["_law_script","_law_place","_law_cell","_law_seed"] ["_law_script","_law_place"] (aq G_):=⟨rfl,rfl,rfl,by decide +kernel,rfl,by decide +kernel,by decide +kernel⟩
def Bg(K:PySem.W.Frag):Sp:=fun vs H Q _=>∃ (a:Addr) (ns:List Int) (k:Nat),vs=[.ref a,.int k]/\a_ K H a (ns.map V.int)/\k<64/\∀ (r:Addr) (H':Hp),aE H H'->H r=none->cu H' r->Q (.ref r) H'
theorem He{f:Addr}{fd:FuncData}(F:eh K "_law_pot" "_law_pot" G_ f fd)(B:Bl mg):bi P w K mg base bg 1 f fd ["_law_script","_law_place"] (Bg K):=by
 refine F.ok xt (fun vs H Q E h=>?_) (fun cM A outer s H vs Q E hr h=>?_)
 .obtain⟨a,ns,k,rfl,_⟩:=h;rfl
 .obtain⟨a,ns,k,rfl,hS,hk,q⟩:=h;refine⟨_,(ah (aN (i:=2) xt.nd rfl (Or.inl rfl) av)
   (ah (bJ (aO og (pv 1) (aK aM (by rfl) B.len dE (aa (pv 0) ag)) (aT _)) (ap (aN (i:=2) xt.nd rfl (Or.inl rfl) (bq bt (pv 0) (pv 1) (fun _ _=>rfl)))) aQ)
   (ah (aN (i:=3) xt.nd rfl (Or.inl rfl) (aX dU (aX et (aX et (aX eA (aX dU (pv 2) av) av) (aX eA av (pv 1))) av) av))
   (ap (aJ (cR (aa (aX eA (pv 2) (bu lq (by rfl) B.int ql (aa (gs Jx (pv 2) (aX FJ av av) (aT _)) ag))) (aa (aX dU (aX eA (aX dU (aX eA (pv 3) (pv 3)) av) (pv 3)) av) ag)))))))),?_⟩
  refine dP (fun σ Hc=>H=Hc/\σ=[some (.ref a),some (.int k),some (.int 0),none]) ?_ (fun N hN=>hN _ _ ⟨rfl,rfl⟩);rintro σ _ ⟨rfl,rfl⟩;refine dP (fun σ Hc=>H=Hc/\∃c:Int,σ=[some (.ref a),some (.int k),some (.int c),none]) ?_ ?_
  rotate_left
  .intro N hN;refine⟨_,rfl,_,rfl,a,_,rfl,.inl hS,_,_,rfl,rfl,_,rfl,iC (fun e=>?_) (fun e=>hN _ _ ⟨rfl,0,rfl⟩)⟩;have e:k<ns.length:=by have:=fm e;rw[aI] at this;lia
   exact⟨_,rfl,_,rfl,a,_,_,_,rfl,rfl,hS,aY (by rw[bh,bC e];rfl),hN _ _ ⟨rfl,_,rfl⟩⟩
  rintro σ _ ⟨rfl,c,rfl⟩;have m0:0<=c % 2147483629:=jn _ (by decide);have m1:c % 2147483629<2147483629:=jh _ (by decide);refine⟨_,rfl,_,_,rfl,rfl,(by show (0:Int)<2147483629;decide),_,_,rfl,rfl,.inr ⟨by decide,by decide⟩,_,rfl,_,_,rfl,rfl,.inl ⟨by decide,by decide⟩,_,_,rfl,rfl,_,_,rfl,rfl,_,_,rfl,rfl,(by show (0:Int)<2147483629;decide),?_⟩;have z0:0<=(c % 2147483629*48271+104729*(k:Int)+7) % 2147483629:=jn _ (by decide);have z1:(c % 2147483629*48271+104729*(k:Int)+7) % 2147483629<2147483629:=jh _ (by decide);change bR 3 (V.int ((c % 2147483629*48271+104729*(k:Int)+7) % 2147483629)) _ H _;generalize (c % 2147483629*48271+104729*(k:Int)+7) % 2147483629=z at *;refine⟨_,rfl,_,rfl,_,_,rfl,rfl,⟨by decide,by decide,by decide⟩,_,_,rfl,rfl,.inr ⟨_,rfl,?_⟩⟩;refine⟨_,_,rfl,rfl,.inr (by split <;> decide),_,rfl,_,rfl,_,_,rfl,rfl,.inl ⟨by lia,by lia⟩,_,_,rfl,rfl,(by show (0:Int)<2147483587;decide),_,rfl,_,_,rfl,rfl,.inr ⟨by lia,by lia⟩,_,_,rfl,rfl,(by show (0:Int)<2147483587;decide),by show 2<=sizeLine;decide,fun r wz=>?_⟩;have v0:0<=z*z % 2147483587*z % 2147483587:=jn _ (by decide);have v1:z*z % 2147483587*z % 2147483587<2147483587:=jh _ (by decide);refine q r _ (aj wz) wz ⟨_,_,af,?_,v0,by show z*z % 2147483587*z % 2147483587<_;lia⟩;have V3:(10:Int) ^ Int.toNat 18=1000000000000000000:=by decide
  show 0<=c*(if decide ((10:Int) ^ Int.toNat 18<=c)=true then 1 else 0);rw[V3];by_cases d:(1000000000000000000:Int)<=c
  .rw[ak (bK d)];lia
  .rw[ai (by rw[dD d];decide)];lia
theorem K2:aB ["_law_pot_here","_law_many_here","_law_found"] ["_law_pot_here","_law_many_here"] (aq Pq):=⟨rfl,rfl,rfl,by decide +kernel,rfl,by decide +kernel,by decide +kernel⟩
def Bh:Sp:=fun vs H Q _=>∃ (p:Addr) (m:Nat),vs=[.ref p,.int m]/\0<m/\m<1000000/\cu H p/\∀ (d:Nat) (H':Hp),d<m->cj p H H'->cu H' p->Q (.int d) H'
theorem K3{f:Addr}{fd:FuncData}(F:eh K "_law_draw" "_law_draw" Pq f fd):bi P w K mg base bg 1 f fd ["_law_pot_here","_law_many_here"] Bh:=by
 refine F.ok K2 (fun vs H Q E h=>?_) (fun cM A outer s H vs Q E hr h=>?_)
 .obtain⟨p,m,rfl,_⟩:=h;rfl
 .obtain⟨p,m',rfl,Xj,Xk,⟨a,b,hp,a0,b0,b1⟩,q'⟩:=h;generalize hm:((m':Nat):Int)=m;have m0:0<m:=by lia
  have m1:m<1000000:=by lia
  have q:∀ (d a b:Int) (H':Hp),0<=d->d<m->0<=a->0<=b->b<4294967296->cj p H H'->H' p=some (.lst [.int a,.int b])->Q (.int d) H':=fun d a b H' h1 h2 h3 h4 h5 h6 h7=>by
   have:=q' d.toNat H' (by lia) h6 ⟨a,b,h7,h3,h4,h5⟩;rw[Int.toNat_of_nonneg h1] at this;exact this
  refine⟨_,(ah (bJ (aO pI (bq bt (pv 0) av (fun _ _=>rfl)) av (aT _)) (ah (aN (i:=2) K2.nd rfl (Or.inl rfl) (aX dU (bq bt (pv 0) av (fun _ _=>rfl)) (pv 1)))
    (ah (iB (aX iS (bq bt (pv 0) av (fun _ _=>rfl)) (pv 1)) (n9 (pv 0) av fU))
    (ap (aJ (pv 2))))) aQ)
   (ah (iB (aX dU (aX et (aX eA (bq bt (pv 0) av (fun _ _=>rfl)) av) av) av) (n9 (pv 0) av fU))
   (ap (aJ (aX dU (aX iS (aX dU (aX eA (bq bt (pv 0) av (fun _ _=>rfl)) (bq bt (pv 0) av (fun _ _=>rfl))) av) av) (pv 1)))))),?_⟩
  have g0:sD [V.int a,V.int b] 0=some (.int a):=aY (j:=0) rfl;have g1:sD [V.int a,V.int b] 1=some (.int b):=aY (j:=1) rfl;refine⟨_,rfl,p,_,_,_,rfl,rfl,a_.of hp,g0,_,_,rfl,rfl,_,rfl,?_⟩;refine iC (fun e=>?_) (fun e=>?_)
  .refine⟨_,rfl,p,_,_,_,rfl,rfl,a_.of hp,g0,_,rfl,_,_,rfl,rfl,m0,_,rfl,p,_,_,_,rfl,rfl,a_.of hp,g0,_,rfl,_,_,rfl,rfl,⟨m0,by lia⟩,?_⟩;refine⟨_,rfl,p,_,0,0,rfl,rfl,hp,iV (j:=0) (by show 0<2;decide),_,rfl,?_⟩;exact q _ _ _ _ (jn _ (by lia)) (jh _ m0) (Int.ediv_nonneg a0 (by lia)) b0 b1 cj.upd af
  .refine⟨_,rfl,p,_,_,_,rfl,rfl,a_.of hp,g1,_,_,rfl,rfl,.inl ⟨by lia,by lia⟩,_,_,rfl,rfl,_,_,rfl,rfl,(by show (0:Int)<2147483629;decide),?_⟩;refine⟨_,rfl,p,_,1,1,rfl,rfl,hp,iV (j:=1) (by show 1<2;decide),?_⟩;have c0:0<=(b*39373+611953) % 2147483629:=jn _ (by decide);have c1:(b*39373+611953) % 2147483629<2147483629:=jh _ (by decide);refine⟨_,rfl,p,_,_,_,rfl,rfl,a_.of af,aY (j:=1) rfl,_,rfl,p,_,_,_,rfl,rfl,a_.of af,aY (j:=1) rfl,_,_,rfl,rfl,.inl ⟨by lia,by lia⟩,_,_,rfl,rfl,(by show (0:Int)<2147483563;decide),_,_,rfl,rfl,⟨by decide,by decide⟩,_,rfl,_,_,rfl,rfl,m0,?_⟩;exact q _ _ _ _ (jn _ (by lia)) (jh _ m0) a0 c0 (by lia) cj.upd af
theorem yI:aB ["_law_pot_here","_law_sides_here","_law_left","_law_k","_law_most"] ["_law_pot_here"] (aq Pr):=⟨rfl,rfl,rfl,by decide +kernel,rfl,by decide +kernel,by decide +kernel⟩
def Hf:Sp:=fun vs H Q _=>∃ (p:Addr),vs=[.ref p]/\cu H p/\∀ (r:Addr) (ns:List Nat) (H':Hp),cj p H H'->cu H' p->H' r=some (.tup (NV ns))->Bx ns->Q (.ref r) H'
theorem K4{f:Addr}{fd:FuncData}(F:eh K "_law_sides" "_law_sides" Pr f fd)(B:Bl mg)(DR:bZ P w K mg base bg 1 "_law_draw" ["_law_pot_here","_law_many_here"] Bh):bi P w K mg base bg 2 f fd ["_law_pot_here"] Hf:=by
 refine F.ok yI (fun vs H Q E h=>?_) (fun cM A outer s H vs Q E hr h=>?_)
 .obtain⟨p,rfl,_⟩:=h;rfl
 .obtain⟨p,rfl,hp,q⟩:=h;refine⟨_,(ah (aN (i:=1) yI.nd rfl (Or.inl rfl) (cR ag))
   (ah (aN (i:=2) yI.nd rfl (Or.inl rfl) av)
   (ah (cr dw rfl (cq rfl B.range (aa (aX et av (aA DR hr aL (aa (pv 0) (aa av ag)))) ag)) (az (i:=3) yI.nd rfl (Or.inl rfl))
    (ah (aN (i:=4) yI.nd rfl (Or.inl rfl) (aK (pJ rfl) (by rfl) B.min PyProof.Rows.boot_min (aa av (aa (pv 2) ag))))
    (ap (bJ (aO pI (pv 4) av (aT _)) (ah (bL (eW eO eN eM bv (pv 1) (aa (aX et av (aA DR hr aL (aa (pv 0) (aa (aX lf (pv 4) av) ag)))) ag)))
     (ap (aN (i:=2) yI.nd rfl (Or.inl rfl) (aX iS (pv 2) (bq bt (pv 1) (pH lj av) (fun _ _=>rfl)))))) aQ))))
   (ap (aJ (bu br (by rfl) B.tup fL (aa (pv 1) ag))))))),?_⟩
  refine⟨by show 0<=sizeLine;decide,fun Fd hF=>?_⟩;have Px:Fd≠p:=hp.ne hF;have s0:=aj (o:=.lst []) hF;refine⟨_,rfl,p,5,rfl,by decide,by decide,hp.same s0,fun d H1 hd s1 JX=>⟨_,_,rfl,rfl,?_⟩⟩;obtain⟨W,hW,w1,w5⟩:∃W:Nat,(1+(d:Int))=(W:Int)/\1<=W/\W<=5:=⟨1+d,by lia,by lia,by lia⟩
  refine⟨(W:Int),by show [V.int (1+(d:Int))]=_;rw[hW],by lia,by lia,dz (n:=W) (lo:=0) (fun k σ H2=>∃ (rm:Nat) (fs:List Nat) (x3 x4:Option V),σ=[some (.ref p),some (.ref Fd),some (.int rm),x3,x4]/\cj p H H2/\cu H2 p/\H2 Fd=some (.lst (NV fs))/\fs.length<=k/\(∀x∈fs,2<=x/\x<=8)/\pr fs*rm<=32/\1<=rm/\rm<=32/\(k=0->rm=32)/\(1<=k->1<=fs.length)) ?_ ?_ ?_⟩
  .exact⟨32,[],_,_,rfl,(cj.of s0).trans s1,JX,s1 _ _ af Px,aF _,(fun x hx=>nomatch hx),by decide,by decide,by decide,fun _=>rfl,fun z=>absurd z (by decide)⟩
  .rintro k σ H2 hk ⟨rm,fs,x3,x4,rfl,s2,p2,B5,fl,fb,fp,r1,Py,k0,k1⟩;rw[fS];refine⟨_,rfl,8,_,rfl,?_⟩;obtain⟨tp,N8,t1,t8,tr,t2⟩:∃tp:Nat,(if (rm:Int)<8 then (rm:Int) else 8)=(tp:Int)/\1<=tp/\tp<=8/\tp<=rm/\(k=0->2<=tp):=by
    by_cases c:rm<8
    .exact⟨rm,by rw[ak (by lia)],by lia,by lia,by lia,fun z=>by have:=k0 z;lia⟩
    .exact⟨8,by rw[ai (by lia)];rfl,by lia,by lia,by lia,fun z=>by lia⟩
   change bR 4 (V.int (if (rm:Int)<8 then (rm:Int) else 8)) _ H2 _;rw[N8];refine⟨_,rfl,_,_,rfl,rfl,_,rfl,iC (fun c=>?_) (fun c=>?_)⟩
   rotate_left
   .have c:¬ (1:Int)<(tp:Int):=fun z=>c (bK z);exact⟨rm,fs,_,_,rfl,s2,p2,B5,by lia,fb,fp,r1,Py,(fun z=>absurd z (by lia)),fun _=>k1 (Nat.pos_of_ne_zero fun z=>by have:=t2 z;lia)⟩
   have c:(1:Int)<(tp:Int):=fm c;refine⟨_,rfl,.inl ⟨rfl,_,a_.of B5⟩,_,rfl,_,rfl,_,_,rfl,rfl,p,tp-1,by show [V.ref p,V.int ((tp:Int)-1)]=_;rw[show ((tp:Int)-1)=((tp-1:Nat):Int) by lia],by lia,by lia,p2,fun e H4 he s4 V4=>?_⟩;have K5:=s4 _ _ B5 Px;refine⟨_,_,rfl,rfl,Fd,_,.int ((2+e:Nat):Int),rfl,by show [V.int (2+(e:Int))]=_;rw[show (2+(e:Int))=((2+e:Nat):Int) by lia],K5,by rw[bb];exact cZ fl (bX (show k<6 by lia) (by decide)),?_⟩;have Tf:(upd H4 Fd (.lst (NV fs++[.int ((2+e:Nat):Int)]))) Fd=some (.lst (NV (fs++[2+e]))):=by rw[af,km]
   have s5:cj p H (upd H4 Fd (.lst (NV fs++[.int ((2+e:Nat):Int)]))):=fun b o eq n=>by rw[am (ao eq hF)];exact s4 _ _ (s2 _ _ eq n) n
   have V5:cu (upd H4 Fd (.lst (NV fs++[.int ((2+e:Nat):Int)]))) p:=V4.put Px.symm;generalize upd H4 Fd _=H5 at *;have fe:2+e<=tp:=by lia
   have Nb:sD (NV (fs++[2+e])) (-1)=some (.int ((2+e:Nat):Int)):=by rw[<-km];exact j4 _ _
   refine⟨_,rfl,_,rfl,_,rfl,Fd,_,_,_,rfl,rfl,a_.of Tf,Nb,_,_,rfl,rfl,⟨by lia,by lia⟩,rm / (2+e),fs++[2+e],_,_,rfl,s5,V5,Tf,by rw[fk];exact uS fl,?_,?_,?_,?_,(fun z=>absurd z (by lia)),fun _=>by rw[fk];exact Nat.le_add_left _ _⟩
   .intro x hx;rcases dk.mp hx with z|z
    .exact fb x z
    .rw[cN.mp z];lia
   .rw[gJ,jp];exact bn (nB _ (by rw[Nat.mul_comm];exact Nat.div_mul_le_self _ _)) fp
   .exact(Nat.le_div_iff_mul_le (by lia)).mpr (by lia)
   .exact bn (Nat.div_le_self _ _) Py
  .rintro σ H2 ⟨rm,fs,x3,x4,rfl,s2,p2,B5,fl,fb,fp,r1,Py,k0,k1⟩;exact⟨_,rfl,Fd,_,rfl,.inl ⟨a_.of B5,fun t ht=>q t fs _ (s2.trans (cj.of (aj ht))) (p2.same (aj ht)) af ⟨k1 w1,by lia,fb,bn (uv _ r1) fp⟩⟩⟩
theorem DP:aB ["_law_sides_here","_law_many_here","_law_side"] ["_law_sides_here"] (aq Ps):=⟨rfl,rfl,rfl,by decide +kernel,rfl,by decide +kernel,by decide +kernel⟩
def Hg:Sp:=fun vs H Q _=>∃ (a:Addr) (ns:List Nat),vs=[.ref a]/\H a=some (.tup (NV ns))/\(∀x∈ns,x<=8)/\Q (.int (pr ns:Nat)) H
theorem K6{f:Addr}{fd:FuncData}(F:eh K "_law_many" "_law_many" Ps f fd):bi P w K mg base bg 1 f fd ["_law_sides_here"] Hg:=by
 refine F.ok DP (fun vs H Q E h=>?_) (fun cM A outer s H vs Q E hr h=>?_)
 .obtain⟨a,ns,rfl,_⟩:=h;rfl
 .obtain⟨a,ns,rfl,ha,hx,q⟩:=h;refine⟨_,(ah (aN (i:=1) DP.nd rfl (Or.inl rfl) av)
   (ah (cr dw rfl (k_ (pv 0)) (az (i:=2) DP.nd rfl (Or.inl rfl))
    (ap (aN (i:=1) DP.nd rfl (Or.inl rfl) (aX eA (pv 1) (pv 2)))))
   (ap (aJ (pv 1))))),?_⟩
  refine⟨_,rfl,a,rfl,⟨_,be.of ha⟩,iR (K:=K) (xs:=NV ns) (fun i σ H2=>H=H2/\∃x,σ=[some (.ref a),some (.int ((pr (ns.take i):Nat):Int)),x]) ⟨rfl,_,rfl⟩ (fun i σ H2 _ z=>by rw[<-z.1];exact be.of ha) ?_ ?_⟩
  .rintro i x σ _ qT ⟨rfl,y,rfl⟩;obtain⟨v,hv,rfl⟩:=kn qT;have h1:=hx v (cC hv);refine⟨_,rfl,_,rfl,_,_,rfl,rfl,.inr ⟨by lia,by lia⟩,rfl,some (.int v),?_⟩;rw[show ns.take (i+1)=ns.take i++[v] by rw[d7,hv];rfl,gJ];rfl
  .rintro σ _ ⟨rfl,x,rfl⟩;rw[bb,fO];exact⟨_,rfl,q⟩
theorem Bi:aB ["_law_sides_here","_law_house","_law_home","_law_step","_law_side","_law_own","_law_wanted"] ["_law_sides_here","_law_house","_law_home"] (aq Pu):=⟨rfl,rfl,rfl,by decide +kernel,rfl,by decide +kernel,by decide +kernel⟩
def Hh:Sp:=fun vs H Q _=>∃ (a:Addr) (ns:List Nat) (h g:Nat),vs=[.ref a,.int h,.int g]/\H a=some (.tup (NV ns))/\Bx ns/\h<1000/\Q (oV (xk ns h g)) H
theorem K7{f:Addr}{fd:FuncData}(F:eh K "_law_wish" "_law_wish" Pu f fd)(B:Bl mg):bi P w K mg base bg 1 f fd ["_law_sides_here","_law_house","_law_home"] Hh:=by
 refine F.ok Bi (fun vs H Q E h=>?_) (fun cM A outer s H vs Q E hr h=>?_)
 .obtain⟨a,ns,h,g,rfl,_⟩:=h;rfl
 .obtain⟨a,ns,h,g,rfl,ha,BX,Tg,q⟩:=h;refine⟨_,(ah (aN (i:=3) Bi.nd rfl (Or.inl rfl) av)
   (ah (cr dw rfl (k_ (pv 0)) (az (i:=4) Bi.nd rfl (Or.inl rfl))
    (ah (qS (i:=5) (j:=6) rfl Bi.nd rfl rfl (by decide) rfl rfl (aa (aX dU (aX iS (pv 1) (pv 3)) (pv 4)) (aa (aX dU (aX iS (pv 2) (pv 3)) (pv 4)) ag)) (by rfl))
    (ah (bJ (aO sv (pv 5) (pv 6) (aT _)) (ap (aJ (aX et (pv 1) (aX eA (pv 3) (aX lf av (aX eA av (bu lq (by rfl) B.int ql (aa (gs pI (pv 5) (pv 6) (aT _)) ag)))))))) aQ)
    (ap (aN (i:=3) Bi.nd rfl (Or.inl rfl) (aX eA (pv 3) (pv 4)))))))
   (ap (aJ cP)))),?_⟩
  refine⟨_,rfl,a,rfl,⟨_,be.of ha⟩,iR (K:=K) (xs:=NV ns) (fun i σ H2=>H=H2/\(∀j,j<i->(bY ns h).getD j 0=(bY ns g).getD j 0)/\∃x y z,σ=[some (.ref a),some (.int h),some (.int g),some (.int ((pr (ns.take i):Nat):Int)),x,y,z]) ⟨rfl,(fun j hj=>absurd hj (gT _)),_,_,_,rfl⟩ (fun i σ H2 _ z=>by rw[<-z.1];exact be.of ha) ?_ ?_⟩
  .rintro i x σ _ qT ⟨rfl,K8,y1,y2,y3,rfl⟩;obtain⟨v,hv,rfl⟩:=kn qT;have hi:i<ns.length:=(di.mp hv).1;have vg:ns.getD i 0=v:=by rw[bE,hv];rfl
   have v2:=BX.sd v (cC hv);have E9:=DO (k:=i) BX;have pp:0<pr (ns.take i):=lO fun x hx=>BX.pos x (ny hx);have dh:∀h:Nat,(h:Int) / ((pr (ns.take i):Nat):Int) % (v:Int)=(((bY ns h).getD i 0:Nat):Int):=fun h=>by rw[v4 hi,vg];rfl
   refine⟨_,rfl,_,rfl,_,_,rfl,rfl,⟨by lia,by lia⟩,_,rfl,_,_,rfl,rfl,(by show (0:Int)<(v:Int);lia),_,rfl,_,rfl,_,_,rfl,rfl,⟨by lia,by lia⟩,_,rfl,_,_,rfl,rfl,(by show (0:Int)<(v:Int);lia),?_⟩;refine⟨_,_,rfl,?_⟩;change Fx _ _ _ [some (V.ref a),some (V.int (h:Int)),some (V.int (g:Int)),some (V.int ((pr (ns.take i):Nat):Int)),some (V.int (v:Int)),some (V.int ((h:Int) / ((pr (ns.take i):Nat):Int) % (v:Int))),some (V.int ((g:Int) / ((pr (ns.take i):Nat):Int) % (v:Int)))] H;rw[dh h,dh g];generalize hu:(bY ns h).getD i 0=u at *;generalize hw:(bY ns g).getD i 0=u' at *;refine⟨_,rfl,_,rfl,rfl,_,rfl,iC (fun c=>?_) (fun c=>?_)⟩
   .have c:u≠u':=fun z=>by rw[z,bK rfl] at c;cases c
    have hp:=Fa hi K8 (by rw[hu,hw];exact c);have e:xk ns h g=some (if u<u' then h+pr (ns.take i) else h-pr (ns.take i)):=by unfold xk;rw[hp,jS,hu,hw]
    rw[e] at q;refine⟨_,rfl,_,rfl,_,rfl,_,rfl,_,_,rfl,rfl,.inr ⟨_,rfl,_,_,rfl,rfl,.inl ⟨by decide,by decide⟩,_,_,rfl,rfl,_,_,rfl,rfl,.inl ⟨by lia,by lia⟩,_,_,rfl,rfl,?_⟩⟩;have lh:1<=u->pr (ns.take i)<=h:=fun z=>Fc hi (by rw[hu];exact z);have e2:(h:Int)+((pr (ns.take i):Nat):Int)*(1-2*(if decide ((u':Int)<(u:Int))=true then 1 else 0))=(((if u<u' then h+pr (ns.take i) else h-pr (ns.take i)):Nat):Int):=by
     by_cases d:u<u'
     .rw[ak d,dD (by lia),ai (by decide)];lia
     .have:=lh (by lia);rw[ai d,bK (by lia),ak rfl];lia
    have q:Q (.int (((if u<u' then h+pr (ns.take i) else h-pr (ns.take i)):Nat):Int)) H:=q;rw[<-e2] at q;exact q
   .have c:u=u':=by
     by_cases d:u=u'
     .exact d
     .exact absurd (by rw[dD (show ¬ V.int (u:Int)=V.int (u':Int) from fun z=>d (by have:=V.int.inj z;lia))];rfl) c
    refine⟨_,rfl,_,rfl,_,_,rfl,rfl,.inl ⟨by lia,by lia⟩,rfl,fun j hj=>?_,some (.int v),some (.int u),some (.int u'),?_⟩
    .rcases nC.mp hj with z|z
     .exact K8 j z
     .rw[z,hu,hw];exact c
    .rw[show ns.take (i+1)=ns.take i++[v] by rw[d7,hv];rfl,gJ];rfl
  .rintro σ _ ⟨rfl,K8,y1,y2,y3,rfl⟩;rw[bb] at K8;have e:xk ns h g=none:=by unfold xk;rw[Fb K8];rfl
   rw[e] at q;exact q
end
abbrev Pz:Stmt:=fz 14
abbrev PB:Stmt:=fz 15
abbrev PD:Stmt:=fz 57
abbrev PF:Stmt:=fz 56
theorem g7:(["letter","house"]:List Str).Nodup:=by decide +kernel
theorem kD:(["home","goes"]:List Str).Nodup:=by decide +kernel
theorem jd:(["_law_house","_law_home"]:List Str).Nodup:=by decide +kernel
def Fe:R2:=fun x y H Q=>y=.bD/\Q (.bl (!decide (x=.bD))) H
theorem Bj{st:List (Option Nat)}{i:Nat}{x:V}(h:(st.map oV)[i]?=some x):i<st.length/\x=oV (st.getD i none):=by
 have hi:=(di.mp h).1;rw[aI] at hi;refine⟨hi,?_⟩;rw[bh,bC hi] at h;rw[bE,bC hi];exact(bA h).symm
theorem ni{o:Option Nat}:(!decide (oV o=.bD))=o.isSome:=by cases o <;> simp[oV]
theorem mi{st:List (Option Nat)}{i:Nat}(h:i<st.length):(st.map oV)[i]?=some (oV (st.getD i none)):=by
 rw[bh,bE,bC h];rfl
theorem Bk{a b:Option Nat}:decide (oV a=oV b)=decide (a=b):=by
 cases a <;> cases b <;> simp[oV];exact⟨fun h=>ii h,fun h=>by rw[h]⟩
theorem rV{a b:Option Nat}:Ci (oV a) (oV b)=true:=by cases a <;> cases b <;> rfl
theorem xu{homes:List Nat}{fs:List (Option Nat)}{i:Nat}(h:i<fs.length):((uo homes fs).map oV)[i]?=some (if fs.getD i none=some (homes.getD i 0) then V.bD else oV (fs.getD i none)):=by
 unfold uo;rw[bh,bh,qt h];show some (oV (if _ then none else _))=_;split <;> rfl
theorem Ff{o:Option Nat}{h:Nat}:decide (oV o=.int (h:Int))=decide (o=some h):=Bk (b:=some h)
theorem Bm{o:Option Nat}{h:Nat}:Ci (oV o) (.int (h:Int))=true:=rV (b:=some h)
theorem xv{xs:List Nat}{i:Nat}(h:i<xs.length):(NV xs)[i]?=some (.int ((xs.getD i 0:Nat):Int)):=by
 rw[bh,bC h,bE,bC h];rfl
abbrev cI(u:Nat×Nat):Int×Int:=((u.1:Int),(u.2:Int))
theorem Hi{u:Nat×Nat}{l:List (Nat×Nat)}:cI u∈l.map cI↔u∈l:=by
 rw[bQ];constructor
 .rintro⟨y,hy,e⟩;have e1:(y.1:Int)=u.1:=congrArg Prod.fst e;have e2:(y.2:Int)=u.2:=congrArg Prod.snd e;obtain rfl:y=u:=gg (by lia) (by lia);exact hy
 .intro h;exact⟨u,h,rfl⟩
section
variable {P:Program} {w:World} {K:PySem.W.Frag} {mg:Str->Option Value} {base:Heap}
theorem PJ:aB ["stand"] ["stand"] (aq Pz):=⟨rfl,rfl,rfl,by decide +kernel,rfl,by decide +kernel,by decide +kernel⟩
def DQ:Sp:=fun vs H Q _=>∃ (sa:Addr) (st:List (Option Nat)),vs=[.ref sa]/\H sa=some (.tup (st.map oV))/\st.length<=16/\∀ (r:Addr) (H':Hp),aE H H'->H r=none->H' r=some (.lst (NV (jM st st.length)))->Q (.ref r) H'
theorem K9{f:Addr}{fd:FuncData}(F:eh K "under_way" "under_way" Pz f fd)(hE:mg "enumerate"=none):bi P w K mg base bg 1 f fd ["stand"] DQ:=by
 refine F.ok PJ (fun vs H Q E h=>?_) (fun cM A outer s H vs Q E hr h=>?_)
 .obtain⟨sa,st,rfl,_⟩:=h;rfl
 .obtain⟨sa,st,rfl,hS,hl,q⟩:=h;refine'⟨_,(ap (aJ ?c1)),?_⟩;case c1=>
   refine' cL (g:=(o5 K 2 (dH (bR 0) (dH (bR 1) o4)))) (tt:=(oh (pG Fe (bU 1) (tC .bD)))) (te:=(bU 0)) (NB:=["letter","house"]) (src:=[none,none]) (cA (by kernel_rfl)) rfl (Am rfl hE (aa (pv 0) ag)) ?g ?t ?e;case g=>exact fun cl C s₃ H₃ fp=>(dI (n:=2) rfl (aR (az (i:=0) g7 rfl (Or.inl rfl) (Or.inr rfl)) (aR (az (i:=1) g7 rfl (Or.inl rfl) (Or.inr rfl)) cJ)))
   case t=>exact fun cl C s₃ H₃ fp=>gx (aO mR (pv 1) cP (aT _))
   case e=>exact fun cl C s₃ H₃ fp=>(pv 0)
  refine⟨_,rfl,sa,_,rfl,be.of hS,fun D hD=>?_⟩;refine vC (K:=K) (a:=sa) (xs:=st.map oV) (fun i ys σ H3=>(∃u v,σ=[u,v])/\ys=NV (jM st i)/\aE H H3/\H3 D=some (.lst ys)) ⟨⟨_,_,rfl⟩,rfl,aj hD,af⟩ (fun i ys σ H3 _ z=>be.of (z.2.2.1 _ _ hS)) ?_ ?_
  .rintro i x t ys σ H3 Kt Kf hx ⟨⟨u,v,rfl⟩,rfl,sm,pj⟩ ht kt kf;obtain⟨hi,rfl⟩:=Bj hx;have aP:=aj (o:=.tup [.int (i:Int),oV (st.getD i none)]) ht;refine⟨_,_,rfl,be.of af,rfl,_,_,rfl,_,_,rfl,rfl,?_⟩;refine⟨_,rfl,rfl,_,rfl,?_⟩;rw[ni];refine iC (fun e=>?_) (fun e=>?_)
   .refine⟨_,rfl,kt _ _ _ (aP _ _ pj) (by rw[bb];exact cZ xq (bX (show i<17 by lia) (by decide))) ⟨⟨_,_,rfl⟩,?_,aW (sm.trans aP) hD,af⟩⟩;rw[oW,ak e,km]
   .refine kf _ _ ⟨⟨_,_,rfl⟩,?_,sm.trans aP,aP _ _ pj⟩;rw[oW,ai e,jm]
  .rintro ys σ H3 ⟨_,rfl,sm,pj⟩;rw[aI] at pj;exact q D H3 sm hD pj
theorem PL:aB ["homes","handing"] ["homes","handing"] (aq PB):=⟨rfl,rfl,rfl,by decide +kernel,rfl,by decide +kernel,by decide +kernel⟩
def ub:Sp:=fun vs H Q _=>∃ (ha fa:Addr) (homes:List Nat) (fs:List (Option Nat)),vs=[.ref ha,.ref fa]/\H ha=some (.tup (NV homes))/\H fa=some (.tup (fs.map oV))/\homes.length=fs.length/\fs.length<=16/\∀t H',aE H H'->H' t=some (.tup ((uo homes fs).map oV))->Q (.ref t) H'
theorem K_{f:Addr}{fd:FuncData}(F:eh K "stand_behind" "stand_behind" PB f fd)(B:Bl mg)(B2:K1 mg):bi P w K mg base bg 1 f fd ["homes","handing"] ub:=by
 refine F.ok PL (fun vs H Q E h=>?_) (fun cM A outer s H vs Q E hr h=>?_)
 .obtain⟨ha,fa,homes,fs,rfl,_⟩:=h;rfl
 .obtain⟨ha,fa,homes,fs,rfl,Hj,Hk,hl,v5,q⟩:=h;refine'⟨_,(ap (aJ (bu br (by rfl) B.tup fL (aa ?c1 ag)))),?_⟩;case c1=>
   refine' cL (g:=(o5 K 2 (dH (bR 0) (dH (bR 1) o4)))) (te:=(Nx (oh (pG (Jw) (bU 1) (bU 0))) (tC .bD) (bU 1))) (NB:=["home","goes"]) (src:=[none,none]) (cA (by kernel_rfl)) rfl (mY rfl B2.zip (aa (pv 0) (aa (pv 1) ag))) ?g ?t ?e;case g=>exact fun cl C s₃ H₃ fp=>(dI (n:=2) rfl (aR (az (i:=0) kD rfl (Or.inl rfl) (Or.inr rfl)) (aR (az (i:=1) kD rfl (Or.inl rfl) (Or.inr rfl)) cJ)))
   case t=>exact fun cl C s₃ H₃ fp=>dZ
   case e=>exact fun cl C s₃ H₃ fp=>(n6 (aO j3 (pv 1) (pv 0) (aT _)) cP (pv 1))
  refine⟨_,rfl,_,rfl,ha,fa,_,_,rfl,be.of Hj,be.of Hk,by rw[bb,aI];lia,fun D4 vV=>?_⟩;refine tJ (K:=K) (xs:=NV homes) (ys:=fs.map oV) (by rw[bb,aI];lia) (fun i zz σ H3=>(∃u v,σ=[u,v])/\aE H H3/\H3 D4=some (.lst zz)/\zz=((uo homes fs).map oV).take i) ⟨⟨_,_,rfl⟩,aj vV,af,rfl⟩ (fun i zz σ H _ z=>⟨be.of (z.2.1 _ _ Hj),be.of (z.2.1 _ _ Hk)⟩) ?_ ?_
  .rintro i x y pp zz σ H5 Kt Kf hx hy ⟨⟨u,v,rfl⟩,Hl,ul,rfl⟩ DK kt kf;have La:i<fs.length:=by have:=(di.mp hx).1;rw[bb] at this;lia
   rw[xv (by lia)] at hx;obtain rfl:=bA hx;rw[mi La] at hy;obtain rfl:=bA hy;have sp:=aj (o:=.tup [.int ((homes.getD i 0:Nat):Int),oV (fs.getD i none)]) DK;have one:=xu (homes:=homes) (fs:=fs) La;have lt:(((uo homes fs).map oV).take i).length<sizeLine:=cZ (uz _ _) (by rw[aI,kB];exact cZ v5 (by decide));refine⟨pp,_,rfl,be.of af,rfl,_,_,rfl,_,_,rfl,rfl,?_⟩;refine⟨_,rfl,_,rfl,Bm,_,rfl,?_⟩;rw[Ff];have go:∀v,((uo homes fs).map oV)[i]?=some v->∀σ2,(∃u v,σ2=[u,v])->Kt v σ2 (upd H5 pp (.tup [.int ((homes.getD i 0:Nat):Int),oV (fs.getD i none)])):=fun v hv σ2 sh=>kt v σ2 _ (sp _ _ ul) lt ⟨sh,aW (Hl.trans sp) vV,af,by rw[d7,hv];rfl⟩;by_cases c:fs.getD i none=some (homes.getD i 0)
   .rw[ak c] at one;rw[bK c];exact mw (go _ one _ ⟨_,_,rfl⟩)
   .rw[ai c] at one;rw[dD c];exact fX ⟨_,rfl,go _ one _ ⟨_,_,rfl⟩⟩
  .rintro zz σ H5 ⟨_,Hl,ul,rfl⟩;rw[bb,show homes.length=((uo homes fs).map oV).length by rw[aI,kB];exact hl,fO] at ul;refine⟨D4,_,rfl,.inl ⟨a_.of ul,fun t ht=>?_⟩⟩;exact q t _ (Hl.trans (aj ht)) af
theorem PM:aB ["_law_homes","_law_handing"] ["_law_homes","_law_handing"] (aq PD):=⟨rfl,rfl,rfl,by decide +kernel,rfl,by decide +kernel,by decide +kernel⟩
theorem Lb{f:Addr}{fd:FuncData}(F:eh K "_law_behind" "_law_behind" PD f fd)(B:Bl mg)(B2:K1 mg):bi P w K mg base bg 1 f fd ["_law_homes","_law_handing"] ub:=by
 refine F.ok PM (fun vs H Q E h=>?_) (fun cM A outer s H vs Q E hr h=>?_)
 .obtain⟨ha,fa,homes,fs,rfl,_⟩:=h;rfl
 .obtain⟨ha,fa,homes,fs,rfl,Hj,Hk,hl,v5,q⟩:=h;refine'⟨_,(ap (aJ (bu br (by rfl) B.tup fL (aa ?c1 ag)))),?_⟩;case c1=>
   refine' cL (g:=(o5 K 2 (dH (bR 0) (dH (bR 1) o4)))) (te:=(Nx (oh (pG (Jw) (bU 0) (bU 1))) (tC .bD) (bU 0))) (NB:=["_law_house","_law_home"]) (src:=[none,none]) (cA (by kernel_rfl)) rfl (mY rfl B2.zip (aa (pv 1) (aa (pv 0) ag))) ?g ?t ?e;case g=>exact fun cl C s₃ H₃ fp=>(dI (n:=2) rfl (aR (az (i:=0) jd rfl (Or.inl rfl) (Or.inr rfl)) (aR (az (i:=1) jd rfl (Or.inl rfl) (Or.inr rfl)) cJ)))
   case t=>exact fun cl C s₃ H₃ fp=>dZ
   case e=>exact fun cl C s₃ H₃ fp=>(n6 (aO j3 (pv 0) (pv 1) (aT _)) cP (pv 0))
  refine⟨_,rfl,_,rfl,fa,ha,_,_,rfl,be.of Hk,be.of Hj,by rw[aI,bb];lia,fun D4 vV=>?_⟩;refine tJ (K:=K) (xs:=fs.map oV) (ys:=NV homes) (by rw[aI,bb];lia) (fun i zz σ H3=>(∃u v,σ=[u,v])/\aE H H3/\H3 D4=some (.lst zz)/\zz=((uo homes fs).map oV).take i) ⟨⟨_,_,rfl⟩,aj vV,af,rfl⟩ (fun i zz σ H _ z=>⟨be.of (z.2.1 _ _ Hk),be.of (z.2.1 _ _ Hj)⟩) ?_ ?_
  .rintro i x y pp zz σ H5 Kt Kf hx hy ⟨⟨u,v,rfl⟩,Hl,ul,rfl⟩ DK kt kf;have La:i<fs.length:=by have:=(di.mp hx).1;rwa [aI] at this
   rw[mi La] at hx;obtain rfl:=bA hx;rw[xv (by lia)] at hy;obtain rfl:=bA hy;have sp:=aj (o:=.tup [oV (fs.getD i none),.int ((homes.getD i 0:Nat):Int)]) DK;have one:=xu (homes:=homes) (fs:=fs) La;have lt:(((uo homes fs).map oV).take i).length<sizeLine:=cZ (uz _ _) (by rw[aI,kB];exact cZ v5 (by decide));refine⟨pp,_,rfl,be.of af,rfl,_,_,rfl,_,_,rfl,rfl,?_⟩;refine⟨_,rfl,_,rfl,Bm,_,rfl,?_⟩;rw[Ff];have go:∀v,((uo homes fs).map oV)[i]?=some v->∀σ2,(∃u v,σ2=[u,v])->Kt v σ2 (upd H5 pp (.tup [oV (fs.getD i none),.int ((homes.getD i 0:Nat):Int)])):=fun v hv σ2 sh=>kt v σ2 _ (sp _ _ ul) lt ⟨sh,aW (Hl.trans sp) vV,af,by rw[d7,hv];rfl⟩;by_cases c:fs.getD i none=some (homes.getD i 0)
   .rw[ak c] at one;rw[bK c];exact mw (go _ one _ ⟨_,_,rfl⟩)
   .rw[ai c] at one;rw[dD c];exact fX ⟨_,rfl,go _ one _ ⟨_,_,rfl⟩⟩
  .rintro zz σ H5 ⟨_,Hl,ul,rfl⟩;rw[aI,show fs.length=((uo homes fs).map oV).length by rw[aI,kB],fO] at ul;refine⟨D4,_,rfl,.inl ⟨a_.of ul,fun t ht=>?_⟩⟩;exact q t _ (Hl.trans (aj ht)) af
theorem v7:aB ["_law_sides_here","_law_homes","_law_stand","_law_taken","_law_found","_law_house","_law_home","_law_wish_here"] ["_law_sides_here","_law_homes","_law_stand"] (aq PF):=⟨rfl,rfl,rfl,by decide +kernel,rfl,by decide +kernel,by decide +kernel⟩
def DS:Sp:=fun vs H Q _=>∃ (a ha sa:Addr) (ns homes:List Nat) (st:List (Option Nat)),vs=[.ref a,.ref ha,.ref sa]/\H a=some (.tup (NV ns))/\H ha=some (.tup (NV homes))/\H sa=some (.tup (st.map oV))/\Bx ns/\Sg ns homes st/\∀t H',aE H H'->H' t=some (.tup ((B3 ns homes st).map oV))->Q (.ref t) H'
theorem Lc{f:Addr}{fd:FuncData}(F:eh K "_law_hand" "_law_hand" PF f fd)(B:Bl mg)(B2:K1 mg)(WI:bZ P w K mg base bg 1 "_law_wish" ["_law_sides_here","_law_house","_law_home"] Hh):bi P w K mg base bg 2 f fd ["_law_sides_here","_law_homes","_law_stand"] DS:=by
 refine F.ok v7 (fun vs H Q E h=>?_) (fun cM A outer s H vs Q E hr h=>?_)
 .obtain⟨a,ha,sa,ns,homes,st,rfl,_⟩:=h;rfl
 .obtain⟨a,ha,sa,ns,homes,st,rfl,hA,hH,hS,BX,SG,q⟩:=h;have hl:=SG.len;have v5:=SG.v5;refine⟨_,(ah (qS (i:=3) (j:=4) rfl v7.nd rfl rfl (by decide) rfl rfl (aa (cR ag) (aa (cR ag) ag)) (by rfl))
   (ah (cr dw rfl (mY rfl B2.zip (aa (pv 2) (aa (pv 1) ag))) (dI (n:=2) rfl (aR (az (i:=5) v7.nd rfl (Or.inl rfl)) (aR (az (i:=6) v7.nd rfl (Or.inl rfl)) cJ)))
    (ah (aN (i:=7) v7.nd rfl (Or.inl rfl) cP)
    (ah (bJ (aO mR (pv 5) cP (aT _)) (ah (aN (i:=7) v7.nd rfl (Or.inl rfl) (aA WI hr aL (aa (pv 0) (aa (pv 5) (aa (pv 6) ag)))))
     (ah (bJ (aO (Gh hr.u) (dt (aa (pv 5) (aa (pv 7) ag))) (pv 3) rfl) (ap (aN (i:=7) v7.nd rfl (Or.inl rfl) (pv 5))) aQ)
     (ap (bL (eW eO eN eM bv (pv 3) (aa (dt (aa (pv 5) (aa (pv 7) ag))) ag)))))) aQ)
    (ap (bL (eW eO eN eM bv (pv 4) (aa (pv 7) ag)))))))
   (ap (aJ (bu br (by rfl) B.tup fL (aa (pv 4) ag)))))),?_⟩
  refine⟨by show 0<=sizeLine;decide,fun TK IU=>⟨by show 0<=sizeLine;decide,fun FD PP=>⟨_,_,rfl,?_⟩⟩⟩;have s0:=(aj (o:=.lst []) IU)
  have s1:=s0.trans (aj (o:=.lst []) PP);have V6:H FD=none:=s0.free PP;have ne:TK≠FD:=ao af PP;refine⟨_,rfl,_,rfl,sa,ha,_,_,rfl,be.of (s1 _ _ hS),be.of (s1 _ _ hH),by rw[bb,aI];lia,?_⟩;refine xl (K:=K) (xs:=st.map oV) (ys:=NV homes) (by rw[bb,aI];lia) (fun i σ H2=>∃ (zs:Zs) (x5 x6 x7:Option V),σ=[some (.ref a),some (.ref ha),some (.ref sa),some (.ref TK),some (.ref FD),x5,x6,x7]/\aE H H2/\H2 TK=some (.lst (zr zs))/\PO H2 zs/\zp zs=(B4 ns homes st i).map cI/\H2 FD=some (.lst (((List.range i).map (rS ns homes st)).map oV))) ⟨[],_,_,_,rfl,s1,by rw[am ne];exact af,PO.nil,rfl,af⟩ (fun i σ H2 _ z=>by obtain⟨zs,x5,x6,x7,_,sm,_⟩:=z;exact⟨be.of (sm _ _ hS),be.of (sm _ _ hH)⟩) ?_ ?_
  .rintro i x y pp σ H2 hx hy ⟨zs,x5,x6,x7,rfl,s2,Th,IS,ez,B5⟩ DK;obtain⟨hi,rfl⟩:=Bj hx;rw[xv (by lia)] at hy;obtain rfl:=bA hy;have zl:zs.length<=i:=by
    have:(zp zs).length=((B4 ns homes st i).map cI).length:=congrArg List.length ez;rw[ce,aI] at this;rw[this];unfold B4;rw[aI];exact bn (jO _ _) (by rw[fN];exact aF _)
   have sp:=aj (o:=.tup [oV (st.getD i none),.int ((homes.getD i 0:Nat):Int)]) DK;refine⟨pp,_,rfl,be.of af,rfl,_,_,rfl,_,_,rfl,rfl,?_⟩;have s3:=s2.trans sp;have Ld:=sp _ _ Th;have Dv:=IS.same sp;have Ti:=sp _ _ B5;generalize upd H2 pp _=H3 at *;refine dP (fun σ Hx=>H3=Hx/\σ=[some (.ref a),some (.ref ha),some (.ref sa),some (.ref TK),some (.ref FD),some (oV (st.getD i none)),some (.int ((homes.getD i 0:Nat):Int)),some .bD]) ?_ (fun N hN=>hN _ _ ⟨rfl,rfl⟩);rintro σ _ ⟨rfl,rfl⟩;refine dP (fun σ H4=>∃zs:Zs,σ=[some (.ref a),some (.ref ha),some (.ref sa),some (.ref TK),some (.ref FD),some (oV (st.getD i none)),some (.int ((homes.getD i 0:Nat):Int)),some (oV (rS ns homes st i))]/\aE H H4/\H4 TK=some (.lst (zr zs))/\PO H4 zs/\zp zs=(B4 ns homes st (i+1)).map cI/\H4 FD=some (.lst (((List.range i).map (rS ns homes st)).map oV))) ?_ ?_
   .rintro σ H4 ⟨se,rfl,s4,IW,M8,KO,K5⟩;refine⟨_,rfl,.inl ⟨rfl,_,a_.of K5⟩,_,rfl,FD,_,_,rfl,rfl,K5,by rw[aI,aI,fN];exact bX (show i<17 by lia) (by decide),?_⟩;refine⟨se,_,_,_,rfl,aW s4 V6,by rw[am ne];exact IW,M8.putL K5,KO,?_⟩;rw[af,h_,cn,cn];rfl
   .intro N hN;refine⟨_,rfl,rfl,_,rfl,?_⟩;rw[ni];cases es:st.getD i none with
    |none=>
     refine fX (hN _ _ ⟨zs,?_,s3,Ld,Dv,?_,Ti⟩)
     .unfold rS;rw[es];rfl
     .rw[t_,es,ai (by decide),jm];exact ez
    |some h=>
     obtain⟨hp,jB⟩:=SG.at_ i h hi es;have hg:=SG.hm i (by lia);have E9:=BX.E9;obtain⟨ws,Tj⟩:=xp BX.pos hp hg jB;refine mw ⟨_,rfl,_,rfl,_,rfl,a,ns,h,homes.getD i 0,rfl,s3 _ _ hA,BX,by lia,?_⟩;rw[ws];refine dP (fun σ Hx=>H3=Hx/\σ=[some (.ref a),some (.ref ha),some (.ref sa),some (.ref TK),some (.ref FD),some (.int (h:Int)),some (.int ((homes.getD i 0:Nat):Int)),some (.int ((wN ns h (homes.getD i 0):Nat):Int))]) ?_ (fun N hN=>hN _ _ ⟨rfl,rfl⟩);rintro σ _ ⟨rfl,rfl⟩;have BY:=kC (ns:=ns) (homes:=homes) es;refine dP (fun σ H5=>aE H3 H5/\σ=[some (.ref a),some (.ref ha),some (.ref sa),some (.ref TK),some (.ref FD),some (.int (h:Int)),some (.int ((homes.getD i 0:Nat):Int)),some (.int (((if um ns homes st i=true then h else wN ns h (homes.getD i 0)):Nat):Int))]) ?_ ?_
     .rintro σ H5 ⟨s5,rfl⟩;refine⟨_,rfl,.inl ⟨rfl,_,a_.of (s5 _ _ Ld)⟩,_,rfl,_,rfl,by show 2<=sizeLine;decide,fun t ht=>?_⟩;have aP:=s5.trans (aj (o:=.tup [.int (h:Int),.int (((if um ns homes st i=true then h else wN ns h (homes.getD i 0)):Nat):Int)]) ht);refine⟨TK,_,_,rfl,rfl,aP _ _ Ld,by rw[gI];exact cZ zl (bX (show i<17 by lia) (by decide)),?_⟩;refine hN _ _ ⟨zs++[(t,cI (h,if um ns homes st i=true then h else wN ns h (homes.getD i 0)))],?_,aW (s3.trans aP) IU,?_,?_,?_,?_⟩
      .rw[BY,es];rfl
      .rw[af,lJ];rfl
      .refine PO.putL (PO.append (Dv.same aP) (PO.one af)) (aP _ _ Ld)
      .rw[lK,t_,es,ak (show (some h).isSome=true from rfl),cn,ez,BY];rfl
      .rw[am ne.symm];exact aP _ _ Ti
     .intro N2 Nc;refine⟨_,rfl,_,rfl,by show 2<=sizeLine;decide,fun t ht=>?_⟩;have aP:=(aj (o:=.tup [.int (h:Int),.int ((wN ns h (homes.getD i 0):Nat):Int)]) ht)
      refine⟨_,rfl,Gp (u:=cI (h,wN ns h (homes.getD i 0))) af (aP _ _ Ld) (Dv.same aP) ⟨_,rfl,?_⟩⟩;rw[ai bT,ez,show decide (cI (h,wN ns h (homes.getD i 0))∈(B4 ns homes st i).map cI)=um ns homes st i from hX.mpr (by rw[kO,Hi];exact DL es Tj)];by_cases c:um ns homes st i=true
      .rw[ak c] at Nc;rw[c];exact mw ⟨_,rfl,Nc _ _ ⟨aP,rfl⟩⟩
      .rw[ai c] at Nc;rw[nV] at c;rw[c];exact fX (Nc _ _ ⟨aP,rfl⟩)
  .rintro σ H2 ⟨zs,x5,x6,x7,rfl,s2,Th,IS,ez,B5⟩;rw[aI] at B5;exact⟨_,rfl,FD,_,rfl,.inl ⟨a_.of B5,fun t ht=>q t _ (s2.trans (aj ht)) af⟩⟩
end
abbrev PQ:Stmt:=fz 19
theorem DT{pn sr:Addr}:(A2 pn sr).lookup ("wish":Str)=none:=rR (by decide +kernel) (by decide +kernel)
abbrev ky(h w:Nat):List gh:=[.inl (h:Int),.inl (w:Int)]
theorem Hm{h w h' w':Nat}(e:ky h w=ky h' w'):h=h'/\w=w':=by
 injection e with e1 e2;injection e2 with e3 _;have a:=Sum.inl.inj e1;have b:=Sum.inl.inj e3;exact⟨by lia,by lia⟩
def yJ(ns homes:List Nat)(st:List (Option Nat))(us:List Nat):List (Option Nat):=(List.range st.length).map fun j=>if j∈us then rS ns homes st j else st.getD j none
theorem nj{ns homes:List Nat}{st:List (Option Nat)}{us:List Nat}:(yJ ns homes st us).length=st.length:=by unfold yJ;rw[aI,fN]
theorem nn{ns homes:List Nat}{st:List (Option Nat)}{us:List Nat}{i:Nat}(h:i<(yJ ns homes st us).length):(yJ ns homes st us)[i]=if i∈us then rS ns homes st i else st.getD i none:=by simp only[yJ,List.getElem_map,List.getElem_range]
theorem DU{ns homes:List Nat}{st:List (Option Nat)}:yJ ns homes st []=st:=by
 refine nR nj fun i h1 h2=>?_;rw[nn,ai (by simp),bE,bC h2];rfl
theorem DV{ns homes:List Nat}{st:List (Option Nat)}:yJ ns homes st (jM st st.length)=B3 ns homes st:=by
 unfold yJ B3;refine jQ fun j hj=>?_;by_cases c:j∈jM st st.length
 .rw[ak c]
 .rw[ai c];have hj:=cD.mp hj;cases e:st.getD j none with
  |none=>unfold rS;rw[e];rfl
  |some h=>exact absurd (gP.mpr ⟨hj,by rw[e];rfl⟩) c
theorem xw{ns homes:List Nat}{st:List (Option Nat)}{us:List Nat}{l:Nat}(hl:l<st.length):(yJ ns homes st us).set l (rS ns homes st l)=yJ ns homes st (us++[l]):=by
 refine nR (by rw[jl,nj,nj]) fun i h1 h2=>?_;rw[List.getElem_set,nn,nn];by_cases c:l=i
 .subst c;rw[ak rfl,ak (by simp)]
 .rw[ai c];by_cases d:i∈us
  .rw[ak d,ak (by simp[d])]
  .rw[ai d,ai (by simp[d];exact fun z=>c z.symm)]
theorem Bn{ns homes:List Nat}{st:List (Option Nat)}{us:List Nat}{l:Nat}(hl:l<st.length)(h:¬ l∈us)(e:rS ns homes st l=st.getD l none):yJ ns homes st us=yJ ns homes st (us++[l]):=by
 rw[<-xw hl];refine nR (by rw[jl]) fun i h1 h2=>?_;rw[List.getElem_set];by_cases c:l=i
 .subst c;rw[ak rfl];rw[nn,ai h,e]
 .rw[ai c]
section
variable {P:Program} {w:World} {K:PySem.W.Frag} {mg:Str->Option Value} {base:Heap}
theorem Bo:aB ["box","homes","stand","goes","taken","letter","tie"] ["box","homes","stand"] (aq PQ):=⟨rfl,rfl,rfl,by decide +kernel,rfl,by decide +kernel,by decide +kernel⟩
def Bp(C CB:Addr):Sp:=fun vs H Q _=>∃ (L:Addr->Prop) (b ha sa:Addr) (ns homes:List Nat) (st:List (Option Nat)),vs=[.ref b,.ref ha,.ref sa]/\eI C CB H L b ns/\H ha=some (.tup (NV homes))/\H sa=some (.tup (st.map oV))/\Sg ns homes st/\∀t H',aE H H'->H' t=some (.tup ((B3 ns homes st).map oV))->Q (.ref t) H'
theorem Le{f C CB CE:Addr}{fd:FuncData}(F:eh K "wait_hand" "wait_hand" PQ f fd)(B:Bl mg)(TB:E_ K mg CB)(UW:bZ P w K mg base bg 1 "under_way" ["stand"] DQ)(M:mB P w K mg base (iU P w) 7 CB "wish" ["self","house","home"] (Bc K C CB CE)):bi P w K mg base bg 8 f fd ["box","homes","stand"] (Bp C CB):=by
 obtain⟨fW,Xl,mW,bW,GW⟩:=M.ex;refine F.ok Bo (fun vs H Q E h=>?_) (fun cM A outer s H vs Q E hr h=>?_)
 .obtain⟨L,b,ha,sa,ns,homes,st,rfl,_⟩:=h;rfl
 .obtain⟨L,b,ha,sa,ns,homes,st,rfl,BA,hH,hS,SG,q⟩:=h;obtain⟨dx,pn,sr,hb,N,v3⟩:=BA.ob;have BX:=BA.bx;have hl:=SG.len;have v5:=SG.v5;have h1:bO 1 _:=hr.mono (by decide);have IK:=hr.u (n:=1);refine⟨_,(ah (aN (i:=3) Bo.nd rfl (Or.inl rfl) (bu j6 (by rfl) B.lst qh (aa (pv 2) ag)))
   (ah (aN (i:=4) Bo.nd rfl (Or.inl rfl) Al)
   (ah (cr dw rfl (cX (aA UW h1 aL (aa (pv 2) ag))) (az (i:=5) Bo.nd rfl (Or.inl rfl))
    (ah (aN (i:=6) Bo.nd rfl (Or.inl rfl) (dt (aa (bq cS (pv 2) (pv 5) (fun _ _=>rfl)) (aa (fv (pv 0) TB.cl mW GW hr bW .nil wu (aa (bq cS (pv 2) (pv 5) (fun _ _=>rfl)) (aa (bq cS (pv 1) (pv 5) (fun _ _=>rfl)) ag))) ag))))
    (ap (bJ (Fv (yf IK (pv 6) (pv 4))) (ah (CV IK (pv 4) (pv 6) iz rfl)
     (ap (iB (bq cS (pv 6) av (fun _ _=>rfl)) (n9 (pv 3) (pv 5) fU)))) aQ))))
   (ap (aJ (bu br (by rfl) B.tup fL (aa (pv 3) ag))))))),?_⟩
  refine⟨_,rfl,sa,_,rfl,.inr (be.of hS),fun GO Tk=>?_⟩;have s1:=aj (o:=.lst (st.map oV)) Tk;refine fun TK IU=>?_;have s2:=s1.trans (aj (o:=.dT []) IU);have V7:H TK=none:=s1.free IU;have ne:GO≠TK:=ao af IU;refine⟨_,rfl,sa,st,rfl,s2 _ _ hS,v5,fun r H3 s3 nr IX=>⟨r,rfl,⟨_,a_.of IX⟩,?_⟩⟩;have Bq:=s2.trans s3;have V8:r≠GO:=(ao (show upd (upd H GO (.lst (st.map oV))) TK (.dT []) GO=some (.lst (st.map oV)) by rw[am ne];exact af) nr).symm;have V9:r≠TK:=(ao (show upd (upd H GO (.lst (st.map oV))) TK (.dT []) TK=some _ from af) nr).symm;refine jZ (K:=K) (xs:=NV (jM st st.length)) (fun m σ H4=>∃ (a8:List (List gh×V)) (x5 x6:Option V),σ=[some (.ref b),some (.ref ha),some (.ref sa),some (.ref GO),some (.ref TK),x5,x6]/\aE H H4/\H4 r=some (.lst (NV (jM st st.length)))/\H4 GO=some (.lst ((yJ ns homes st ((jM st st.length).take m)).map oV))/\H4 TK=some (.dT a8)/\a8.length<=m/\∀h v,(fg a8 (ky h v)).isSome=true↔∃j∈(jM st st.length).take m,st.getD j none=some h/\wN ns h (homes.getD j 0)=v) ?_ (fun m σ H4 _ z=>by obtain⟨a8,x5,x6,_,_,z,_⟩:=z;exact a_.of z) ?_ ?_
  .refine⟨[],_,_,rfl,Bq,IX,?_,s3 _ _ af,aF _,fun h v=>⟨(fun z=>by cases z),(fun ⟨j,hj,_⟩=>by simp at hj)⟩⟩;rw[List.take_zero,DU];exact s3 _ _ (by rw[am ne];exact af)
  .rintro m x σ H4 hx ⟨a8,x5,x6,rfl,s4,Dx,Lf,IW,kl,kk⟩;obtain⟨l,hv,rfl⟩:=kn hx;obtain⟨tk,lt,V_⟩:=ua hv;have Nd:(jM st st.length).take (m+1)=(jM st st.length).take m++[l]:=by rw[d7,hv];rfl
   obtain⟨h,es⟩:=pB.mp V_;obtain⟨hp,jB⟩:=SG.at_ l h lt es;have hg:=SG.hm l (by lia);have PU:m<17:=by
    have a:=(di.mp hv).1;have b:=xq (st:=st) (i:=st.length);lia
   obtain⟨ws,Tj⟩:=xp BX.pos hp hg jB;have nl:¬ l∈(jM st st.length).take m:=fun z=>by rw[tk] at z;exact absurd (gP.mp z).1 (eQ _)
   have Nb:sD (st.map oV) (l:Int)=some (.int (h:Int)):=by rw[aY (mi lt),es];rfl
   have Wa:sD (NV homes) (l:Int)=some (.int ((homes.getD l 0:Nat):Int)):=aY (xv (by lia));refine⟨_,rfl,_,rfl,sa,_,_,_,rfl,rfl,be.of (s4 _ _ hS),Nb,?_⟩;refine⟨_,rfl,b,dx,_,rfl,s4 _ _ hb,DT,_,rfl,_,rfl,sa,_,_,_,rfl,rfl,be.of (s4 _ _ hS),Nb,_,rfl,_,rfl,ha,_,_,_,rfl,rfl,be.of (s4 _ _ hH),Wa,L,b,ns,_,_,some (h:Int),some ((homes.getD l 0:Nat):Int),rfl,BA.same s4,(fun H' _=>.int _),(fun H' _=>.int _),(fun z=>by rcases z with z|z <;> (rw[eK (by assumption)] at z;cases z)),fun h' g' Xm Xn e1 e2 H5 s5=>?_⟩;obtain rfl:h=h':=ii (bA e1);obtain rfl:homes.getD l 0=g':=ii (bA e2);rw[ws];refine⟨by show 2<=sizeLine;decide,fun t ht=>?_⟩;have s6:=s5.trans (aj (o:=.tup [.int (h:Int),.int ((wN ns h (homes.getD l 0):Nat):Int)]) ht);have Hn:upd H5 t (.tup [.int (h:Int),.int ((wN ns h (homes.getD l 0):Nat):Int)]) t=some (.tup ((ky h (wN ns h (homes.getD l 0))).map kV)):=af;change bR 6 (V.ref t) _ (upd H5 t (.tup [.int (h:Int),.int ((wN ns h (homes.getD l 0):Nat):Int)])) _;generalize upd H5 t _=H6 at *;refine⟨_,rfl,_,rfl,TK,_,rfl,Ah.t (s6 _ _ IW) Hn,_,rfl,?_⟩;have Wb:(fg a8 (ky h (wN ns h (homes.getD l 0)))).isSome=um ns homes st l:=by
    rw[hX,kk,nh es,tk];constructor
    .rintro⟨j,hj,a,b⟩;exact⟨j,(gP.mp hj).1,a,b⟩
    .rintro⟨j,hj,a,b⟩;exact⟨j,gP.mpr ⟨hj,by rw[a];rfl⟩,a,b⟩
   rw[Wb];have BY:=kC (ns:=ns) (homes:=homes) es;by_cases c:um ns homes st l=true
   .rw[c];rw[ak c] at BY;refine e_ rfl ⟨a8,_,_,rfl,s4.trans s6,s6 _ _ Dx,?_,s6 _ _ IW,by lia,fun h2 v=>?_⟩
    .rw[Nd,<-Bn lt nl (by rw[BY,es])];exact s6 _ _ Lf
    .rw[kk,Nd];constructor
     .rintro⟨j,hj,a⟩;exact⟨j,jP _ hj,a⟩
     .rintro⟨j,hj,a,b'⟩;rcases dk.mp hj with z|z
      .exact⟨j,z,a,b'⟩
      .rw[cN.mp z,es] at a;rw[cN.mp z] at b';cases a;obtain⟨j',Pp,a',b2⟩:=(nh es).mp c;exact⟨j',by rw[tk];exact gP.mpr ⟨Pp,by rw[a'];rfl⟩,a',b2.trans b'⟩
   .rw[ai c] at BY;rw[nV] at c;rw[c];refine E7 rfl ⟨_,rfl,_,rfl,TK,_,rfl,Ai.t (s6 _ _ IW) Hn (cZ kl (bX PU (by decide))),?_⟩;have Wc:=s6 _ _ Lf;have Wd:t≠TK:=by rintro rfl;rw[s6 _ _ IW] at Hn;cases Hn
    refine⟨_,rfl,t,_,_,_,rfl,rfl,be.of (by rw[am Wd];exact Hn),aY (j:=1) rfl,_,rfl,_,rfl,GO,_,(l:Int),l,rfl,rfl,by rw[am ne];exact Wc,iV (by rw[aI,nj];exact lt),?_⟩;refine⟨_,_,_,rfl,aW (aW (s4.trans s6) V7) Tk,by rw[am V8,am V9];exact s6 _ _ Dx,?_,by rw[am ne.symm];exact af,bn (iE _ _ _) (by lia),fun h2 v=>?_⟩
    .rw[af,Nd,<-xw lt,BY];exact congrArg (fun z=>some (HO.lst z)) (show List.set _ l (oV (some (wN ns h (homes.getD l 0))))=_ from (List.map_set).symm)
    .rw[Af,Nd];constructor
     .intro z;by_cases d:ky h2 v=ky h (wN ns h (homes.getD l 0))
      .obtain⟨rfl,rfl⟩:=Hm d;exact⟨l,hG _ (cN.mpr rfl),es,rfl⟩
      .rw[ai d] at z;obtain⟨j,hj,a⟩:=(kk h2 v).mp z;exact⟨j,jP _ hj,a⟩
     .rintro⟨j,hj,a,b'⟩;by_cases d:ky h2 v=ky h (wN ns h (homes.getD l 0))
      .rw[ak d];rfl
      .rw[ai d];refine(kk h2 v).mpr ⟨j,?_,a,b'⟩;rcases dk.mp hj with z|z
       .exact z
       .rw[cN.mp z] at a b';rw[es] at a;cases a;exact absurd (by rw[b']) d
  .rintro σ H4 ⟨a8,x5,x6,rfl,s4,Dx,Lf,_⟩;rw[bb,fO,DV] at Lf;exact⟨_,rfl,GO,_,rfl,.inl ⟨a_.of Lf,fun t ht=>q t _ (s4.trans (aj ht)) af⟩⟩
end
abbrev Ho:Stmt:=fz 17
abbrev Nf:Stmt:=fz 20
theorem _root_.L2.d_.not{lp:Pos}{q:Str}{Pt:Addr}{H:Hp}(t:d_ lp q Pt H){b:Addr}{o:HO}(h:H b=some o)(n:∀ps,o≠.mO ps):b≠Pt:=by
 rintro rfl;rcases t with z|⟨c,z,_⟩ <;> · rw[h] at z;exact n _ (bA z)
theorem _root_.L2.d_.keep{lp:Pos}{q:Str}{Pt:Addr}{H H':Hp}(t:d_ lp q Pt H)(e:∀b o,H b=some o->(b=Pt\/∃p,o=.ext p)->H' b=some o):d_ lp q Pt H':=by
 rcases t with z|⟨c,z,y⟩
 .exact .inl (e _ _ z (.inl rfl))
 .exact .inr ⟨c,e _ _ z (.inl rfl),e _ _ y (.inr ⟨_,rfl⟩)⟩
def xx:Expr:=match (bz Nf).getD 0 (.Pass ⟨0,0,0,0⟩) with
 |.Return (some (.Call _ (_::_::_::k::_) _ _)) _=>k
 |_=>.Name "x" ⟨0,0,0,0⟩
def uc:Arguments:=match xx with
 |.Lambda a _ _ _=>a
 |_=>{ posonlyargs:=[],args:=[],vararg:=none,kwonlyargs:=[],kw_defaults:=[],kwarg:=none,defaults:=[] }
def ud:Expr:=match xx with
 |.Lambda _ b _ _=>b
 |e=>e
def Br:Scope:=match xx with
 |.Lambda _ _ s _=>s
 |_=>{ kind:=.function,names:=[],isGenerator:=false,isCoroutine:=false }
def DW:Pos:=match xx with
 |.Lambda _ _ _ p=>p
 |_=>⟨0,0,0,0⟩
def DX:Str:=("wait_run":Str)++".<locals>."++"<lambda>"
abbrev lP(Pt:Addr)(H:Hp):Prop:=d_ DW DX Pt H
abbrev We:List Str:=["here","beat","box","homes"]
theorem Hq:xj We 2 Br DX uc ud:=by
 refine⟨rfl,by decide +kernel,fun cz pm c ra us hl=>?_,by decide +kernel,fun i x hi hx=>?_,by decide +kernel,rfl,rfl⟩
 .match us,hl with
  |[_,_],_=>rfl
 .match i,hi,hx with
  |2,_,hx=>cases hx;rfl
  |3,_,hx=>cases hx;rfl
theorem qe{S:Addr->Prop}{h0:Heap}{H1 H:Hp}(n:∀a,S a->H1 a=none)(s:aE (gN S h0 H1) H):aE H1 (xh S H):=fun b o e=>by
 have c:¬ S b:=fun z=>by rw[n b z] at e;cases e
 rw[cY c];exact s b o (by rw[bo c];exact e)
theorem Bs{S:Addr->Prop}{h0:Heap}{H H':Hp}(n:∀a,S a->H a=some (gZ h0 a))(s:aE (xh S H) H'):aE H (gN S h0 H'):=fun b o e=>by
 by_cases c:S b
 .rw[kq c,<-e,n b c]
 .rw[bo c];exact s b o (by rw[cY c];exact e)
theorem rW{S:Addr->Prop}{h0:Heap}{H:Hp}{b:Addr}{o:HO}(n:∀a,S a->H a=some (gZ h0 a))(e:H b=some o)(x:∀p,o≠.ext p):xh S H b=some o:=by
 rw[cY fun z=>by rw[n b z] at e;exact x _ (bA e).symm];exact e
theorem Hr{st:List (Option Nat)}:v6 st=!(NV (jM st st.length)).isEmpty:=by
 rw[hX,DM];cases jM st st.length with
 |nil=>simp
 |cons a l=>simp
section
variable {P:Program} {w:World} {K:PySem.W.Frag} {mg:Str->Option Value} {base:Heap}
theorem Bt:aB ["homes","stand","most","handed","log"] ["homes","stand","most","handed"] (aq Ho):=⟨rfl,rfl,rfl,by decide +kernel,rfl,by decide +kernel,by decide +kernel⟩
def Bu(C CB:Addr):Sp:=fun vs H Q _=>∃ (L:Addr->Prop) (b ha sa f c:Addr) (ns homes:List Nat) (st:List (Option Nat)) (most:Nat) (cells:List (Str×Addr)) (h0:Heap) (H1:Hp),vs=[.ref ha,.ref sa,.int most,.ref f]/\H=gN (b8 cells) h0 H1/\(∀a,b8 cells a->H1 a=none)/\tY cells h0 H/\tZ cells h0 "box" (.ref b)/\tZ cells h0 "homes" (.ref ha)/\eI C CB H1 L b ns/\H1 ha=some (.tup (NV homes))/\H1 sa=some (.tup (st.map oV))/\Sg ns homes st/\most<=500/\H1 f=some (oz f DX uc ud Br cells c)/\H1 c=some (md c DX)/\
 ∀ (r:Addr) (N:Nat) (as:List Addr) (H':Hp),Rn ns homes st most N->aE H H'->H r=none->H' r=some (.lst (as.map V.ref))->Holds H' as N (fun k=>.tup ((rH ns homes st k).map oV))->Q (.ref r) H'
theorem Hs{f C CB:Addr}{fd:FuncData}(F:eh K "log_by" "log_by" Ho f fd)(B:Bl mg)(UW:bZ P w K mg base bg 1 "under_way" ["stand"] DQ)(SB:bZ P w K mg base bg 1 "stand_behind" ["homes","handing"] ub)(WH:bZ P w K mg base bg 8 "wait_hand" ["box","homes","stand"] (Bp C CB)):bi P w K mg base bg 10 f fd ["homes","stand","most","handed"] (Bu C CB):=by
 refine F.ok Bt (fun vs H Q E h=>?_) (fun cM A outer s H vs Q E hr h=>?_)
 .obtain⟨L,b,ha,sa,f',c,ns,homes,st,most,cells,h0,H1,rfl,_⟩:=h;rfl
 .obtain⟨L,b,ha,sa,f',c,ns,homes,st,most,cells,h0,H1,rfl,rfl,nS,LE,cb,ch,BA,hH,hS,SG,pk,hf,hc,q⟩:=h;have BX:=BA.bx;have h1:bO 1 _:=hr.mono (by decide);have inj:aE H1 (gN (b8 cells) h0 H1):=fun b o e=>by rw[bo fun z=>by rw[nS b z] at e;cases e];exact e
  refine⟨_,(ah (aN (i:=4) Bt.nd rfl (Or.inl rfl) (cR ag))
   (ah (n_ dw (PW.pt (u5 (aO og (aK aM (by rfl) B.len dE (aa (pv 4) ag)) (pv 2) (aT _)) (qR (zC (aA UW h1 aL (aa (pv 1) ag)) (fun _=>rfl))))) (ah (bL (eW eO eN eM bv (pv 4) (aa (DH (te:=om (Bp C CB) [] E0 (cK (bU 2) (cK (bU 3) (cK (bU 0) mq)))) (i:=3) hr rfl Hq (pv 3) (aa (pv 1) (aa (aK aM (by rfl) B.len dE (aa (pv 4) ag)) ag)) (fun f cz c s H=>aA WH (hr.deeper _) aL (aa (pv 2) (aa (pv 3) (aa (pv 0) ag))))) ag)))
    (ap (aN (i:=1) Bt.nd rfl (Or.inl rfl) (aA SB h1 aL (aa (pv 0) (aa (bq bt (pv 4) (pH lj av) (fun _ _=>rfl)) ag)))))))
   (ap (aJ (pv 4))))),?_⟩
  refine⟨by show 0<=sizeLine;decide,fun LG Ht=>?_⟩;have s0:=aj (o:=.lst []) Ht;refine⟨fun m σ H2=>∃ (k:Nat) (Lg:Addr) (as:List Addr),m=most-k/\σ=[some (.ref ha),some (.ref Lg),some (.int most),some (.ref f'),some (.ref LG)]/\aE (gN (b8 cells) h0 H1) H2/\H2 LG=some (.lst (as.map V.ref))/\Holds H2 as k (fun k=>.tup ((rH ns homes st k).map oV))/\H2 Lg=some (.tup ((stN ns homes st k).map oV))/\∀j,j<k->j<most/\v6 (stN ns homes st j)=true,⟨_,0,sa,[],rfl,rfl,s0,af,Holds.nil,s0 _ _ (inj _ _ hS),fun j hj=>absurd hj (gT _)⟩,?_⟩;rintro m σ H2 ⟨k,Lg,as,rfl,rfl,s2,PV,PX,Ng,al⟩;have Nh:=SG.stN BX.pos k;refine⟨_,rfl,LG,_,rfl,.inl (a_.of PV),_,rfl,_,_,rfl,rfl,_,rfl,?_⟩;rw[aI,PX.1];have stop:¬ (k<most/\v6 (stN ns homes st k)=true)->∀H3,aE H2 H3->Q (.ref LG) H3:=fun h H3 s3=>q LG k as H3 ⟨al,h⟩ (s2.trans s3) Ht (s3 _ _ PV) (PX.mono fun j _ e=>s3 _ _ e);refine iC (fun e=>?_) (fun e=>⟨_,rfl,stop (fun z=>e (bK (by have:=z.1;lia))) H2 (aE.refl _)⟩);have PY:k<most:=by have:=fm e;lia
  refine⟨_,rfl,Lg,stN ns homes st k,rfl,Ng,Nh.v5,fun r H3 s3 nr IX=>⟨v6 (stN ns homes st k),.inl ⟨_,a_.of IX,Hr⟩,?_⟩⟩;by_cases lv:v6 (stN ns homes st k)=true
  rotate_left
  .rw[nV] at lv;rw[lv];exact EZ ⟨_,rfl,stop (fun z=>by rw[lv] at z;cases z.2) H3 s3⟩
  rw[lv];refine AF ⟨_,fun σ' H' z=>z,?_⟩;have Bq:=s2.trans s3;have PZ:=s3 _ _ PV;have Wf:Holds H3 as k (fun k=>.tup ((rH ns homes st k).map oV)):=PX.mono fun j _ e=>s3 _ _ e;have nk:∀a,b8 cells a->H3 a=some (gZ h0 a):=fun a z=>Bq _ _ (kq z);have su:=qe nS Bq;refine⟨_,rfl,.inl ⟨rfl,_,a_.of PZ⟩,f',rfl,⟨cells,c,Bq _ _ (inj _ _ hf)⟩,_,rfl,_,rfl,LG,_,rfl,.inl (a_.of PZ),?_⟩;refine⟨cells,c,h0,[.ref b,.ref ha],Bq _ _ (inj _ _ hf),Bq _ _ (inj _ _ hc),rfl,rfl,LE.mono (fun a _ e=>Bq _ _ e),fun i x v h1 h2=>?_,?_⟩
  .match i,h1,h2 with
   |0,h1,h2=>cases h1;cases h2;exact cb
   |1,h1,h2=>cases h1;cases h2;exact ch
  refine⟨_,rfl,_,rfl,_,rfl,L,b,ha,Lg,ns,homes,_,rfl,BA.same su,su _ _ hH,rW nk (s3 _ _ Ng) (by intro p z;cases z),Nh,fun t H4 s4 ht n4=>?_⟩;have s5:=Bs nk s4;have Tl:gN (b8 cells) h0 H4 t=some (.tup ((rH ns homes st k).map oV)):=by rw[bo fun z=>by rw[n4 t z] at ht;cases ht];exact ht
  generalize gN (b8 cells) h0 H4=H5 at *;have Tn:=s5 _ _ PZ;have To:Holds H5 as k (fun k=>.tup ((rH ns homes st k).map oV)):=Wf.mono fun j _ e=>s5 _ _ e;have Wg:=Bq.trans s5;refine⟨LG,_,_,rfl,rfl,Tn,by rw[aI,To.1];exact bX (show k<501 by lia) (by decide),?_⟩;have Ms:∀ {b xs},H5 b=some (.tup xs)->b≠LG:=fun {b xs} e=>by rintro rfl;rw[Tn] at e;cases e
  have kp:∀ {b xs o},H5 b=some (.tup xs)->(upd H5 LG o) b=some (.tup xs):=fun {b xs o} e=>by rw[am (Ms e)];exact e
  have ET:Holds (upd H5 LG (.lst (as.map V.ref++[.ref t]))) (as++[t]) (k+1) (fun k=>.tup ((rH ns homes st k).map oV)):=(To.mono fun j _ e=>kp e).snoc (kp Tl);have Tp:aE (gN (b8 cells) h0 H1) (upd H5 LG (.lst (as.map V.ref++[.ref t]))):=aW Wg Ht;have Hn:=kp (o:=.lst (as.map V.ref++[.ref t])) Tl;have Tq:(upd H5 LG (.lst (as.map V.ref++[.ref t]))) LG=some (.lst ((as++[t]).map V.ref)):=by rw[af,cn];rfl
  generalize upd H5 LG _=H6 at *;refine⟨_,rfl,_,rfl,_,rfl,LG,_,_,_,rfl,rfl,a_.of Tq,by rw[cn];exact j4 _ _,ha,t,homes,_,rfl,Tp _ _ (inj _ _ hH),Hn,by rw[gO];exact SG.len,by rw[gO];exact SG.v5,fun t' H7 s7 P0=>?_⟩;refine⟨most-(k+1),by lia,k+1,t',as++[t],rfl,rfl,Tp.trans s7,s7 _ _ Tq,ET.mono fun j _ e=>s7 _ _ e,P0,fun j hj=>?_⟩;rcases nC.mp hj with z|z
  .exact al j z
  .rw[z];exact⟨PY,lv⟩
theorem P1:aB ["box","homes","stand","most"] ["box","homes","stand","most"] (aq Nf):=⟨rfl,rfl,rfl,by decide +kernel,rfl,by decide +kernel,by decide +kernel⟩
theorem eI.mj{C CB b Pw:Addr}{H H':Hp}{L:Addr->Prop}{ns:List Nat}{lp:Pos}{qq:Str}(h:eI C CB H L b ns)(nL:¬ L Pw)(t:d_ lp qq Pw H)(s:iN Pw H H'):eI C CB H' L b ns:=by
 obtain⟨dx,pn,sr,a,c,d⟩:=h.ob;obtain⟨Xo,tl,ol,ds,e,_⟩:=c.ob;exact⟨h.bx,dx,pn,sr,s _ _ a (t.not a (by intro ps z;cases z)),c.keep (fun b o lb e=>s _ _ e (by rintro rfl;exact nL lb)) (fun o e'=>s _ _ e' (t.not e (by intro ps z;cases z))),s _ _ d (t.not d (by intro ps z;cases z))⟩
def DY(C CB Pw:Addr):Sp:=fun vs H Q _=>∃ (L:Addr->Prop) (b ha sa:Addr) (ns homes:List Nat) (st:List (Option Nat)) (most:Nat),vs=[.ref b,.ref ha,.ref sa,.int most]/\eI C CB H L b ns/\¬ L Pw/\H ha=some (.tup (NV homes))/\H sa=some (.tup (st.map oV))/\Sg ns homes st/\most<=500/\lP Pw H/\
 ∀ (r:Addr) (N:Nat) (as:List Addr) (H':Hp),Rn ns homes st most N->lP Pw H'->iN Pw H H'->H r=none->H' r=some (.lst (as.map V.ref))->Holds H' as N (fun k=>.tup ((rH ns homes st k).map oV))->Q (.ref r) H'
theorem Lh{f c C CB Pw:Addr}{fd:FuncData}(F:sV K "wait_run" "wait_run" Nf f fd c)(kb:K.In base)(hb:pb mg base)(hc:PySem.W.codeHdIn K c Pw=true)(LB:bZ P w K mg base bg 10 "log_by" ["homes","stand","most","handed"] (Bu C CB)):bi P w K mg base bg 11 f fd ["box","homes","stand","most"] (DY C CB Pw):=by
 refine F.ok P1 (fun vs H Q E h=>?_) (fun A outer s H vs Q E hr h=>?_)
 .obtain⟨L,b,ha,sa,ns,homes,st,most,rfl,_⟩:=h;rfl
 .obtain⟨L,b,ha,sa,ns,homes,st,most,rfl,BA,nL,hH,hS,SG,pk,tb,q⟩:=h;refine⟨_,ap (aJ (DE LB hr rfl rfl (aa (pv 1) (aa (pv 2) (aa (pv 3) (aa (z_ (NB:=["here","beat","box","homes"]) (src:=[none,none,some 0,some 1]) (wK kb hb hc) (cA (by kernel_rfl))) ag)))))),?_⟩;refine⟨_,rfl,_,rfl,_,rfl,tb,fun f' c' H2 OW fK B_ xW nS h0 LE cv=>?_⟩;have t2:lP Pw H2:=OW;refine⟨L,b,ha,sa,f',c',ns,homes,st,most,_,h0,H2,rfl,rfl,nS,LE,cv 0 "box" _ rfl rfl rfl,cv 1 "homes" _ rfl rfl rfl,BA.mj nL tb fK,fK _ _ hH (tb.not hH (by intro ps z;cases z)),fK _ _ hS (tb.not hS (by intro ps z;cases z)),SG,pk,xW,B_,fun r N as H' RN s' nr wz si=>?_⟩;have nk:∀a,b8 _ a->H' a=some (gZ h0 a):=fun a z=>s' _ _ (kq z);have su:=qe nS s';refine⟨nk,q r N as _ RN (t2.keep fun b o e _=>su _ _ e) (fun b o e n=>su _ _ (fK b o e n)) ?_ (rW nk wz (by intro p z;cases z)) (si.mono fun j _ e=>rW nk e (by intro p z;cases z))⟩;have Ni:H2 r=none:=by
   cases z:H2 r with
   |none=>rfl
   |some o=>
    have:¬ b8 _ r:=fun y=>by rw[nS r y] at z;cases z
    rw[bo this,z] at nr;cases nr
  cases z:H r with
  |none=>rfl
  |some o=>
   by_cases hP:r=Pw
   .rcases t2 with y|⟨_,y,_⟩ <;> · rw[<-hP,Ni] at y;cases y
   .rw[fK r o z hP] at Ni;cases Ni
end
end ph
namespace L2
open PySem PySem.Spec PyProof.Rows
def DZ:V->List V->Hp->VK->Prop:=fun x vs H Q=>∃ (l:Addr) (xs:List V) (y:V),x=.ref l/\vs=[y]/\H l=some (.tup xs)/\dJ y=true/\xs.all dJ=true/\Q (.int (xs.countP fun z=>kJ z y)) H
theorem yK{X:Cx}:RS X "tuple.count" DZ:=by
 intro ae s σ H x vs v us Q I rx rv h;obtain⟨l,xs,y,rfl,rfl,hH,fy,fs,q⟩:=h;cases rx;obtain⟨u,rfl,ru⟩:=rv.one;obtain⟨its,r,⟨o,e,hc,n,d⟩,_⟩:=I.tuple (be.of hH);obtain⟨oc,od,Wi,qV⟩:=o;obtain rfl:oc=.type "tuple":=hc;obtain rfl:Wi=.seq its.toArray n:=d;refine call_meets F.slot_tuple_count ⟨_,e,rfl⟩ F.entry_tuple_count (F.args_tuple_count_2 _ _) (SeqAt.tuple_countAt l its.toArray n od qV u (xK y)) ⟨e,fun w hw=>j5 ru fy r fs w (by simpa using hw),?_⟩;refine⟨.int _,H,I.tok _,⟨s.toks,?_⟩,q⟩;rw[show its.toArray.toList=its by simp,oA r fs]
def P3(r:V->List V->Hp->VK->Prop)(to:TE)(t:TA):TE:=fun σ H Q=>to σ H fun x H1=>(∃p xs,x=.ref p/\H1 p=some (.tup xs))/\t σ H1 fun xs H2=>r x xs H2 Q
theorem Hu{X:Cx}{o e:Expr}{es:List Expr}{to:TE}{t:TA}{name:Str}{mr fV:Pos}{id:String}{r:V->List V->Hp->VK->Prop}(pa:PlainAttrs "tuple")(slot:Slot "tuple" name id)(NU:typeOf (.builtin id)=pure (.type "method_descriptor"))(hm:RO X id r)(ho:PE X o to)(ha:PA X (e::es) t)(zL:attributeBase o name X.env (eval o X.env)=eval o X.env:=by rfl)(FT:((backTo fV (starEach (e::es) X.env)).all (fun x=>!x.1)&&(backToKw fV (keywordEach [] X.env)).all (fun x=>x.1.isSome)
   && decide ((e::es).length+([]:List Keyword).length+(if ([]:List Keyword).isEmpty then 0 else 1)<30))=true:=by rfl)(zM:(mr.endLine==fV.line)=true:=by rfl)(hs:starEach (e::es) X.env=(false,eval e X.env)::starEach es X.env:=by rfl)(oo:(backTo fV (starEach es X.env)).any (·.1)=false:=by rfl):
  PE X (.Call (.Attribute o name mr) (e::es) [] fV) (P3 r to t):=by
 intro ae s σ H Q I h;refine wpAny_Call_method_late zL FT zM rfl (bS (ho ae s σ H _ I h) fun v s1 ⟨x,H1,I1,r1,ty,q1⟩=>?_);obtain⟨p,xs,rfl,hp⟩:=ty;cases r1;obtain⟨_,_,_,ob,e1,e2,_,_,e3⟩:=(show bG X.prog X.w H1 s1.heap p (.tup xs) from I1.bp p _ hp)
 refine⟨"tuple",id,pa,slot,NU,⟨ob,e1,e2⟩,fun a z=>by cases z;exact⟨ob,e1,e3⟩,?_⟩;have hA:=ha fV ae s1 σ H1 _ I1 q1;rw[hs] at hA |-;refine Calls.callWith_builtin (by show (false||(backTo fV (starEach es X.env)).any (·.1))=false;rw[oo] <;> rfl) (uP ?_);exact bS hA fun us s2 ⟨vs,H2,I2,r2,q2⟩=>hm ae s2 σ H2 (.ref p) vs (.ref p) us Q I2 rfl r2 q2
end L2
namespace ph
open PySem L2 f9
abbrev P6:Stmt:=fz 58
abbrev P7:Stmt:=fz 45
abbrev P8:Stmt:=fz 46
abbrev P9:Stmt:=fz 47
abbrev P_:Stmt:=fz 48
abbrev Qa:Stmt:=fz 60
theorem lQ:(["handing","homes"]:List Str).Nodup:=by decide +kernel
theorem fh:(["beat","stands","log","letter"]:List Str).Nodup:=by decide +kernel
theorem fj:(["beat","log","letter","stands"]:List Str).Nodup:=by decide +kernel
theorem dA:(["_law_stand","_law_handing","_law_letter"]:List Str).Nodup:=by decide +kernel
theorem ml:(["_law_beat","_law_row"]:List Str).Nodup:=by decide +kernel
theorem D1{β:Type}{K:PySem.W.Frag}{a D:Addr}{g:TG}{tt:TT}{te:TE}{dB:Hp->Prop}{σB:St}{H0:Hp}(ms:List β)(e:β->V)(c:β->Bool)(G:β->V)(eG:St->Prop)(ha:H0 a=some (.lst (ms.map e)))(hD:H0 D=none)(hn:ms.length<=1000)(h0:eG σB)(hs:∀m σ H (Kt:V->St->Hp->Prop) (Kf:St->Hp->Prop),m∈ms->eG σ->aE H0 H->(∀σ2 H2,eG σ2->aE H H2->c m=true->Kt (G m) σ2 H2)->(∀σ2 H2,eG σ2->aE H H2->c m=false->Kf σ2 H2)->
   g (e m) σ H fun σ2 H2=>tt σ2 H2 fun b H3=>if b=true then te σ2 H3 fun v H4=>Kt v σ2 H4 else Kf σ2 H3)(hd:∀H,aE H0 H->H D=some (.lst ((ms.filter c).map G))->dB H):fY (Cf K a) g tt te D dB σB (upd H0 D (.lst [])):=by
 refine dW (xs:=ms.map e) (fun i ys σ H=>eG σ/\aE H0 H/\H D=some (.lst ys)/\ys=((ms.take i).filter c).map G) ⟨h0,aj hD,af,rfl⟩ (fun i ys σ H _ z=>a_.of (z.2.1 _ _ ha)) ?_ ?_
 .rintro i x ys σ H Kt Kf hx ⟨sh,sm,uk,rfl⟩ kt kf;rw[bh] at hx;obtain⟨y,hy,rfl⟩:=Option.map_eq_some_iff.mp hx;have tk:ms.take (i+1)=ms.take i++[y]:=by rw[d7,hy];rfl
  refine hs y σ H Kt Kf (cC hy) sh sm (fun σ2 H2 Df s2 e=>?_) (fun σ2 H2 Df s2 e=>?_)
  .refine kt _ _ _ (s2 _ _ uk) ?_ ⟨Df,aW (sm.trans s2) hD,af,?_⟩
   .rw[aI];exact cZ (bn (jO _ _) (uz _ _)) (cZ hn (by decide))
   .rw[tk,i7,cn,fq,e];rfl
  .refine kf _ _ ⟨Df,sm.trans s2,s2 _ _ uk,?_⟩;rw[tk,i7,fq,e];simp
 .rintro ys σ H ⟨_,sm,uk,rfl⟩;rw[aI,fO] at uk;exact hd H sm uk
theorem D5{lo:Int}{n:Nat}{D:Addr}{g:TG}{tt:TT}{te:TE}{dB:Hp->Prop}{σB:St}{H0:Hp}(c:Nat->Bool)(eG:St->Prop)(hD:H0 D=none)(hn:n<=1000)(h0:eG σB)(hs:∀x σ H (Kt:V->St->Hp->Prop) (Kf:St->Hp->Prop),x<n->eG σ->aE H0 H->(∀σ2 H2,eG σ2->aE H H2->c x=true->Kt (.int (lo+(x:Nat))) σ2 H2)->(∀σ2 H2,eG σ2->aE H H2->c x=false->Kf σ2 H2)->
   g (.int (lo+(x:Nat))) σ H fun σ2 H2=>tt σ2 H2 fun b H3=>if b=true then te σ2 H3 fun v H4=>Kt v σ2 H4 else Kf σ2 H3)(hd:∀H,aE H0 H->H D=some (.lst (((List.range n).filter c).map fun (x:Nat)=>V.int (lo+(x:Int))))->dB H):fY (Ex lo n) g tt te D dB σB (upd H0 D (.lst [])):=by
 refine jD (fun i ys σ H=>eG σ/\aE H0 H/\H D=some (.lst ys)/\ys=((List.range i).filter c).map fun (x:Nat)=>V.int (lo+(x:Int))) ⟨h0,aj hD,af,rfl⟩ ?_ ?_
 .rintro i ys σ H Kt Kf hi ⟨sh,sm,uk,rfl⟩ kt kf;refine hs i σ H Kt Kf hi sh sm (fun σ2 H2 Df s2 e=>?_) (fun σ2 H2 Df s2 e=>?_)
  .refine kt _ _ _ (s2 _ _ uk) ?_ ⟨Df,aW (sm.trans s2) hD,af,?_⟩
   .rw[aI];refine cZ (jO _ _) ?_;rw[fN];exact bX (show i<1000 by lia) (by decide)
   .rw[h_,i7,cn];simp[fq,e]
  .refine kf _ _ ⟨Df,sm.trans s2,s2 _ _ uk,?_⟩;rw[h_,i7];simp[fq,e]
 .rintro ys σ H ⟨_,sm,uk,rfl⟩;exact hd H sm uk
def b9(H:Hp)(a:Addr)(as:List Addr)(N:Nat)(o:Nat->List (Option Nat)):Prop:=H a=some (.lst (as.map V.ref))/\Holds H as N (fun k=>.tup ((o k).map oV))
theorem b9.same{H H':Hp}{a:Addr}{as:List Addr}{N:Nat}{o:Nat->List (Option Nat)}(h:b9 H a as N o)(s:aE H H'):b9 H' a as N o:=⟨s _ _ h.1,h.2.mono fun j _ e=>s _ _ e⟩
theorem Hv{as:List Addr}{k:Nat}(h:k<as.length):sD (as.map V.ref) (k:Int)=some (.ref (as.getD k 0)):=by
 refine aY ?_;rw[bh,bC h,bE,bC h];rfl
theorem D6{as:List Addr}{k:Nat}(h:as.length=k+1):sD (as.map V.ref) (-1)=some (.ref (as.getD k 0)):=by
 rcases List.eq_nil_or_concat as with rfl|⟨l,x,rfl⟩
 .cases h
 .rw[List.concat_eq_append] at h |-;rw[fk] at h;rw[pX (n:=k) (ik h),ak rfl,cn];exact j4 _ _
theorem b9.at{H:Hp}{a:Addr}{as:List Addr}{N:Nat}{o:Nat->List (Option Nat)}(h:b9 H a as N o){k:Nat}(hk:k<N):sD (as.map V.ref) (k:Int)=some (.ref (as.getD k 0)):=Hv (by rw[h.2.1];exact hk)
theorem b9.put{H:Hp}{a b:Addr}{as:List Addr}{N:Nat}{o:Nat->List (Option Nat)}{xs:List V}{u:HO}(h:b9 H a as N o)(hb:H b=some (.lst xs))(n:a≠b):b9 (upd H b u) a as N o:=⟨by rw[am n];exact h.1,h.2.mono fun j _ e=>by rw[am (by rintro rfl;rw[hb] at e;cases e)];exact e⟩
theorem b9.snoc{H:Hp}{a t:Addr}{as:List Addr}{N:Nat}{o:Nat->List (Option Nat)}(h:b9 H a as N o)(ht:H t=some (.tup ((o N).map oV))):b9 (upd H a (.lst (as.map V.ref++[.ref t]))) a (as++[t]) (N+1) o:=by
 have kp:∀ {b xs u},H b=some (.tup xs)->(upd H a u) b=some (.tup xs):=fun {b xs u} e=>by rw[am (by rintro rfl;rw[h.1] at e;cases e)];exact e
 exact⟨by rw[af,cn];rfl,(h.2.mono fun j _ e=>kp e).snoc (kp ht)⟩
theorem yL{st:List (Option Nat)}:v6 st=decide (((st.map oV).countP fun z=>kJ z .bD)<st.length):=by
 have e:((st.map oV).countP fun z=>kJ z .bD)=st.countP fun o=>!o.isSome:=by
  rw[List.countP_map];refine List.countP_congr fun o _=>?_;cases o with
  |none=>simp[oV,kJ]
  |some x=>simp[oV,kJ]
 have f:st.length=(st.countP Option.isSome)+st.countP fun o=>!o.isSome:=by
  rw[List.length_eq_countP_add_countP Option.isSome];congr 1;exact List.countP_congr fun o _=>by simp
 rw[e,hX,kO];unfold v6;rw[qx,<-List.countP_pos_iff];lia
theorem D7{st:List (Option Nat)}:(st.map oV).all dJ=true:=hV.mpr fun x hx=>by
 obtain⟨o,_,rfl⟩:=bQ.mp hx;cases o <;> rfl
def Qb(ss ls:Nat->List (Option Nat))(N l:Nat):List Nat:=(List.range N).filter fun k=>((ss k).getD l none).isSome&&decide ((ss k).getD l none=(ls k).getD l none)
section
variable {P:Program} {w:World} {K:PySem.W.Frag} {mg:Str->Option Value} {base:Heap}
theorem Li:aB ["_law_sides_here","_law_homes","_law_stand","_law_most","_law_log_here","_law_stands"] ["_law_sides_here","_law_homes","_law_stand","_law_most"] (aq P6):=⟨rfl,rfl,rfl,by decide +kernel,rfl,by decide +kernel,by decide +kernel⟩
def Hw:Sp:=fun vs H Q _=>∃ (a ha sa:Addr) (ns homes:List Nat) (st:List (Option Nat)) (most:Nat),vs=[.ref a,.ref ha,.ref sa,.int most]/\H a=some (.tup (NV ns))/\H ha=some (.tup (NV homes))/\H sa=some (.tup (st.map oV))/\Bx ns/\Sg ns homes st/\most<=500/\
 ∀ (t LG SD:Addr) (N:Nat) (as bs:List Addr) (H':Hp),Rn ns homes st most N->aE H H'->H LG=none->H SD=none->LG≠SD->H' t=some (.tup [.ref LG,.ref SD])->b9 H' LG as N (rH ns homes st)->b9 H' SD bs (N+1) (stN ns homes st)->Q (.ref t) H'
theorem Lj{f:Addr}{fd:FuncData}(F:eh K "_law_log" "_law_log" P6 f fd)(B:Bl mg)(HD:bZ P w K mg base bg 2 "_law_hand" ["_law_sides_here","_law_homes","_law_stand"] DS)(LB:bZ P w K mg base bg 1 "_law_behind" ["_law_homes","_law_handing"] ub):bi P w K mg base bg 3 f fd ["_law_sides_here","_law_homes","_law_stand","_law_most"] Hw:=by
 refine F.ok Li (fun vs H Q E h=>?_) (fun cM A outer s H vs Q E hr h=>?_)
 .obtain⟨a,ha,sa,ns,homes,st,most,rfl,_⟩:=h;rfl
 .obtain⟨a,ha,sa,ns,homes,st,most,rfl,hA,hH,hS,BX,SG,pk,q⟩:=h;have h1:bO 1 _:=hr.mono (by decide);refine⟨_,(ah (qS (i:=4) (j:=5) rfl Li.nd rfl rfl (by decide) rfl rfl (aa (cR ag) (aa (cR (aa (pv 2) ag)) ag)) (by rfl))
   (ah (n_ dw (PW.pt (u5 (aO og (aK aM (by rfl) B.len dE (aa (pv 4) ag)) (pv 3) (aT _)) (qR (aO og (Hu PySem.F.plainAttrs_tuple PySem.F.slot_tuple_count PySem.F.type_tuple_count yK (bq bt (pv 5) (pH lj av) (fun _ _=>rfl)) (aa cP ag)) (aK aM (by rfl) B.len dE (aa (pv 2) ag)) (aT _))))) (ah (bL (eW eO eN eM bv (pv 4) (aa (aA HD hr aL (aa (pv 0) (aa (pv 1) (aa (bq bt (pv 5) (pH lj av) (fun _ _=>rfl)) ag)))) ag)))
    (ap (bL (eW eO eN eM bv (pv 5) (aa (aA LB h1 aL (aa (pv 1) (aa (bq bt (pv 4) (pH lj av) (fun _ _=>rfl)) ag))) ag))))))
   (ap (aJ (dt (aa (pv 4) (aa (pv 5) ag))))))),?_⟩
  refine⟨by show 0<=sizeLine;decide,fun LG Ht=>⟨_,rfl,by show 1<=sizeLine;decide,fun SD Qc=>⟨_,_,rfl,?_⟩⟩⟩;have s0:=(aj (o:=.lst []) Ht)
  have s1:=s0.trans (aj (o:=.lst [.ref sa]) Qc);have Qd:H SD=none:=s0.free Qc;have ne:LG≠SD:=ao af Qc;refine⟨fun m σ H2=>∃ (k:Nat) (as bs:List Addr),m=most-k/\σ=[some (.ref a),some (.ref ha),some (.ref sa),some (.int most),some (.ref LG),some (.ref SD)]/\aE H H2/\b9 H2 LG as k (rH ns homes st)/\b9 H2 SD bs (k+1) (stN ns homes st)/\∀j,j<k->j<most/\v6 (stN ns homes st j)=true,⟨_,0,[],[sa],rfl,rfl,s1,⟨by rw[am ne];exact af,Holds.nil⟩,⟨af,⟨rfl,fun j hj=>?_⟩⟩,fun j hj=>absurd hj (gT _)⟩,?_⟩
  .obtain rfl:j=0:=by lia
   exact s1 _ _ hS
  rintro m σ H2 ⟨k,as,bs,rfl,rfl,s2,rl,rs,al⟩;have Nh:=SG.stN BX.pos k;have bl:bs.length=k+1:=rs.2.1;have Fg:sD (bs.map V.ref) (-1)=some (.ref (bs.getD k 0)):=D6 bl;refine⟨_,rfl,LG,_,rfl,.inl (a_.of rl.1),_,rfl,_,_,rfl,rfl,_,rfl,?_⟩;rw[aI,rl.2.1];have stop:¬ (k<most/\v6 (stN ns homes st k)=true)->Jl (Cp (cK (bU 4) (cK (bU 5) mq))) { nx:=fun _ H'=>Q .bD H',rt:=Q } [some (.ref a),some (.ref ha),some (.ref sa),some (.int most),some (.ref LG),some (.ref SD)] H2:=fun h=>⟨_,rfl,_,rfl,by show 2<=sizeLine;decide,fun t ht=>q t LG SD k as bs _ ⟨al,h⟩ (s2.trans (aj ht)) Ht Qd ne af (rl.same (aj ht)) (rs.same (aj ht))⟩
  refine iC (fun e=>?_) (fun e=>stop fun z=>e (bK (by have:=z.1;lia)));have PY:k<most:=by have:=fm e;lia
  have IY:=rs.2.2 k (jR _);refine⟨_,rfl,_,rfl,SD,_,_,_,rfl,rfl,a_.of rs.1,Fg,⟨_,_,rfl,IY⟩,bs.getD k 0,_,.bD,rfl,rfl,IY,rfl,D7,?_⟩;refine⟨_,rfl,sa,_,rfl,.inr (be.of (s2 _ _ hS)),_,_,rfl,rfl,_,rfl,?_⟩;have lc:decide (((((stN ns homes st k).map oV).countP fun z=>kJ z .bD:Nat):Int)<(((st.map oV).length:Nat):Int))=v6 (stN ns homes st k):=by
   rw[yL,aI,ng,decide_eq_decide];lia
  change if decide (((((stN ns homes st k).map oV).countP fun z=>kJ z .bD:Nat):Int)<(((st.map oV).length:Nat):Int))=true then _ else _
  rw[lc];refine iC (fun lv=>?_) (fun lv=>stop fun z=>lv z.2);refine⟨_,fun σ' H' z=>z,?_⟩;refine⟨_,rfl,.inl ⟨rfl,_,a_.of rl.1⟩,_,rfl,_,rfl,_,rfl,_,rfl,SD,_,_,_,rfl,rfl,a_.of rs.1,Fg,a,ha,bs.getD k 0,ns,homes,stN ns homes st k,rfl,s2 _ _ hA,s2 _ _ hH,IY,BX,Nh,fun t H3 s3 ht=>?_⟩;have Lk:=rl.same s3;have Wj:=rs.same s3;have Bq:=s2.trans s3;refine⟨LG,_,_,rfl,rfl,Lk.1,by rw[aI,Lk.2.1];exact bX (show k<501 by lia) (by decide),?_⟩;have Tr:=Lk.snoc ht;have IZ:b9 (upd H3 LG (.lst (as.map V.ref++[.ref t]))) SD bs (k+1) (stN ns homes st):=Wj.put Lk.1 ne.symm;have s4:aE H (upd H3 LG (.lst (as.map V.ref++[.ref t]))):=aW Bq Ht;have Qe:(upd H3 LG (.lst (as.map V.ref++[.ref t]))) t=some (.tup ((rH ns homes st k).map oV)):=by rw[am (by rintro rfl;rw[Lk.1] at ht;cases ht)];exact ht
  generalize upd H3 LG _=H4 at *;refine⟨_,rfl,.inl ⟨rfl,_,a_.of IZ.1⟩,_,rfl,_,rfl,_,rfl,LG,_,_,_,rfl,rfl,a_.of Tr.1,by rw[cn];exact j4 _ _,ha,t,homes,_,rfl,s4 _ _ hH,Qe,by rw[gO];exact SG.len,by rw[gO];exact SG.v5,fun t' H5 s5 P0=>?_⟩;have Wk:=Tr.same s5;have Qf:=IZ.same s5;refine⟨SD,_,_,rfl,rfl,Qf.1,by rw[aI,bl];exact bX (show k+1<502 by lia) (by decide),?_⟩;refine⟨most-(k+1),by lia,k+1,as++[t],bs++[t'],rfl,rfl,aW (s4.trans s5) Qd,Wk.put Qf.1 ne,Qf.snoc P0,fun j hj=>?_⟩;rcases nC.mp hj with z|z
  .exact al j z
  .rw[z];exact⟨PY,lv⟩
theorem Qg:aB ["homes","stand","log"] ["homes","stand","log"] (aq P7):=⟨rfl,rfl,rfl,by decide +kernel,rfl,by decide +kernel,by decide +kernel⟩
def Hy(K:PySem.W.Frag):Sp:=fun vs H Q _=>∃ (ha sa LA:Addr) (ns homes:List Nat) (st:List (Option Nat)) (N:Nat) (as:List Addr),vs=[.ref ha,.ref sa,.ref LA]/\H ha=some (.tup (NV homes))/\H sa=some (.tup (st.map oV))/\Sg ns homes st/\N<=500/\b9 H LA as N (rH ns homes st)/\∀ (r:Addr) (bs:List Addr) (H':Hp),aE H H'->H r=none->b9 H' r bs (N+1) (stN ns homes st)->Q (.ref r) H'
theorem Ll{f:Addr}{fd:FuncData}(F:eh K "stands_of" "stands_of" P7 f fd)(SB:bZ P w K mg base bg 1 "stand_behind" ["homes","handing"] ub):bi P w K mg base bg 2 f fd ["homes","stand","log"] (Hy K):=by
 refine F.ok Qg (fun vs H Q E h=>?_) (fun cM A outer s H vs Q E hr h=>?_)
 .obtain⟨ha,sa,LA,ns,homes,st,N,as,rfl,_⟩:=h;rfl
 .obtain⟨ha,sa,LA,ns,homes,st,N,as,rfl,hH,hS,SG,lR,rl,q⟩:=h;have h1:bO 1 _:=hr;refine'⟨_,(ap (aJ (aX FU (cR (aa (pv 1) ag)) ?c1))),?_⟩;case c1=>
   refine' cL (g:=(bR 0)) (te:=(om ub [] E0 (cK (bU 1) (cK (bU 0) mq)))) (NB:=["handing","homes"]) (src:=[none,some 0]) (cA (by kernel_rfl)) rfl (cX (pv 2)) ?g ?t ?e;case g=>exact fun cl C s₃ H₃ fp=>(az (i:=0) lQ rfl (Or.inl rfl) (Or.inr rfl))
   case t=>exact fun cl C s₃ H₃ fp=>dZ
   case e=>exact fun cl C s₃ H₃ fp=>(aA SB h1 aL (aa (pv 1) (aa (pv 0) ag)))
  refine⟨_,rfl,by show 1<=sizeLine;decide,fun L1 Wl=>?_⟩;have s1:=aj (o:=.lst [.ref sa]) Wl;have Qh:=rl.same s1;refine⟨_,rfl,LA,rfl,⟨_,a_.of Qh.1⟩,fun D hD=>?_⟩;refine dW (xs:=as.map V.ref) (fun i ys σ H2=>(∃x,σ=[x,some (.ref ha)])/\aE (upd H L1 (.lst [.ref sa])) H2/\∃ts:List Addr,ys=ts.map V.ref/\H2 D=some (.lst ys)/\Holds H2 ts i (fun k=>.tup ((stN ns homes st (k+1)).map oV))) ⟨⟨_,rfl⟩,aj hD,[],rfl,af,Holds.nil⟩ (fun i ys σ H2 _ z=>a_.of (Qh.same z.2.1).1) ?_ ?_
  .rintro i x ys σ H2 Kt Kf hx ⟨⟨x0,rfl⟩,s2,ts,rfl,mC,ho⟩ kt kf;have hi:i<as.length:=by have:=(di.mp hx).1;rwa [aI] at this
   rw[bh,bC hi] at hx;obtain rfl:=bA hx;have Hz:=Qh.same s2;have hk:=Hz.2.2 i (by rw[<-Hz.2.1];exact hi);rw[bE,bC hi] at hk;refine⟨_,rfl,_,rfl,ha,as[i],homes,_,rfl,s2 _ _ (s1 _ _ hH),hk,by rw[gO];exact SG.len,by rw[gO];exact SG.v5,fun t H3 s3 ht=>?_⟩;have pj:=s3 _ _ mC;have kp:∀ {b xs u},H3 b=some (.tup xs)->(upd H3 D u) b=some (.tup xs):=fun {b xs u} e=>by rw[am (by rintro rfl;rw[pj] at e;cases e)];exact e
   refine kt _ _ _ pj (by rw[aI,ho.1];exact bX (show i<501 by have:=rl.2.1;lia) (by decide)) ⟨⟨_,rfl⟩,aW (s2.trans s3) hD,ts++[t],by rw[cn];rfl,af,(ho.mono fun j _ e=>kp (s3 _ _ e)).snoc (kp ht)⟩
  .rintro ys σ H2 ⟨_,s2,ts,rfl,mC,ho⟩;rw[aI,rl.2.1] at ho;refine⟨L1,D,_,_,rfl,rfl,s2 _ _ af,mC,?_,fun p hp=>?_⟩
   .rw[aI,ho.1];exact bn (show 1+N<=501 by lia) (by decide)
   have s3:=s2.trans (aj (o:=.lst ([.ref sa]++ts.map V.ref)) hp);refine q p (sa::ts) _ (s1.trans s3) ((s1.trans s2).free hp) ⟨af,by rw[c_,ho.1],fun j hj=>?_⟩;cases j with
   |zero=>exact s3 _ _ (s1 _ _ hS)
   |succ j=>exact aj hp _ _ (ho.2 j (qi hj))
theorem Qi:aB ["stands","log","letter","beat"] ["stands","log","letter","beat"] (aq P8):=⟨rfl,rfl,rfl,by decide +kernel,rfl,by decide +kernel,by decide +kernel⟩
structure Fh(H:Hp)(SA LA:Addr)(kL lS:List Addr)(n N:Nat)(ss ls:Nat->List (Option Nat)):Prop where
 rs:b9 H SA kL (N+1) ss
 rl:b9 H LA lS N ls
 sl:∀k,(ss k).length=n
 ll:∀k,(ls k).length=n
 lR:N<=500
theorem Fh.same{H H':Hp}{SA LA:Addr}{kL lS:List Addr}{n N:Nat}{ss ls:Nat->List (Option Nat)}(h:Fh H SA LA kL lS n N ss ls)(s:aE H H'):Fh H' SA LA kL lS n N ss ls:=⟨h.rs.same s,h.rl.same s,h.sl,h.ll,h.lR⟩
def D8(K:PySem.W.Frag):Sp:=fun vs H Q _=>∃ (SA LA:Addr) (kL lS:List Addr) (n N:Nat) (ss ls:Nat->List (Option Nat)) (l k:Nat),vs=[.ref SA,.ref LA,.int l,.int k]/\Fh H SA LA kL lS n N ss ls/\l<n/\k<N/\Q (.bl ((ss k).getD l none).isSome) H
theorem Lm{f:Addr}{fd:FuncData}(F:eh K "is_handed_on" "is_handed_on" P8 f fd)(B:Bl mg)(W:bZ P w K mg base bg 2 "is_whole_within" ["thing","least","most"] (f_ K)):bi P w K mg base bg 3 f fd ["stands","log","letter","beat"] (D8 K):=by
 refine F.ok Qi (fun vs H Q E h=>?_) (fun cM A outer s H vs Q E hr h=>?_)
 .obtain⟨SA,LA,kL,lS,n,N,ss,ls,l,k,rfl,_⟩:=h;rfl
 .obtain⟨SA,LA,kL,lS,n,N,ss,ls,l,k,rfl,pq,hl,hk,q⟩:=h;have rs:=pq.rs;have rl:=pq.rl;have IY:=rs.2.2 k (by lia);have a1:=rs.at (k:=k) (by lia);refine⟨_,(ah (bJ (dG (dg (aA W hr aL (aa (pv 3) (aa av (aa (aX lf (aK aM (by rfl) B.len dE (aa (pv 1) ag)) av) ag)))))) (ap (aJ iz)) aQ)
   (ap (aJ (jx (aA W hr aL (aa (pv 2) (aa av (aa (aX lf (aK aM (by rfl) B.len dE (aa (bq bt (pv 0) (pv 3) (fun _ _=>rfl)) ag)) av) ag)))) (k8 (gs mR (bq cS (bq bt (pv 0) (pv 3) (fun _ _=>rfl)) (pv 2) (fun _ _=>rfl)) cP (aT _))))))),?_⟩
  refine⟨_,rfl,_,rfl,LA,_,rfl,.inl (a_.of rl.1),_,_,rfl,rfl,_,some (k:Int),_,_,rfl,.int _,_,rfl,e_ (by rw[aI,rl.2.1,eK hk];rfl) ?_⟩;refine⟨_,rfl,_,rfl,_,rfl,SA,_,_,_,rfl,rfl,a_.of rs.1,a1,_,_,rfl,.inr (be.of IY),_,_,rfl,rfl,_,some (l:Int),_,_,rfl,.int _,true,by rw[aI,pq.sl,eK hl],?_⟩;refine AF ⟨_,rfl,_,rfl,SA,_,_,_,rfl,rfl,a_.of rs.1,a1,_,rfl,_,_,_,_,rfl,rfl,be.of IY,aY (mi (by rw[pq.sl];exact hl)),rfl,?_⟩;show Q (V.bl (!decide (oV ((ss k).getD l none)=V.bD))) H;rw[ni];exact q
theorem Qj:aB ["stands","log","letter"] ["stands","log","letter"] (aq P9):=⟨rfl,rfl,rfl,by decide +kernel,rfl,by decide +kernel,by decide +kernel⟩
def HA:Sp:=fun vs H Q _=>∃ (SA LA:Addr) (kL lS:List Addr) (n N:Nat) (ss ls:Nat->List (Option Nat)) (l:Nat),vs=[.ref SA,.ref LA,.int l]/\Fh H SA LA kL lS n N ss ls/\l<n/\∀r H',aE H H'->H' r=some (.lst (NV ((List.range N).filter fun k=>((ss k).getD l none).isSome)))->Q (.ref r) H'
theorem Ln{f:Addr}{fd:FuncData}(F:eh K "beats_under_way" "beats_under_way" P9 f fd)(B:Bl mg)(HO:bZ P w K mg base bg 3 "is_handed_on" ["stands","log","letter","beat"] (D8 K)):bi P w K mg base bg 4 f fd ["stands","log","letter"] HA:=by
 refine F.ok Qj (fun vs H Q E h=>?_) (fun cM A outer s H vs Q E hr h=>?_)
 .obtain⟨SA,LA,kL,lS,n,N,ss,ls,l,rfl,_⟩:=h;rfl
 .obtain⟨SA,LA,kL,lS,n,N,ss,ls,l,rfl,pq,hl,q⟩:=h;have rl:=pq.rl;have lR:=pq.lR;refine'⟨_,(ap (aJ ?c1)),?_⟩;case c1=>
   refine' cL (g:=(bR 0)) (tt:=(tB (om (D8 K) [] E0 (cK (bU 1) (cK (bU 2) (cK (bU 3) (cK (bU 0) mq))))))) (te:=(bU 0)) (NB:=["beat","stands","log","letter"]) (src:=[none,some 0,some 1,some 2]) (cA (by kernel_rfl)) rfl (cq rfl B.range (aa (aK aM (by rfl) B.len dE (aa (pv 1) ag)) ag)) ?g ?t ?e;case g=>exact fun cl C s₃ H₃ fp=>(az (i:=0) fh rfl (Or.inl rfl) (Or.inr rfl))
   case t=>exact fun cl C s₃ H₃ fp=>gx (dg (aA HO hr aL (aa (pv 1) (aa (pv 2) (aa (pv 3) (aa (pv 0) ag))))))
   case e=>exact fun cl C s₃ H₃ fp=>(pv 0)
  refine⟨_,rfl,LA,_,rfl,.inl (a_.of rl.1),_,rfl,by lia,by rw[aI,rl.2.1];lia,fun D hD=>?_⟩;rw[aI,rl.2.1,nK];refine D5 (lo:=0) (n:=N) (fun k=>((ss k).getD l none).isSome) (fun σ=>∃b,σ=[b,some (.ref SA),some (.ref LA),some (.int (l:Int))]) hD (by lia) ⟨_,rfl⟩ ?_ ?_
  .rintro j σ H5 Kt Kf hj ⟨b',rfl⟩ s5 kt kf;rw[fS] at kt |-;refine⟨_,rfl,_,rfl,_,rfl,_,rfl,SA,LA,kL,lS,n,N,ss,ls,l,j,rfl,pq.same s5,hl,hj,_,rfl,?_⟩;refine iC (fun c=>⟨_,rfl,kt _ _ ⟨_,rfl⟩ (aE.refl _) c⟩) (fun c=>kf _ _ ⟨_,rfl⟩ (aE.refl _) (by simpa using c))
  .intro H5 s5 ul;rw[show (((List.range N).filter fun k=>((ss k).getD l none).isSome).map fun (x:Nat)=>V.int (0+(x:Int)))=NV ((List.range N).filter fun k=>((ss k).getD l none).isSome) from jQ fun x _=>by rw[fS]] at ul;exact q D H5 s5 ul
theorem Lo:aB ["stands","log","letter","beats"] ["stands","log","letter"] (aq P_):=⟨rfl,rfl,rfl,by decide +kernel,rfl,by decide +kernel,by decide +kernel⟩
def HB:Sp:=fun vs H Q _=>∃ (SA LA:Addr) (kL lS:List Addr) (n N:Nat) (ss ls:Nat->List (Option Nat)) (l:Nat),vs=[.ref SA,.ref LA,.int l]/\Fh H SA LA kL lS n N ss ls/\l<n/\∀r H',aE H H'->H r=none->H' r=some (.lst (NV (Qb ss ls N l)))->Q (.ref r) H'
theorem Lp{f:Addr}{fd:FuncData}(F:eh K "waited_at" "waited_at" P_ f fd)(BU:bZ P w K mg base bg 4 "beats_under_way" ["stands","log","letter"] HA):bi P w K mg base bg 5 f fd ["stands","log","letter"] HB:=by
 refine F.ok Lo (fun vs H Q E h=>?_) (fun cM A outer s H vs Q E hr h=>?_)
 .obtain⟨SA,LA,kL,lS,n,N,ss,ls,l,rfl,_⟩:=h;rfl
 .obtain⟨SA,LA,kL,lS,n,N,ss,ls,l,rfl,pq,hl,q⟩:=h;have lR:=pq.lR;refine'⟨_,(ah (aN (i:=3) Lo.nd rfl (Or.inl rfl) (aA BU hr aL (aa (pv 0) (aa (pv 1) (aa (pv 2) ag)))))
   (ap (aJ ?c1))),?_⟩
  case c1=>
   refine' cL (g:=(bR 0)) (tt:=(oh (pG (Jw) (pG (sE K) (pG (FQ K) (bU 1) (bU 0)) (bU 2)) (pG (sE K) (pG (FQ K) (bU 3) (bU 0)) (bU 2))))) (te:=(bU 0)) (NB:=["beat","log","letter","stands"]) (src:=[none,some 1,some 2,some 0]) (cA (by kernel_rfl)) rfl (cX (pv 3)) ?g ?t ?e;case g=>exact fun cl C s₃ H₃ fp=>(az (i:=0) fj rfl (Or.inl rfl) (Or.inr rfl))
   case t=>exact fun cl C s₃ H₃ fp=>gx (aO j3 (bq cS (bq bt (pv 1) (pv 0) (fun _ _=>rfl)) (pv 2) (fun _ _=>rfl)) (bq cS (bq bt (pv 3) (pv 0) (fun _ _=>rfl)) (pv 2) (fun _ _=>rfl)) (aT _))
   case e=>exact fun cl C s₃ H₃ fp=>(pv 0)
  refine⟨_,rfl,_,rfl,_,rfl,SA,LA,kL,lS,n,N,ss,ls,l,rfl,pq,hl,fun r H1 s1 GA=>?_⟩;refine⟨_,rfl,r,rfl,⟨_,a_.of GA⟩,fun D hD=>?_⟩;refine D1 ((List.range N).filter fun k=>((ss k).getD l none).isSome) (fun (k:Nat)=>V.int (k:Int)) (fun k=>decide ((ss k).getD l none=(ls k).getD l none)) (fun (k:Nat)=>V.int (k:Int)) (fun σ=>∃b,σ=[b,some (.ref LA),some (.int (l:Int)),some (.ref SA)]) GA hD (bn (jO _ _) (by rw[fN];lia)) ⟨_,rfl⟩ ?_ ?_
  .rintro k σ H5 Kt Kf hk ⟨b',rfl⟩ s5 kt kf;have Tt:k<N:=cD.mp (d8.mp hk).1;have L5:=pq.same (s1.trans s5);refine⟨_,rfl,_,rfl,LA,_,_,_,rfl,rfl,a_.of L5.rl.1,L5.rl.at Tt,_,rfl,_,_,_,_,rfl,rfl,be.of (L5.rl.2.2 k Tt),aY (mi (by rw[L5.ll];exact hl)),?_⟩;refine⟨_,rfl,_,rfl,SA,_,_,_,rfl,rfl,a_.of L5.rs.1,L5.rs.at (by lia),_,rfl,_,_,_,_,rfl,rfl,be.of (L5.rs.2.2 k (by lia)),aY (mi (by rw[L5.sl];exact hl)),rV,_,rfl,?_⟩;rw[Bk];refine iC (fun c=>⟨_,rfl,kt _ _ ⟨_,rfl⟩ (aE.refl _) (bK (fm c).symm)⟩) (fun c=>kf _ _ ⟨_,rfl⟩ (aE.refl _) (dD fun z=>c (bK z.symm)))
  .intro H5 s5 ul;refine q D H5 (s1.trans s5) (s1.free hD) ?_;rw[ul,List.filter_filter];unfold Qb;simp only[Bool.and_comm]
theorem Lq:aB ["_law_stands","_law_log_here","_law_letter","_law_rows"] ["_law_stands","_law_log_here","_law_letter"] (aq Qa):=⟨rfl,rfl,rfl,by decide +kernel,rfl,by decide +kernel,by decide +kernel⟩
def HC:Sp:=fun vs H Q _=>∃ (SA LA:Addr) (kL lS:List Addr) (n N:Nat) (ss ls:Nat->List (Option Nat)) (l:Nat),vs=[.ref SA,.ref LA,.int l]/\Fh H SA LA kL lS n N ss ls/\l<n/\∀r H',aE H H'->H' r=some (.lst (NV (Qb ss ls N l)))->Q (.ref r) H'
theorem Lr{f:Addr}{fd:FuncData}(F:eh K "_law_waited" "_law_waited" Qa f fd)(B2:K1 mg):bi P w K mg base bg 1 f fd ["_law_stands","_law_log_here","_law_letter"] HC:=by
 refine F.ok Lq (fun vs H Q E h=>?_) (fun cM A outer s H vs Q E hr h=>?_)
 .obtain⟨SA,LA,kL,lS,n,N,ss,ls,l,rfl,_⟩:=h;rfl
 .obtain⟨SA,LA,kL,lS,n,N,ss,ls,l,rfl,pq,hl,q⟩:=h;have lR:=pq.lR;have sl:=pq.rs.2.1;have ll:=pq.rl.2.1;refine'⟨_,(ah (jC (i:=3) (g:=(o5 K 2 (dH (bR 0) (dH (bR 1) o4)))) (te:=(Cp (cK (pG (sE K) (bU 0) (bU 2)) (cK (pG (sE K) (bU 1) (bU 2)) mq)))) (NB:=["_law_stand","_law_handing","_law_letter"]) (src:=[none,none,some 2]) (cA (by kernel_rfl)) rfl (DN rfl B2.zip (aa (pv 0) (aa (pv 1) ag))) ?g1 ?t1 ?e1 Lq.nd rfl rfl rfl)
   (ap (aJ ?c2))),?_⟩
  case g1=>exact fun cl C s₃ H₃ fp=>(dI (n:=2) rfl (aR (az (i:=0) dA rfl (Or.inl rfl) (Or.inr rfl)) (aR (az (i:=1) dA rfl (Or.inl rfl) (Or.inr rfl)) cJ)))
  case t1=>exact fun cl C s₃ H₃ fp=>dZ
  case e1=>exact fun cl C s₃ H₃ fp=>(dt (aa (bq cS (pv 0) (pv 2) (fun _ _=>rfl)) (aa (bq cS (pv 1) (pv 2) (fun _ _=>rfl)) ag)))
  case c2=>
   refine' cL (g:=(o5 K 2 (dH (bR 0) (dH (bR 1) o4)))) (tt:=(Jg (oh (pG Fe (pG (sE K) (bU 1) (tC (.int 0))) (tC .bD))) (oh (pG (Jw) (pG (sE K) (bU 1) (tC (.int 0))) (pG (sE K) (bU 1) (tC (.int 1))))))) (te:=(bU 0)) (NB:=["_law_beat","_law_row"]) (src:=[none,none]) (cA (by kernel_rfl)) rfl (CW rfl B2.enum (aa (pv 3) ag)) ?g ?t ?e;case g=>exact fun cl C s₃ H₃ fp=>(dI (n:=2) rfl (aR (az (i:=0) ml rfl (Or.inl rfl) (Or.inr rfl)) (aR (az (i:=1) ml rfl (Or.inl rfl) (Or.inr rfl)) cJ)))
   case t=>exact fun cl C s₃ H₃ fp=>gx (PW.pt (u5 (aO mR (bq cS (pv 1) av (fun _ _=>rfl)) cP (aT _)) (qR (aO j3 (bq cS (pv 1) av (fun _ _=>rfl)) (bq cS (pv 1) av (fun _ _=>rfl)) (aT _)))))
   case e=>exact fun cl C s₃ H₃ fp=>(pv 0)
  refine⟨_,rfl,_,rfl,SA,LA,_,_,rfl,a_.of pq.rs.1,a_.of pq.rl.1,fun D hD=>?_⟩;refine yH (K:=K) (xs:=kL.map V.ref) (ys:=lS.map V.ref) (by rw[aI,aI];lia) (fun i zs σ H2=>(∃x y,σ=[x,y,some (.int (l:Int))])/\aE H H2/\∃ts:List Addr,zs=ts.map V.ref/\H2 D=some (.lst zs)/\Holds H2 ts i (fun k=>.tup [oV ((ss k).getD l none),oV ((ls k).getD l none)])) ⟨⟨_,_,rfl⟩,aj hD,[],rfl,af,Holds.nil⟩ (fun i zs σ H2 _ z=>⟨a_.of (pq.same z.2.1).rs.1,a_.of (pq.same z.2.1).rl.1⟩) ?_ ?_
  .rintro i x y pp zs σ H2 Kt Kf hx hy ⟨⟨u,v,rfl⟩,s2,ts,rfl,mC,ho⟩ DK kt kf;have hi:i<lS.length:=by have:=(di.mp hy).1;rwa [aI] at this
   rw[bh,bC (show i<kL.length by lia)] at hx;obtain rfl:=bA hx;rw[bh,bC hi] at hy;obtain rfl:=bA hy;have sp:=aj (o:=.tup [.ref kL[i],.ref lS[i]]) DK;have L3:=pq.same (s2.trans sp);have e1:=L3.rs.2.2 i (by lia);have e2:=L3.rl.2.2 i (by lia);rw[bE,bC (show i<kL.length by lia)] at e1;rw[bE,bC hi] at e2;refine⟨pp,_,rfl,be.of af,rfl,_,_,rfl,_,_,rfl,rfl,?_⟩;refine⟨_,rfl,_,rfl,_,_,_,_,rfl,rfl,be.of e1,aY (mi (by rw[L3.sl];exact hl)),_,rfl,_,rfl,_,_,_,_,rfl,rfl,be.of e2,aY (mi (by rw[L3.ll];exact hl)),by show 2<=sizeLine;decide,fun t ht=>?_⟩;have s4:=sp.trans (aj (o:=.tup [oV ((ss i).getD l none),oV ((ls i).getD l none)]) ht);have vV:=s4 _ _ mC;have Qe:upd (upd H2 pp (.tup [.ref kL[i],.ref lS[i]])) t (.tup [oV ((ss i).getD l none),oV ((ls i).getD l none)]) t=some (.tup [oV ((ss i).getD l none),oV ((ls i).getD l none)]):=af;generalize upd (upd H2 pp (.tup [.ref kL[i],.ref lS[i]])) t _=H4 at *;have kp:∀ {b xs u},H4 b=some (.tup xs)->(upd H4 D u) b=some (.tup xs):=fun {b xs u} e=>by rw[am (by rintro rfl;rw[vV] at e;cases e)];exact e
   exact kt _ _ _ vV (by rw[aI,ho.1];exact bX (show i<501 by lia) (by decide)) ⟨⟨_,_,rfl⟩,aW (s2.trans s4) hD,ts++[t],by rw[cn];rfl,af,(ho.mono fun j _ e=>kp (s4 _ _ e)).snoc (kp Qe)⟩
  .rintro zs σ H2 ⟨_,s2,ts,rfl,mC,ho⟩;rw[aI,ll] at ho;refine⟨_,rfl,D,_,rfl,mC,fun R hR=>?_⟩;refine yh (K:=K) (a:=D) (xs:=ts.map V.ref) (fun i ys σ H3=>(∃u v,σ=[u,v])/\ys=NV ((List.range i).filter fun k=>((ss k).getD l none).isSome&&decide ((ss k).getD l none=(ls k).getD l none))/\aE H2 H3/\H3 R=some (.lst ys)) ⟨⟨_,_,rfl⟩,rfl,aj hR,af⟩ (fun i ys σ H3 _ z=>a_.of (z.2.2.1 _ _ mC)) ?_ ?_
   .rintro i x t ys σ H3 Kt Kf hx ⟨⟨u,v,rfl⟩,rfl,sm,tG⟩ ht kt kf;have hi:i<ts.length:=by have:=(di.mp hx).1;rwa [aI] at this
    rw[bh,bC hi] at hx;obtain rfl:=bA hx;have aP:=aj (o:=.tup [.int (i:Int),.ref ts[i]]) ht;have e1:=ho.2 i (by rw[<-ho.1];exact hi);rw[bE,bC hi,jk] at e1;have e3:=aP _ _ (sm _ _ e1);have sc:∀c:Bool,(((ss i).getD l none).isSome&&decide ((ss i).getD l none=(ls i).getD l none))=c->NV ((List.range (i+1)).filter fun k=>((ss k).getD l none).isSome&&decide ((ss k).getD l none=(ls k).getD l none))=NV ((List.range i).filter fun k=>((ss k).getD l none).isSome&&decide ((ss k).getD l none=(ls k).getD l none))++if c then [.int (i:Int)] else []:=fun c hc=>by
     rw[h_,i7,fq,hc];cases c <;> simp
    have ln:(NV ((List.range i).filter fun k=>((ss k).getD l none).isSome&&decide ((ss k).getD l none=(ls k).getD l none))).length<sizeLine:=by
     rw[bb];exact cZ (jO _ _) (by rw[fN];exact bX (show i<501 by have:=ho.1;lia) (by decide))
    refine⟨_,_,rfl,be.of af,rfl,_,_,rfl,_,_,rfl,rfl,?_⟩;refine⟨_,rfl,_,_,_,_,rfl,rfl,be.of e3,aY (j:=0) rfl,rfl,_,rfl,?_⟩;rw[ni];by_cases c1:((ss i).getD l none).isSome=true
    .rw[c1];refine AF ⟨_,rfl,_,_,_,_,rfl,rfl,be.of e3,aY (j:=0) rfl,_,rfl,_,_,_,_,rfl,rfl,be.of e3,aY (j:=1) rfl,rV,_,rfl,?_⟩;rw[Bk];refine iC (fun c=>?_) (fun c=>?_)
     .refine⟨_,rfl,kt _ _ _ (aP _ _ tG) ln ⟨⟨_,_,rfl⟩,?_,aW (sm.trans aP) hR,af⟩⟩;rw[sc true (by rw[c1,c];rfl)];rfl
     .refine kf _ _ ⟨⟨_,_,rfl⟩,?_,sm.trans aP,aP _ _ tG⟩;rw[sc false (by rw[c1,nV _ |>.mp c];rfl)];simp
    .rw[nV] at c1;rw[c1];refine EZ (kf _ _ ⟨⟨_,_,rfl⟩,?_,sm.trans aP,aP _ _ tG⟩);rw[sc false (by rw[c1];rfl)];simp
   .rintro ys σ H3 ⟨_,rfl,sm,tG⟩;rw[aI,ho.1] at tG;exact q R H3 (s2.trans sm) tG
end
abbrev Qk:Stmt:=fz 59
abbrev Ql:Stmt:=fz 61
theorem v8:(["_law_handing"]:List Str).Nodup:=by decide +kernel
theorem Fi{X:Cx}{H:Hp}{o:Option Nat}:AS X H 0 (oV o) (oV o):=by
 intro ae s σ A u v I hu rx ry;have h:=qW (A:=A) (s:=s) rx ry (by cases o <;> rfl) (by cases o <;> rfl);rw[show kJ (oV o) (oV o)=true by cases o <;> simp[oV,kJ]] at h;exact h
theorem D9{X:Cx}{H:Hp}{a b:Addr}{os:List (Option Nat)}(ha:H a=some (.tup (os.map oV)))(hb:H b=some (.tup (os.map oV))):AS X H 1 (.ref a) (.ref b):=by
 refine DA (be.of ha) (be.of hb) rfl fun i h1 h2=>?_;rw[aI] at h1;rw[bE,bh,bC h1];exact Fi
theorem b9.Tu{H:Hp}{a b:Addr}{as bs:List Addr}{N:Nat}{o:Nat->List (Option Nat)}(h:b9 H a as N o)(h':b9 H b bs N o):(as.map V.ref).length=(bs.map V.ref).length:=by rw[aI,aI,h.2.1,h'.2.1]
theorem b9.Tv{X:Cx}{H:Hp}{a b:Addr}{as bs:List Addr}{N:Nat}{o:Nat->List (Option Nat)}(h:b9 H a as N o)(h':b9 H b bs N o):∀i,i<(as.map V.ref).length->i<(bs.map V.ref).length->AS X H 1 ((as.map V.ref).getD i .bD) ((bs.map V.ref).getD i .bD):=by
 intro i h1 h2;rw[aI] at h1 h2;have e1:=h.2.2 i (by rw[<-h.2.1];exact h1);have e2:=h'.2.2 i (by rw[<-h'.2.1];exact h2);rw[bE,bC h1] at e1;rw[bE,bC h2] at e2;rw[bE,bh,bC h1,bE,bh,bC h2];exact D9 e1 e2
theorem HE{X:Cx}{H:Hp}{xs:List Nat}:∀i,i<(NV xs).length->i<(NV xs).length->AS X H 0 ((NV xs).getD i .bD) ((NV xs).getD i .bD):=fun i h1 _=>by
 rw[bb] at h1;rw[bE,bh,bC h1];exact Dz
theorem b9.mj{H H':Hp}{a Pw:Addr}{as:List Addr}{N:Nat}{o:Nat->List (Option Nat)}{lp:Pos}{qq:Str}(h:b9 H a as N o)(t:d_ lp qq Pw H)(s:iN Pw H H'):b9 H' a as N o:=
 ⟨s _ _ h.1 (t.not h.1 (by intro ps z;cases z)),h.2.mono fun j _ e=>s _ _ e (t.not e (by intro ps z;cases z))⟩
theorem Nj{α:Type}{l:List α}{x d:α}{i n:Nat}(h:l.length=n):(l++[x]).getD i d=if i=n then x else l.getD i d:=by
 rw[bE,bE];by_cases hj:i=n
 .subst hj;subst h;rw[ak rfl,nu (aF _),Nat.sub_self];rfl
 .rw[ai hj];by_cases de:i<l.length
  .rw[lT de]
  .rw[nu (by lia),lU (by simp;lia),lU (by lia)]
theorem _root_.f9.Rn.le{ns homes:List Nat}{st:List (Option Nat)}{most N:Nat}(a:Rn ns homes st most N):N<=most:=by
 rcases Nat.lt_or_ge most N with c|c
 .exact absurd (a.go most c).1 (eQ _)
 .exact c
theorem HF{h m d:Nat}(hh:h<m)(hd:d<m-1):(h+1+d) % m<m/\h≠(h+1+d) % m:=by
 refine⟨jt _ (by lia),?_⟩;by_cases c:h+1+d<m
 .rw[lY c];lia
 .rw[Nat.mod_eq_sub_mod (by lia),lY (by lia)];lia
section
variable {P:Program} {w:World} {K:PySem.W.Frag} {mg:Str->Option Value} {base:Heap}
theorem yM:aB ["_law_pot_here","_law_many_here","_law_homes","_law_stand","_law_house","_law_k","_law_home"] ["_law_pot_here","_law_many_here"] (aq Qk):=⟨rfl,rfl,rfl,by decide +kernel,rfl,by decide +kernel,by decide +kernel⟩
def HG:Sp:=fun vs H Q _=>∃ (p:Addr) (ns:List Nat),vs=[.ref p,.int (pr ns:Nat)]/\2<=pr ns/\pr ns<=32/\cu H p/\∀ (t ha sa:Addr) (homes:List Nat) (st:List (Option Nat)) (H':Hp),cj p H H'->cu H' p->H' t=some (.tup [.ref ha,.ref sa])->H' ha=some (.tup (NV homes))->H' sa=some (.tup (st.map oV))->Sg ns homes st->Q (.ref t) H'
theorem Ls{f:Addr}{fd:FuncData}(F:eh K "_law_letters" "_law_letters" Qk f fd)(B:Bl mg)(DR:bZ P w K mg base bg 1 "_law_draw" ["_law_pot_here","_law_many_here"] Bh):bi P w K mg base bg 2 f fd ["_law_pot_here","_law_many_here"] HG:=by
 refine F.ok yM (fun vs H Q E h=>?_) (fun cM A outer s H vs Q E hr h=>?_)
 .obtain⟨p,ns,rfl,_⟩:=h;rfl
 .obtain⟨p,ns,rfl,m2,Xp,hp,q⟩:=h;refine⟨_,(ah (qS (i:=2) (j:=3) rfl yM.nd rfl rfl (by decide) rfl rfl (aa (cR ag) (aa (cR ag) ag)) (by rfl))
   (ah (aN (i:=4) yM.nd rfl (Or.inl rfl) av)
   (ah (cr dw rfl (cq rfl B.range (aa (aX et av (aA DR hr aL (aa (pv 0) (aa av ag)))) ag)) (az (i:=5) yM.nd rfl (Or.inl rfl))
    (ah (bJ (aO j3 (aA DR hr aL (aa (pv 0) (aa av ag))) av (aT _)) (ap (aN (i:=4) yM.nd rfl (Or.inl rfl) (aA DR hr aL (aa (pv 0) (aa (pv 1) ag))))) aQ)
    (ah (aN (i:=6) yM.nd rfl (Or.inl rfl) (aX dU (aX et (aX et (pv 4) av) (aA DR hr aL (aa (pv 0) (aa (aX lf (pv 1) av) ag)))) (pv 1)))
    (ah (bL (eW eO eN eM bv (pv 2) (aa (pv 6) ag)))
    (ap (bL (eW eO eN eM bv (pv 3) (aa (bq bt (cR (aa cP (aa (pv 4) ag))) (bu lq (by rfl) B.int ql (aa (gs pI (aA DR hr aL (aa (pv 0) (aa av ag))) av (aT _)) ag)) (fun _ _=>rfl)) ag))))))))
   (ap (aJ (dt (aa (bu br (by rfl) B.tup fL (aa (pv 2) ag)) (aa (bu br (by rfl) B.tup fL (aa (pv 3) ag)) ag)))))))),?_⟩
  refine⟨by show 0<=sizeLine;decide,fun HM Qm=>⟨by show 0<=sizeLine;decide,fun SN Qn=>⟨_,_,rfl,?_⟩⟩⟩;have s0:=aj (o:=.lst []) Qm;have s1:=s0.trans (aj (o:=.lst []) Qn);have Tw:H SN=none:=s0.free Qn;have ne:HM≠SN:=ao af Qn;have HI:HM≠p:=hp.ne Qm;have HJ:SN≠p:=hp.ne Tw;generalize hm:pr ns=m at *;refine⟨_,rfl,p,16,rfl,by decide,by decide,hp.same s1,fun d H1 hd s2 JX=>⟨_,_,rfl,rfl,?_⟩⟩;obtain⟨W,hW,w1,Xq⟩:∃W:Nat,(1+(d:Int))=(W:Int)/\1<=W/\W<=16:=⟨1+d,by lia,by lia,by lia⟩
  refine⟨(W:Int),by show [V.int (1+(d:Int))]=_;rw[hW],by lia,by lia,dz (n:=W) (lo:=0) (fun k σ H2=>∃ (hs:List Nat) (ts:List (Option Nat)) (h:Nat) (x5 x6:Option V),σ=[some (.ref p),some (.int (m:Int)),some (.ref HM),some (.ref SN),some (.int (h:Int)),x5,x6]/\cj p H H2/\cu H2 p/\H2 HM=some (.lst (NV hs))/\H2 SN=some (.lst (ts.map oV))/\hs.length=k/\ts.length=k/\h<m/\∀i,i<k->hs.getD i 0<m/\∀y,ts.getD i none=some y->y<m/\y≠hs.getD i 0) ?_ ?_ ?_⟩
  .exact⟨[],[],0,_,_,rfl,(cj.of s1).trans s2,JX,s2 _ _ (by rw[am ne];exact af) HI,s2 _ _ af HJ,rfl,rfl,by lia,fun i hi=>absurd hi (gT _)⟩
  .rintro k σ H2 hk ⟨hs,ts,h,x5,x6,rfl,s3,p3,Nk,Nl,hl,tl,hh,al⟩;rw[fS];refine dP (fun σ H4=>∃ (h:Nat) (x6:Option V),σ=[some (.ref p),some (.int (m:Int)),some (.ref HM),some (.ref SN),some (.int (h:Int)),some (.int (k:Int)),x6]/\cj p H H4/\cu H4 p/\H4 HM=some (.lst (NV hs))/\H4 SN=some (.lst (ts.map oV))/\h<m) ?_ ?_
   rotate_left
   .intro N hN;refine⟨_,rfl,p,2,rfl,by decide,by decide,p3,fun d1 H4 Xr s4 p4=>⟨rfl,_,rfl,?_⟩⟩;refine iC (fun _=>⟨_,rfl,_,rfl,p,m,rfl,by lia,by lia,p4,fun d2 H5 Wm s5 p5=>?_⟩) (fun _=>hN _ _ ⟨h,_,rfl,s3.trans s4,p4,s4 _ _ Nk HI,s4 _ _ Nl HJ,hh⟩);exact hN _ _ ⟨d2,_,rfl,(s3.trans s4).trans s5,p5,s5 _ _ (s4 _ _ Nk HI) HI,s5 _ _ (s4 _ _ Nl HJ) HJ,Wm⟩
   rintro σ H4 ⟨h,x6,rfl,s4,p4,Wn,Wo,hh⟩;refine⟨_,rfl,_,_,rfl,rfl,_,rfl,_,rfl,_,_,rfl,rfl,p,m-1,by show [V.ref p,V.int ((m:Int)-1)]=_;rw[show ((m:Int)-1)=((m-1:Nat):Int) by lia],by lia,by lia,p4,fun e H5 he s5 p5=>?_⟩;refine⟨_,_,rfl,rfl,_,rfl,_,_,rfl,rfl,(by show (0:Int)<(m:Int);lia),?_⟩;obtain⟨r1,r2⟩:=HF hh he;have er:((h:Int)+1+(e:Int)) % (m:Int)=(((h+1+e) % m:Nat):Int):=by rw[Int.natCast_emod];rfl
   change bR 6 (V.int (((h:Int)+1+(e:Int)) % (m:Int))) _ H5 _;rw[er];generalize (h+1+e) % m=g at *;have Tx:=s5 _ _ Wn HI;have Wp:=s5 _ _ Wo HJ;refine⟨_,rfl,.inl ⟨rfl,_,a_.of Tx⟩,_,rfl,HM,_,_,rfl,rfl,Tx,by rw[bb,hl];exact bX (show k<17 by lia) (by decide),?_⟩;have Wq:(upd H5 HM (.lst (NV hs++[.int (g:Int)]))) HM=some (.lst (NV (hs++[g]))):=by rw[af,km]
   have Tz:(upd H5 HM (.lst (NV hs++[.int (g:Int)]))) SN=some (.lst (ts.map oV)):=by rw[am ne.symm];exact Wp
   have s6:cj p H (upd H5 HM (.lst (NV hs++[.int (g:Int)]))):=qb (s4.trans s5) Qm;have p6:cu (upd H5 HM (.lst (NV hs++[.int (g:Int)]))) p:=p5.put HI.symm;generalize upd H5 HM _=H6 at *;refine⟨_,rfl,.inl ⟨rfl,_,a_.of Tz⟩,_,rfl,by show 2<=sizeLine;decide,fun L hL=>?_⟩;have sL:=aj (o:=.lst [.bD,.int (h:Int)]) hL;have Qo:L≠p:=p6.ne hL;refine⟨_,rfl,p,8,rfl,by decide,by decide,p6.same sL,fun d3 H7 Xs s7 p7=>⟨_,_,rfl,rfl,.inr ⟨_,rfl,?_⟩⟩⟩;have TC:=s7 _ _ af Qo;have Wr:=s7 _ _ (sL _ _ Tz) HJ;have dB:∀v:Option Nat,(v=none\/v=some h)->Exists fun (l:Addr)=>Exists fun (xs:List V)=>Exists fun (y:V)=>V.ref SN=V.ref l/\[oV v]=[y]/\H7 l=some (.lst xs)/\xs.length<sizeLine/\(fun σ H2=>∃ (hs:List Nat) (ts:List (Option Nat)) (h:Nat) (x5 x6:Option V),σ=[some (.ref p),some (.int (m:Int)),some (.ref HM),some (.ref SN),some (.int (h:Int)),x5,x6]/\cj p H H2/\cu H2 p/\H2 HM=some (.lst (NV hs))/\H2 SN=some (.lst (ts.map oV))/\hs.length=k+1/\ts.length=k+1/\h<m/\∀i,i<k+1->hs.getD i 0<m/\∀y,ts.getD i none=some y->y<m/\y≠hs.getD i 0) [some (.ref p),some (.int (m:Int)),some (.ref HM),some (.ref SN),some (.int (h:Int)),some (.int (k:Int)),some (.int (g:Int))] (upd H7 l (.lst (xs++[y]))):=fun v hv=>by
    refine⟨SN,_,_,rfl,rfl,Wr,by rw[aI,tl];exact bX (show k<17 by lia) (by decide),hs++[g],ts++[v],h,_,_,rfl,?_,p7.put HJ.symm,?_,?_,by rw[fk,hl];rfl,by rw[fk,tl];rfl,hh,fun i hi=>?_⟩
    .exact qb ((s6.trans (cj.of sL)).trans s7) Tw
    .rw[am ne];exact s7 _ _ (sL _ _ Wq) HI
    .rw[af,cn];rfl
    .rcases nC.mp hi with z|rfl
     .rw[Nj hl,Nj tl,ai (by lia),ai (by lia)];exact al i z
     .rw[Nj hl,Nj tl,ak rfl,ak rfl];refine⟨r1,fun y hy=>?_⟩;have hy:v=some y:=hy;rcases hv with z|z
      .rw[z] at hy;cases hy
      .rw[z] at hy;cases hy;exact⟨hh,r2⟩
   by_cases c:(0:Int)<(d3:Int)
   .exact⟨L,_,_,.int (h:Int),rfl,by show V.int (if decide ((0:Int)<(d3:Int))=true then 1 else 0)=_;rw[ak (bK c)];rfl,a_.of TC,aY (j:=1) rfl,dB (some h) (.inr rfl)⟩
   .exact⟨L,_,_,.bD,rfl,by show V.int (if decide ((0:Int)<(d3:Int))=true then 1 else 0)=_;rw[ai (fun z=>c (fm z))];rfl,a_.of TC,aY (j:=0) rfl,dB none (.inl rfl)⟩
  .rintro σ H2 ⟨hs,ts,h,x5,x6,rfl,s3,p3,Nk,Nl,hl,tl,hh,al⟩;refine⟨_,rfl,HM,_,rfl,.inl ⟨a_.of Nk,fun t1 A_=>?_⟩⟩;have a1:=aj (o:=.tup (NV hs)) A_;refine⟨_,rfl,SN,_,rfl,.inl ⟨a_.of (a1 _ _ Nl),fun t2 E5=>⟨by show 2<=sizeLine;decide,fun t ht=>?_⟩⟩⟩;have a2:=aj (o:=.tup (ts.map oV)) E5;have a3:=aj (o:=.tup [.ref t1,.ref t2]) ht;have a:=(a1.trans a2).trans a3;refine q t t1 t2 hs ts _ (s3.trans (cj.of a)) (p3.same a) af (a3 _ _ (a2 _ _ af)) (a3 _ _ af) ⟨by rw[hl,tl],by lia,fun i hi=>by rw[hm];exact(al i (by lia)).1,fun i y hi e=>by rw[hm];exact(al i (by lia)).2 y e⟩
theorem yN:aB ["_law_box","_law_sides_here","_law_homes","_law_stand","_law_most","_law_log_here","_law_stands","_law_found","_law_letter","_law_told"] ["_law_box","_law_sides_here","_law_homes","_law_stand","_law_most"] (aq Ql):=⟨rfl,rfl,rfl,by decide +kernel,rfl,by decide +kernel,by decide +kernel⟩
def HK(C CB Pw:Addr):Sp:=fun vs H Q _=>∃ (L:Addr->Prop) (b a ha sa:Addr) (ns homes:List Nat) (st:List (Option Nat)) (most:Nat),vs=[.ref b,.ref a,.ref ha,.ref sa,.int most]/\eI C CB H L b ns/\¬ L Pw/\H a=some (.tup (NV ns))/\H ha=some (.tup (NV homes))/\H sa=some (.tup (st.map oV))/\Sg ns homes st/\most<=500/\lP Pw H/\∀H',lP Pw H'->iN Pw H H'->Q (.bl true) H'
theorem Lu{f C CB Pw:Addr}{fd:FuncData}(F:eh K "_law_right" "_law_right" Ql f fd)(B:Bl mg)(LG:bZ P w K mg base bg 3 "_law_log" ["_law_sides_here","_law_homes","_law_stand","_law_most"] Hw)(WR:bZ P w K mg base bg 11 "wait_run" ["box","homes","stand","most"] (DY C CB Pw))(SO:bZ P w K mg base bg 2 "stands_of" ["homes","stand","log"] (Hy K))(WT:bZ P w K mg base bg 5 "waited_at" ["stands","log","letter"] HB)(LW:bZ P w K mg base bg 1 "_law_waited" ["_law_stands","_law_log_here","_law_letter"] HC):bi P w K mg base bg 12 f fd ["_law_box","_law_sides_here","_law_homes","_law_stand","_law_most"] (HK C CB Pw):=by
 refine F.ok yN (fun vs H Q E h=>?_) (fun cM A outer s H vs Q E hr h=>?_)
 .obtain⟨L,b,a,ha,sa,ns,homes,st,most,rfl,_⟩:=h;rfl
 .obtain⟨L,b,a,ha,sa,ns,homes,st,most,rfl,BA,nL,hA,hH,hS,SG,pk,tb,q⟩:=h;have h1:bO 1 _:=hr.mono (by decide);have h2:bO 2 _:=hr.mono (by decide);have h3:bO 3 _:=hr.mono (by decide);have h5:bO 5 _:=hr.mono (by decide);refine'⟨_,(ah (iB (aA LG h3 aL (aa (pv 1) (aa (pv 2) (aa (pv 3) (aa (pv 4) ag))))) (dI (n:=2) rfl (aR (az (i:=5) yN.nd rfl (Or.inl rfl)) (aR (az (i:=6) yN.nd rfl (Or.inl rfl)) cJ))))
   (ah (aN (i:=7) yN.nd rfl (Or.inl rfl) (aA WR hr aL (aa (pv 0) (aa (pv 2) (aa (pv 3) (aa (pv 4) ag))))))
   (ah (bJ (PW.pt (zm (aO (m6 (d:=1) hr.u) (pv 7) (pv 5) (aT _)) (u4 (dG (dg (aK (yj rfl) (by rfl) B.all PyProof.Rows.boot_all (aa ?c1 ag))))))) (ap (aJ iz)) aQ)
   (ah (bJ (aO (m6 (d:=1) hr.u) (aA SO h2 aL (aa (pv 2) (aa (pv 3) (aa (pv 7) ag)))) (pv 6) (aT _)) (ap (aJ iz)) aQ)
   (ah (cr dw rfl (cq rfl B.range (aa (aK aM (by rfl) B.len dE (aa (pv 2) ag)) ag)) (az (i:=8) yN.nd rfl (Or.inl rfl))
    (ah (aN (i:=9) yN.nd rfl (Or.inl rfl) (aA WT h5 aL (aa (pv 6) (aa (pv 5) (aa (pv 8) ag)))))
    (ah (bJ (aO (m6 (d:=0) hr.u) (pv 9) (aA LW h1 aL (aa (pv 6) (aa (pv 5) (aa (pv 8) ag)))) (aT _)) (ap (aJ iz)) aQ)
    (ap (bL (eW eO eN eM bv (pv 9) (aa av ag)))))))
   (ah (bL (eW eO eN eM bv (pv 7) (aa cP ag)))
   (ap (aJ iz)))))))),?_⟩
  case c1=>
   refine' cL (g:=(bR 0)) (te:=NR (JV K) (cK (bU 0) (cK (tC (.ty "tuple")) mq))) (NB:=["_law_handing"]) (src:=[none]) (cA (by kernel_rfl)) rfl (cX (pv 7)) ?g ?t ?e;case g=>exact fun cl C s₃ H₃ fp=>(az (i:=0) v8 rfl (Or.inl rfl) (Or.inr rfl))
   case t=>exact fun cl C s₃ H₃ fp=>dZ
   case e=>exact fun cl C s₃ H₃ fp=>(aK eY (by rfl) B.Gm nq (aa (pv 0) (aa (gn (v:=.ty "tuple") rfl B.tup fL rfl) ag)))
  refine⟨_,rfl,_,rfl,_,rfl,_,rfl,a,ha,sa,ns,homes,st,most,rfl,hA,hH,hS,BA.bx,SG,pk,fun t LG SD N as bs H1 RN s1 Xt Qd ne ht rl rs=>?_⟩;refine⟨t,_,rfl,be.of ht,rfl,_,_,rfl,_,_,rfl,rfl,?_⟩;have Du:lP Pw H1:=tb.keep fun b o e _=>s1 _ _ e;refine⟨_,rfl,_,rfl,_,rfl,_,rfl,L,b,ha,sa,ns,homes,st,most,rfl,BA.same s1,nL,s1 _ _ hH,s1 _ _ hS,SG,pk,Du,fun r N' fs H2 Ws Dw s2 nr Pm MQ=>?_⟩;obtain rfl:=RN.uniq Ws;have lR:N<=500:=bn RN.le pk;have TD:H2 ha=some (.tup (NV homes)):=s2 _ _ (s1 _ _ hH) (Du.not (s1 _ _ hH) (by intro ps z;cases z));have Ng:H2 sa=some (.tup (st.map oV)):=s2 _ _ (s1 _ _ hS) (Du.not (s1 _ _ hS) (by intro ps z;cases z));have rf:b9 H2 r fs N (rH ns homes st):=⟨Pm,MQ⟩
  have Hz:=rl.mj Du s2;have TF:=rs.mj Du s2;refine dP (fun σ Hx=>H2=Hx/\σ=[some (.ref b),some (.ref a),some (.ref ha),some (.ref sa),some (.int most),some (.ref LG),some (.ref SD),some (.ref r),none,none]) ?_ (fun N hN=>hN _ _ ⟨rfl,rfl⟩);rintro σ _ ⟨rfl,rfl⟩;refine dP (fun σ H3=>aE H2 H3/\σ=[some (.ref b),some (.ref a),some (.ref ha),some (.ref sa),some (.int most),some (.ref LG),some (.ref SD),some (.ref r),none,none]) ?_ ?_
  rotate_left
  .intro NN hN;refine⟨_,rfl,_,rfl,r,LG,_,_,rfl,rfl,a_.of rf.1,a_.of Hz.1,rf.Tu Hz,rf.Tv Hz,_,rfl,e_ rfl ?_⟩;refine⟨_,rfl,r,rfl,⟨_,a_.of rf.1⟩,fun D hD=>?_⟩;refine dW (xs:=fs.map V.ref) (fun i ys σ H3=>(∃x,σ=[x])/\aE H2 H3/\ys=(List.replicate i true).map V.bl/\H3 D=some (.lst ys)) ⟨⟨_,rfl⟩,aj hD,rfl,af⟩ (fun i ys σ H3 _ z=>a_.of (z.2.1 _ _ rf.1)) ?_ ?_
   .rintro i x ys σ H3 Kt Kf hx ⟨⟨x0,rfl⟩,s3,rfl,pj⟩ kt kf;have hi:i<fs.length:=by have:=(di.mp hx).1;rwa [aI] at this
    rw[bh,bC hi] at hx;obtain rfl:=bA hx;have hk:=s3 _ _ (rf.2.2 i (by rw[<-rf.2.1];exact hi));rw[bE,bC hi] at hk;refine⟨_,rfl,_,_,_,.type "tuple",true,rfl,⟨rfl,rB⟩,.of (.tup hk),kt _ _ _ pj (by rw[aI,nw];exact bX (show i<501 by have:=rf.2.1;lia) (by decide)) ⟨⟨_,rfl⟩,aW s3 hD,?_,af⟩⟩;rw[uy,cn];rfl
   .rintro ys σ H3 ⟨_,s3,rfl,pj⟩;exact⟨D,_,rfl,a_.of pj,_,rfl,e_ (by simp) (hN _ _ ⟨s3,rfl⟩)⟩
  rintro σ H3 ⟨s3,rfl⟩;refine dP (fun σ H4=>aE H2 H4/\σ=[some (.ref b),some (.ref a),some (.ref ha),some (.ref sa),some (.int most),some (.ref LG),some (.ref SD),some (.ref r),none,none]) ?_ ?_
  rotate_left
  .intro NN hN;refine⟨_,rfl,_,rfl,_,rfl,ha,sa,r,ns,homes,st,N,fs,rfl,s3 _ _ TD,s3 _ _ Ng,SG,lR,rf.same s3,fun r2 Xu H4 s4 Ni rr=>?_⟩;have IZ:=TF.same (s3.trans s4);exact⟨_,rfl,r2,SD,_,_,rfl,rfl,a_.of rr.1,a_.of IZ.1,rr.Tu IZ,rr.Tv IZ,_,rfl,e_ rfl (hN _ _ ⟨s3.trans s4,rfl⟩)⟩
  rintro σ H4 ⟨s4,rfl⟩;have Wt:=SG.v5;have dq:=SG.len;refine dP (fun σ H5=>aE H2 H5/\∃x8 x9,σ=[some (.ref b),some (.ref a),some (.ref ha),some (.ref sa),some (.int most),some (.ref LG),some (.ref SD),some (.ref r),x8,x9]) ?_ ?_
  rotate_left
  .intro NN hN;refine⟨_,rfl,ha,_,rfl,.inr (be.of (s4 _ _ TD)),_,rfl,by lia,by rw[bb];lia,?_⟩;rw[bb,nK];refine dz (n:=homes.length) (lo:=0) (fun k σ H5=>aE H2 H5/\∃x8 x9,σ=[some (.ref b),some (.ref a),some (.ref ha),some (.ref sa),some (.int most),some (.ref LG),some (.ref SD),some (.ref r),x8,x9]) ⟨s4,_,_,rfl⟩ ?_ (fun σ H5 z=>hN _ _ z);rintro l σ H5 hl ⟨s5,x8,x9,rfl⟩;rw[fS];have TH:Fh H5 SD LG bs as st.length N (stN ns homes st) (rH ns homes st):=⟨TF.same s5,Hz.same s5,fun k=>ng,fun k=>gO,lR⟩
   have TJ:l<st.length:=by lia
   refine⟨_,rfl,_,rfl,_,rfl,SD,LG,bs,as,_,N,_,_,l,rfl,TH,TJ,fun r3 H6 s6 Wu IX=>?_⟩;refine⟨_,rfl,_,rfl,_,rfl,_,rfl,SD,LG,bs,as,_,N,_,_,l,rfl,TH.same s6,TJ,fun r4 H7 s7 Dx=>?_⟩;have HL:=s7 _ _ IX;refine⟨r3,r4,_,_,rfl,rfl,a_.of HL,a_.of Dx,rfl,HE,_,rfl,e_ rfl ?_⟩;refine⟨_,rfl,.inl ⟨rfl,_,a_.of HL⟩,r3,_,_,rfl,rfl,HL,?_,(s5.trans (aW (s6.trans s7) Wu)),_,_,rfl⟩;rw[bb];exact cZ (jO _ _) (by rw[fN];exact cZ lR (by decide))
  rintro σ H5 ⟨s5,x8,x9,rfl⟩;have IR:=s5 _ _ Pm;refine⟨_,rfl,.inl ⟨rfl,_,a_.of IR⟩,r,_,_,rfl,rfl,IR,by rw[aI,rf.2.1];exact cZ lR (by decide),?_⟩;have TN:lP Pw H5:=Dw.keep fun b o e _=>s5 _ _ e;have Wv:r≠Pw:=TN.not IR (by intro ps z;cases z);refine q _ (TN.keep fun b o e h=>?_) fun b o e n=>?_
  .rw[am]
   .exact e
   .rintro rfl;rcases h with z|⟨p,rfl⟩
    .exact Wv z
    .rw[IR] at e;cases e
  .have e1:=s1 _ _ e;rw[am (ao e1 nr)];exact s5 _ _ (s2 _ _ e1 n)
end
abbrev v9:Stmt:=fz 62
theorem HN{ns:List Nat}(B:Bx ns):2<=pr ns:=by
 have h1:=B.l1;have hs:=B.sd;have hp:=B.pos;cases ns with
 |nil=>exact absurd h1 (by decide)
 |cons n l=>
  have a:=(hs n b_).1;have b:=lO (ns:=l) fun x hx=>hp x (bV _ hx);show 2<=n*pr l;exact bn (show 2<=n*1 by lia) (nB n b)
theorem Bv{X:Cx}{H:Hp}{os:List (Option Nat)}:∀i,i<(os.map oV).length->i<(os.map oV).length->AS X H 0 ((os.map oV).getD i .bD) ((os.map oV).getD i .bD):=fun i h1 _=>by
 rw[aI] at h1;rw[bE,bh,bC h1];exact Fi
theorem Bw{ns:List Nat}:Sg ns [] []:=⟨rfl,by decide,fun i h=>absurd h (gT _),fun i h hi=>absurd hi (gT _)⟩
theorem HP{ns:List Nat}{most N:Nat}(R:Rn ns [] [] most N):N=0:=by
 rcases uG N with z|z
 .exact z
 .exact absurd (show v6 ([]:List (Option Nat))=true from (R.go 0 z).2) (by decide)
section
variable {P:Program} {w:World} {K:PySem.W.Frag} {mg:Str->Option Value} {base:Heap}
def yO(K:PySem.W.Frag)(H:Hp)(a:Addr)(xs:List V):Prop:=(∃o,H a=some (.pE o (.lst xs)))\/(∀H':Hp,a_ K H' a xs)
theorem yO.seq{H:Hp}{a:Addr}{xs:List V}(h:yO K H a xs):a_ K H a xs:=by
 rcases h with ⟨o,h⟩|h
 .exact .inl (.inr ⟨o,h⟩)
 .exact h H
theorem yO.mono{H H':Hp}{a:Addr}{xs:List V}(h:yO K H a xs)(e:∀o u,H a=some (.pE o u)->H' a=some (.pE o u)):yO K H' a xs:=by
 rcases h with ⟨o,h⟩|h
 .exact .inl ⟨o,e _ _ h⟩
 .exact .inr h
theorem _root_.L2.d_.mm{lp:Pos}{q:Str}{p Pt:Addr}{H H':Hp}(t:d_ lp q Pt H)(s:cj p H H')(hp:cu H p):d_ lp q Pt H':=by
 obtain⟨a,b,e,_⟩:=hp;rcases t with z|⟨c,z,y⟩
 .exact .inl (s _ _ z (by rintro rfl;rw[z] at e;cases e))
 .exact .inr ⟨c,s _ _ z (by rintro rfl;rw[z] at e;cases e),s _ _ y (by rintro rfl;rw[y] at e;cases e)⟩
theorem yO.xy{H H':Hp}{a p:Addr}{xs:List V}(h:yO K H a xs)(s:cj p H H')(hp:cu H p):yO K H' a xs:=by
 obtain⟨x,y,e,_⟩:=hp;exact h.mono fun o u z=>s _ _ z (by rintro rfl;rw[z] at e;cases e)
theorem _root_.L2.d_.sm{lp:Pos}{q:Str}{Pt:Addr}{H H':Hp}(t:d_ lp q Pt H)(s:aE H H'):d_ lp q Pt H':=t.keep fun b o e _=>s _ _ e
structure Cs(K:PySem.W.Frag)(C CB Pt Pw:Addr)(L:Addr->Prop)(a bx sd ha sa:Addr)(xs:List V)(ns homes:List Nat)(st:List (Option Nat))(H:Hp):Prop where
 Qp:yO K H a xs
 box:eI C CB H L bx ns
 nl:¬ L Pw
 hd:H sd=some (.tup (NV ns))
 hh:H ha=some (.tup (NV homes))
 hs:H sa=some (.tup (st.map oV))
 tp:jI Pt H
 tw:lP Pw H
theorem Cs.same{C CB Pt Pw a bx sd ha sa:Addr}{L:Addr->Prop}{xs:List V}{ns homes:List Nat}{st:List (Option Nat)}{H H':Hp}(c:Cs K C CB Pt Pw L a bx sd ha sa xs ns homes st H)(s:aE H H'):Cs K C CB Pt Pw L a bx sd ha sa xs ns homes st H':=⟨c.Qp.mono fun o u e=>s _ _ e,c.box.same s,c.nl,s _ _ c.hd,s _ _ c.hh,s _ _ c.hs,c.tp.sm s,c.tw.sm s⟩
theorem Cs.mj{C CB Pt Pw a bx sd ha sa:Addr}{L:Addr->Prop}{xs:List V}{ns homes:List Nat}{st:List (Option Nat)}{H H':Hp}(c:Cs K C CB Pt Pw L a bx sd ha sa xs ns homes st H)(HQ:Pt≠Pw)(s:iN Pw H H')(t:lP Pw H'):Cs K C CB Pt Pw L a bx sd ha sa xs ns homes st H':=
 ⟨c.Qp.mono fun o u e=>s _ _ e (c.tw.not e (by intro ps z;cases z)),c.box.mj c.nl c.tw s,c.nl,s _ _ c.hd (c.tw.not c.hd (by intro ps z;cases z)),s _ _ c.hh (c.tw.not c.hh (by intro ps z;cases z)),s _ _ c.hs (c.tw.not c.hs (by intro ps z;cases z)),c.tp.keep fun b o e h=>s _ _ e (by rcases h with z|⟨p,z⟩;exact z ▸ HQ;exact c.tw.not e (by intro ps y;rw[z] at y;cases y)),t⟩
theorem kE:aB ["_law_script","_law_place","_law_pot_here","_law_most","_law_sides_here","_law_homes","_law_stand","_law_box","_law_k"] ["_law_script"] (aq v9):=⟨rfl,rfl,rfl,by decide +kernel,rfl,by decide +kernel,by decide +kernel⟩
def xz(K:PySem.W.Frag)(Pt Pw:Addr):Sp:=fun vs H Q _=>∃ (a:Addr) (ns:List Int),vs=[.ref a]/\yO K H a (ns.map V.int)/\ns.length<=63/\jI Pt H/\lP Pw H/\∀H',Q (.bl true) H'
theorem HR{f C CB Pt Pw fB:Addr}{fd TQ:FuncData}(F:eh K "law" "law" v9 f fd)(HQ:Pt≠Pw)(B:Bl mg)(TB:E_ K mg CB)(MB:Mk K CB fB)(bB:gX K TQ ["self","sides"] [])(GB:bi P w K mg base bg 11 fB TQ ["self","sides"] (A4 C CB Pt))(PT:bZ P w K mg base bg 1 "_law_pot" ["_law_script","_law_place"] (Bg K))(DR:bZ P w K mg base bg 1 "_law_draw" ["_law_pot_here","_law_many_here"] Bh)(SI:bZ P w K mg base bg 2 "_law_sides" ["_law_pot_here"] Hf)(MA:bZ P w K mg base bg 1 "_law_many" ["_law_sides_here"] Hg)(LE:bZ P w K mg base bg 2 "_law_letters" ["_law_pot_here","_law_many_here"] HG)(HD:bZ P w K mg base bg 2 "_law_hand" ["_law_sides_here","_law_homes","_law_stand"] DS)(WH:bZ P w K mg base bg 8 "wait_hand" ["box","homes","stand"] (Bp C CB))(WR:bZ P w K mg base bg 11 "wait_run" ["box","homes","stand","most"] (DY C CB Pw))(RT:bZ P w K mg base bg 12 "_law_right" ["_law_box","_law_sides_here","_law_homes","_law_stand","_law_most"] (HK C CB Pw)):bi P w K mg base bg 13 f fd ["_law_script"] (xz K Pt Pw):=by
 refine F.ok kE (fun vs H Q E h=>?_) (fun cM A outer s H vs Q E hr h=>?_)
 .obtain⟨a,ns,rfl,_⟩:=h;rfl
 .obtain⟨a,yP,rfl,hS,sU,tb,tw,q⟩:=h;have h1:bO 1 _:=hr.mono (by decide);have h2:bO 2 _:=hr.mono (by decide);have h8:bO 8 _:=hr.mono (by decide);have Ww:bO 11 _:=hr.mono (by decide);refine⟨_,(ah (cr dw rfl (cq rfl B.range (aa (aK (xF rfl) (by rfl) B.max PyProof.Rows.boot_max (aa av (aa (aK (pJ rfl) (by rfl) B.min PyProof.Rows.boot_min (aa av (aa (aK aM (by rfl) B.len dE (aa (pv 0) ag)) ag))) ag))) ag)) (az (i:=1) kE.nd rfl (Or.inl rfl))
    (ah (aN (i:=2) kE.nd rfl (Or.inl rfl) (aA PT h1 aL (aa (pv 0) (aa (pv 1) ag))))
    (ah (aN (i:=3) kE.nd rfl (Or.inl rfl) (bq bt (cR (aa av (aa (aA DR h1 aL (aa (pv 2) (aa av ag))) ag))) (aA DR h1 aL (aa (pv 2) (aa av ag))) (fun _ _=>rfl)))
    (ah (aN (i:=4) kE.nd rfl (Or.inl rfl) (aA SI h2 aL (aa (pv 2) ag)))
    (ah (iB (aA LE h2 aL (aa (pv 2) (aa (aA MA h1 aL (aa (pv 4) ag)) ag))) (dI (n:=2) rfl (aR (az (i:=5) kE.nd rfl (Or.inl rfl)) (aR (az (i:=6) kE.nd rfl (Or.inl rfl)) cJ))))
    (ah (aN (i:=7) kE.nd rfl (Or.inl rfl) (wj MB GB hr rfl TB.OU bB .nil aL (aa (pv 4) ag)))
    (ah (bJ (aO (rJ (d:=0) hr.u) (aA WH h8 aL (aa (pv 7) (aa (pv 5) (aa (pv 6) ag)))) (aA HD h2 aL (aa (pv 4) (aa (pv 5) (aa (pv 6) ag)))) (aT _)) (ap (aJ iz)) aQ)
    (ah (bJ (PW.pt (zm (aO (rJ (d:=0) hr.u) (aA WH h8 aL (aa (pv 7) (aa (dt ag) (aa (dt ag) ag)))) (dt ag) (aT _)) (u4 (aO (m6 (d:=0) hr.u) (aA WR Ww aL (aa (pv 7) (aa (dt ag) (aa (dt ag) (aa (pv 3) ag))))) (cR ag) (aT _))))) (ap (aJ iz)) aQ)
    (ah (cr dw rfl (cq rfl B.range (aa av ag)) (az (i:=8) kE.nd rfl (Or.inl rfl))
     (ap (bJ (dG (dg (aA RT hr aL (aa (pv 7) (aa (pv 4) (aa (pv 5) (aa (pv 6) (aa (pv 3) ag)))))))) (ap (aJ iz)) aQ)))
    (ap (bJ (aO (rJ (d:=0) hr.u) (aA WH h8 aL (aa (pv 7) (aa (pv 5) (aa (pv 6) ag)))) (aA HD h2 aL (aa (pv 4) (aa (pv 5) (aa (pv 6) ag)))) (aT _)) (ap (aJ iz)) aQ)))))))))))
   (ap (aJ iz))),?_⟩
  refine⟨_,rfl,a,_,rfl,.inl hS.seq,3,_,rfl,1,_,rfl,_,rfl,?_⟩;obtain⟨j,hj,j1⟩:∃j:Int,(if (if (((yP.map V.int).length:Nat):Int)<3 then (((yP.map V.int).length:Nat):Int) else 3) > 1 then (if (((yP.map V.int).length:Nat):Int)<3 then (((yP.map V.int).length:Nat):Int) else 3) else 1)=j/\1<=j/\j<=3:=⟨_,rfl,by split <;> split <;> lia⟩
  rw[hj];refine⟨by lia,by lia,dz (n:=j.toNat) (lo:=0) (fun k σ H2=>(∃x1 x2 x3 x4 x5 x6 x7 x8,σ=[some (.ref a),x1,x2,x3,x4,x5,x6,x7,x8])/\yO K H2 a (yP.map V.int)/\jI Pt H2/\lP Pw H2) ⟨⟨_,_,_,_,_,_,_,_,rfl⟩,hS,tb,tw⟩ ?_ (fun σ H2 _=>q H2)⟩;rintro k σ H2 hk ⟨⟨x1,x2,x3,x4,x5,x6,x7,x8,rfl⟩,S2,t2,w2⟩;refine⟨_,rfl,_,rfl,a,yP,k,by rw[fS];rfl,S2.seq,by lia,fun p H3 s3 np p3=>?_⟩;refine⟨_,rfl,p,31,rfl,by decide,by decide,p3,fun d H4 hd s4 p4=>⟨by show 2<=sizeLine;decide,fun L hL=>?_⟩⟩;have sL:=aj (o:=.lst [.int 500,.int (d:Int)]) hL;have Qo:L≠p:=p4.ne hL;refine⟨_,rfl,p,2,rfl,by decide,by decide,p4.same sL,fun e H5 he s5 p5=>?_⟩;obtain⟨B6,MS,pk⟩:∃B6:Nat,([V.int 500,V.int (d:Int)])[e]?=some (.int (B6:Int))/\B6<=500:=by
   match e,he with
   |0,_=>exact⟨500,rfl,by decide⟩
   |1,_=>exact⟨d,rfl,by lia⟩
  have S5:yO K H5 a (yP.map V.int):=(((S2.mono fun o u e=>s3 _ _ e).xy s4 p3).mono fun o u e=>sL _ _ e).xy s5 (p4.same sL);have t5:jI Pt H5:=(((t2.sm s3).mm s4 p3).sm sL).mm s5 (p4.same sL);have w5:lP Pw H5:=(((w2.sm s3).mm s4 p3).sm sL).mm s5 (p4.same sL);refine⟨L,_,_,_,rfl,rfl,a_.of (s5 _ _ af Qo),aY MS,?_⟩;refine⟨_,rfl,p,rfl,p5,fun sd ns H6 s6 p6 Qq BX=>?_⟩;have E9:=BX.E9;refine⟨_,rfl,_,rfl,sd,ns,rfl,Qq,(fun x hx=>(BX.sd x hx).2),p,ns,rfl,HN BX,E9,p6,fun t ha sa homes st H7 s7 p7 ht Hj Wx SG=>?_⟩;refine⟨t,_,rfl,be.of ht,rfl,_,_,rfl,_,_,rfl,rfl,?_⟩;have S7:=(S5.xy s6 p5).xy s7 p6;have t7:jI Pt H7:=(t5.mm s6 p5).mm s7 p6;have w7:lP Pw H7:=(w5.mm s6 p5).mm s7 p6;have Lv:=s7 _ _ Qq (p6.neT Qq);refine⟨_,rfl,fun bx dx nx Pi Pj=>?_⟩;have sN:aE H7 (upd (upd H7 dx (.own bx)) bx (.ins CB dx [])):=(aj (o:=.own bx) Pi).trans (aj (D:=bx) (o:=.ins CB dx []) (by rw[am Pj.symm];exact nx));have Wy:(upd (upd H7 dx (.own bx)) bx (.ins CB dx [])) bx=some (.ins CB dx []):=af;generalize upd (upd H7 dx (.own bx)) bx (.ins CB dx [])=HM at *;refine⟨bx,dx,sd,ns,rfl,Wy,sN _ _ Lv,BX,t7.sm sN,fun H8 BA t8 s8=>⟨rfl,?_⟩⟩;have kp:∀ {c o},H7 c=some o->(∀ps,o≠.mO ps)->H8 c=some o:=fun {c o} e nt=>s8 _ _ (sN _ _ e) (ao e nx) ((t7.sm sN).not (sN _ _ e) nt);have cs:Cs K C CB Pt Pw (fun a=>HM a=none) a bx sd ha sa (yP.map V.int) ns homes st H8:=by
   refine⟨S7.mono fun o u e=>kp e (by intro ps z;cases z),BA,fun z=>?_,kp Lv (by intro ps z;cases z),kp Hj (by intro ps z;cases z),kp Wx (by intro ps z;cases z),t8,w7.keep fun c o e h=>s8 _ _ (sN _ _ e) (ao e nx) ?_⟩
   .rcases w7.sm sN with y|⟨_,y,_⟩ <;> · rw[z] at y;cases y
   .rcases h with z|⟨p,z⟩
    .rw[z];exact HQ.symm
    .exact(t7.sm sN).not (sN _ _ e) (by intro ps y;rw[z] at y;cases y)
  clear kp;refine dP (fun σ H9=>σ=[some (.ref a),some (.int (k:Int)),some (.ref p),some (.int (B6:Int)),some (.ref sd),some (.ref ha),some (.ref sa),some (.ref bx),x8]/\Cs K C CB Pt Pw (fun a=>HM a=none) a bx sd ha sa (yP.map V.int) ns homes st H9) ?_ (fun N hN=>hN _ _ ⟨by rw[fS];rfl,cs⟩);rintro σ H9 ⟨rfl,c9⟩;refine dP (fun σ H9=>σ=[some (.ref a),some (.int (k:Int)),some (.ref p),some (.int (B6:Int)),some (.ref sd),some (.ref ha),some (.ref sa),some (.ref bx),x8]/\Cs K C CB Pt Pw (fun a=>HM a=none) a bx sd ha sa (yP.map V.int) ns homes st H9) ?_ ?_
  rotate_left
  .intro N hN;refine⟨_,rfl,_,rfl,_,rfl,_,bx,ha,sa,ns,homes,st,rfl,c9.box,c9.hh,c9.hs,SG,fun t1 Ha Qr A_=>?_⟩;have ca:=c9.same Qr;refine⟨_,rfl,_,rfl,_,rfl,sd,ha,sa,ns,homes,st,rfl,ca.hd,ca.hh,ca.hs,BX,SG,fun t3 Hb l4 Qs=>?_⟩;exact⟨t1,t3,_,_,rfl,rfl,be.of (l4 _ _ A_),be.of Qs,rfl,Bv,_,rfl,e_ rfl (hN _ _ ⟨rfl,ca.same l4⟩)⟩
  clear c9;rintro σ H9 ⟨rfl,c9⟩;refine dP (fun σ H9=>σ=[some (.ref a),some (.int (k:Int)),some (.ref p),some (.int (B6:Int)),some (.ref sd),some (.ref ha),some (.ref sa),some (.ref bx),x8]/\Cs K C CB Pt Pw (fun a=>HM a=none) a bx sd ha sa (yP.map V.int) ns homes st H9) ?_ ?_
  rotate_left
  .intro N hN;refine⟨_,rfl,by show 0<=sizeLine;decide,fun e1 Wz=>⟨by show 0<=sizeLine;decide,fun e2 Ga=>?_⟩⟩;have q1:=aj (o:=.tup []) Wz;have q2:=aj (o:=.tup []) Ga;have cb:=(c9.same q1).same q2;refine⟨_,bx,e1,e2,ns,[],[],rfl,cb.box,q2 _ _ af,af,Bw,fun t1 Hb sb A_=>⟨by show 0<=sizeLine;decide,fun e3 WA=>?_⟩⟩;have q3:=aj (o:=.tup []) WA;have cc:=(cb.same sb).same q3;refine⟨t1,e3,[],[],rfl,rfl,be.of (q3 _ _ A_),be.of af,rfl,(fun i h=>absurd h (gT _)),_,rfl,e_ rfl ?_⟩;refine⟨_,rfl,by show 0<=sizeLine;decide,fun e4 WB=>⟨by show 0<=sizeLine;decide,fun e5 WC=>?_⟩⟩;have q4:=aj (o:=.tup []) WB;have q5:=aj (o:=.tup []) WC;have cd:=(cc.same q4).same q5;refine⟨_,rfl,_,bx,e4,e5,ns,[],[],B6,rfl,cd.box,cd.nl,q5 _ _ af,af,Bw,pk,cd.tw,fun r N' as Hd RN td WD nr RW WE=>⟨by show 0<=sizeLine;decide,fun e6 WF=>?_⟩⟩;obtain rfl:=HP RN;obtain rfl:as=[]:=List.eq_nil_of_length_eq_zero WE.1;have q6:=aj (o:=.lst []) WF;exact⟨r,e6,[],[],rfl,rfl,a_.of (q6 _ _ RW),a_.of af,rfl,(fun i h=>absurd h (gT _)),_,rfl,e_ rfl (hN _ _ ⟨rfl,(cd.mj HQ WD td).same q6⟩)⟩
  clear c9;rintro σ H9 ⟨rfl,c9⟩;refine dP (fun σ H9=>∃x8,σ=[some (.ref a),some (.int (k:Int)),some (.ref p),some (.int (B6:Int)),some (.ref sd),some (.ref ha),some (.ref sa),some (.ref bx),x8]/\Cs K C CB Pt Pw (fun a=>HM a=none) a bx sd ha sa (yP.map V.int) ns homes st H9) ?_ ?_
  rotate_left
  .intro N hN;refine⟨2,rfl,by lia,by lia,dz (n:=2) (lo:=0) (fun _ σ H9=>∃x8,σ=[some (.ref a),some (.int (k:Int)),some (.ref p),some (.int (B6:Int)),some (.ref sd),some (.ref ha),some (.ref sa),some (.ref bx),x8]/\Cs K C CB Pt Pw (fun a=>HM a=none) a bx sd ha sa (yP.map V.int) ns homes st H9) ⟨_,rfl,c9⟩ ?_ (fun σ H9 z=>hN _ _ z)⟩;rintro i σ Ha hi ⟨x8,rfl,ca⟩;exact⟨_,rfl,_,rfl,_,rfl,_,rfl,_,rfl,_,bx,sd,ha,sa,ns,homes,st,B6,rfl,ca.box,ca.nl,ca.hd,ca.hh,ca.hs,SG,pk,ca.tw,fun Hb WG sb=>⟨_,rfl,e_ rfl ⟨_,rfl,ca.mj HQ sb WG⟩⟩⟩
  clear c9;rintro σ H9 ⟨x8,rfl,c9⟩;refine⟨_,rfl,_,rfl,_,rfl,_,bx,ha,sa,ns,homes,st,rfl,c9.box,c9.hh,c9.hs,SG,fun t1 Ha Qr A_=>?_⟩;have ca:=c9.same Qr;refine⟨_,rfl,_,rfl,_,rfl,sd,ha,sa,ns,homes,st,rfl,ca.hd,ca.hh,ca.hs,BX,SG,fun t3 Hb l4 Qs=>?_⟩;have cb:=ca.same l4;exact⟨t1,t3,_,_,rfl,rfl,be.of (l4 _ _ A_),be.of Qs,rfl,Bv,_,rfl,e_ rfl ⟨⟨_,_,_,_,_,_,_,_,rfl⟩,cb.Qp,cb.tp,cb.tw⟩⟩
end
def FD(K:PySem.W.Frag)(n:Str)(st:Stmt):Prop:=∃ (f:Addr) (oc:Value) (od an:Option Addr) (sl:Array (Option Value)) (kV dc pm cd ct:Value),PySem.W.nsIn K mainGlobals n=some (some (.ref f))/\K.lookup f=some ⟨oc,od,.func (PySem.W.fnOf n n (ci st) (bz st) (aq st) .none kV dc pm an cd ct),sl⟩/\PySem.W.codeIn K cd n=true/\PySem.W.keepIn K (.ref f)=true
def FC(K:PySem.W.Frag)(n:Str)(st:Stmt)(c:Addr):Prop:=∃ (f:Addr) (oc:Value) (od an:Option Addr) (sl:Array (Option Value)) (kV dc pm ct:Value),PySem.W.nsIn K mainGlobals n=some (some (.ref f))/\K.lookup f=some ⟨oc,od,.func (PySem.W.fnOf n n (ci st) (bz st) (aq st) .none kV dc pm an (.ref c) ct),sl⟩/\PySem.W.codeIn K (.ref c) n=true/\PySem.W.keepIn K (.ref f)=true
def MD(K:PySem.W.Frag)(C:Addr)(n q:Str)(st:Stmt):Prop:=∃ (f:Addr) (oc:Value) (od an:Option Addr) (sl:Array (Option Value)) (kV dc pm cd ct:Value),PySem.W.findIn K (.ref C) n=some (some (.ref f))/\PySem.W.isFn K (.ref f)=true/\K.lookup f=some ⟨oc,od,.func (PySem.W.fnOf n q (ci st) (bz st) (aq st) .none kV dc pm an cd ct),sl⟩/\PySem.W.codeIn K cd q=true/\PySem.W.keepIn K (.ref f)=true
def MC(K:PySem.W.Frag)(C:Addr)(n q:Str)(st:Stmt)(c:Addr):Prop:=∃ (f:Addr) (oc:Value) (od an:Option Addr) (sl:Array (Option Value)) (kV dc pm ct:Value),PySem.W.findIn K (.ref C) n=some (some (.ref f))/\PySem.W.isFn K (.ref f)=true/\K.lookup f=some ⟨oc,od,.func (PySem.W.fnOf n q (ci st) (bz st) (aq st) .none kV dc pm an (.ref c) ct),sl⟩/\PySem.W.codeIn K (.ref c) q=true/\PySem.W.keepIn K (.ref f)=true
section
variable {P:Program} {w:World} {K:PySem.W.Frag} {mg:Str->Option Value} {base h:Heap} {n q:Str} {st:Stmt} {f c C:Addr} {oc kV dc pm cd ct:Value} {od an:Option Addr} {sl:Array (Option Value)} {CX:sA} {k:Nat} {ps:List Str} {sp:Sp}
theorem FD.mk(a:PySem.W.nsIn K mainGlobals n=some (some (.ref f)))(l:K.lookup f=some ⟨oc,od,.func (PySem.W.fnOf n n (ci st) (bz st) (aq st) .none kV dc pm an cd ct),sl⟩)(d:PySem.W.codeIn K cd n=true)(k:PySem.W.keepIn K (.ref f)=true):FD K n st:=⟨f,oc,od,an,sl,kV,dc,pm,cd,ct,a,l,d,k⟩
theorem FC.mk(a:PySem.W.nsIn K mainGlobals n=some (some (.ref f)))(l:K.lookup f=some ⟨oc,od,.func (PySem.W.fnOf n n (ci st) (bz st) (aq st) .none kV dc pm an (.ref c) ct),sl⟩)(d:PySem.W.codeIn K (.ref c) n=true)(k:PySem.W.keepIn K (.ref f)=true):FC K n st c:=⟨f,oc,od,an,sl,kV,dc,pm,ct,a,l,d,k⟩
theorem MD.mk(a:PySem.W.findIn K (.ref C) n=some (some (.ref f)))(i:PySem.W.isFn K (.ref f)=true)(l:K.lookup f=some ⟨oc,od,.func (PySem.W.fnOf n q (ci st) (bz st) (aq st) .none kV dc pm an cd ct),sl⟩)(d:PySem.W.codeIn K cd q=true)(k:PySem.W.keepIn K (.ref f)=true):MD K C n q st:=⟨f,oc,od,an,sl,kV,dc,pm,cd,ct,a,i,l,d,k⟩
theorem MC.mk(a:PySem.W.findIn K (.ref C) n=some (some (.ref f)))(i:PySem.W.isFn K (.ref f)=true)(l:K.lookup f=some ⟨oc,od,.func (PySem.W.fnOf n q (ci st) (bz st) (aq st) .none kV dc pm an (.ref c) ct),sl⟩)(d:PySem.W.codeIn K (.ref c) q=true)(k:PySem.W.keepIn K (.ref f)=true):MC K C n q st c:=⟨f,oc,od,an,sl,kV,dc,pm,ct,a,i,l,d,k⟩
def BD(n q:Str)(st:Stmt)(ps:List Str):Prop:=∀ (kV jL pm:Value) (an:Option Addr) (cM ct:Value) (us:List Value),us.length=ps.length->bindArgs (PySem.W.fnOf n q (ci st) (bz st) (aq st) .none kV jL pm an cM ct) ⟨us,[]⟩=pure (ps.zip us)
theorem FD.fJ(X:K.In h)(G:h.Ns mainGlobals mg)(D:FD K n st)(b:BD n n st ps)(o:∀ {f fd},eh K n n st f fd->bi P w K mg base CX k f fd ps sp):bZ P w K mg base CX k n ps sp:=by
 obtain⟨f,_,_,_,_,_,_,_,_,_,a,l,d,kp⟩:=D;have F:=oq (x:=n) (qual:=n) (st:=st) l d kp;exact⟨⟨f,_,ft X G a,kp,F.binds b,o F⟩⟩
theorem FC.fJ(X:K.In h)(G:h.Ns mainGlobals mg)(D:FC K n st c)(b:BD n n st ps)(o:∀ {f fd},sV K n n st f fd c->bi P w K mg base CX k f fd ps sp):bZ P w K mg base CX k n ps sp:=by
 obtain⟨f,_,_,_,_,_,_,_,_,a,l,d,kp⟩:=D;have F:=CP (x:=n) (qual:=n) (st:=st) l d kp;exact⟨⟨f,_,ft X G a,kp,F.fun.binds b,o F⟩⟩
theorem MD.fJ(D:MD K C n q st)(b:BD n q st ps)(o:∀ {f fd},eh K n q st f fd->bi P w K mg base CX k f fd ps sp):mB P w K mg base CX k C n ps sp:=by
 obtain⟨f,_,_,_,_,_,_,_,_,_,a,i,l,d,kp⟩:=D;have F:=oq (x:=n) (qual:=q) (st:=st) l d kp;exact⟨⟨f,_,⟨a,i,kp⟩,F.binds b,o F⟩⟩
end
theorem je{α:Type}{P:List α->Prop}(h:∀a0,P [a0])(l:List α)(e:l.length=1):P l:=by
 cases l with
 |nil=>cases e
 |cons a t=>cases t with
  |nil=>exact h a
  |cons b t=>cases e
theorem ee{α:Type}{P:List α->Prop}(h:∀a0 a1,P [a0,a1])(l:List α)(e:l.length=2):P l:=by
 cases l with
 |nil=>cases e
 |cons a t=>exact je (P:=fun t=>P (a::t)) (h a) t (ik e)
theorem fA{α:Type}{P:List α->Prop}(h:∀a0 a1 a2,P [a0,a1,a2])(l:List α)(e:l.length=3):P l:=by
 cases l with
 |nil=>cases e
 |cons a t=>exact ee (P:=fun t=>P (a::t)) (h a) t (ik e)
theorem ue{α:Type}{P:List α->Prop}(h:∀a0 a1 a2 a3,P [a0,a1,a2,a3])(l:List α)(e:l.length=4):P l:=by
 cases l with
 |nil=>cases e
 |cons a t=>exact fA (P:=fun t=>P (a::t)) (h a) t (ik e)
theorem Lw{α:Type}{P:List α->Prop}(h:∀a0 a1 a2 a3 a4,P [a0,a1,a2,a3,a4])(l:List α)(e:l.length=5):P l:=by
 cases l with
 |nil=>cases e
 |cons a t=>exact ue (P:=fun t=>P (a::t)) (h a) t (ik e)
theorem HS{l:PySem.W.OpenLaw}{w:World}{K:PySem.W.Frag}{h:Heap}{mg:Str->Option Value}{fa:Addr}(X:K.In h)(G:h.Ns mainGlobals mg)(Hk:mg "law"=some (.ref fa)){C cO Pt cW Pw iY eL ck:Addr}{mE pu mG rX mI oX:Tok}(aC:PySem.W.nsIn K mainGlobals "Net"=some (some (.ref C)))(yQ:PySem.W.nsIn K mainGlobals "NoShape"=some (some (.ref iY)))(yR:PySem.W.nsIn K mainGlobals "NoHouse"=some (some (.ref eL)))(Lx:PySem.W.nsIn K mainGlobals "Box"=some (some (.ref ck)))(D_:FD K "is_whole" vN)(By:FD K "is_whole_within" rp)(Ea:FD K "is_house" vO)(Ly:FD K "is_row" Gk)(Lz:FD K "are_unlike_houses" Gs)(LC:FD K "is_tie" Gq)(Eb:FD K "check_ties" vR)(LD:FD K "check_balance" Gr)(HU:FC K "houses_out" tV cO)(HV:FD K "distances_from" AN)(Ec:FD K "check_reached" vS)(HW:FD K "product" AU)(Bz:FD K "pairs_net" rK)(BB:FD K "check_sides" rL)(BC:FD K "box_pairs" rM)(HX:FD K "box_net" AT)(Qt:FD K "under_way" Pz)(Qu:FD K "stand_behind" PB)(Qv:FD K "wait_hand" PQ)(LF:FD K "log_by" Ho)(Qw:FC K "wait_run" Nf cW)(Qx:FD K "stands_of" P7)(Qy:FD K "is_handed_on" P8)(Qz:FD K "beats_under_way" P9)(QA:FD K "waited_at" P_)(LH:FD K "_law_pot" G_)(QB:FD K "_law_draw" Pq)(QC:FD K "_law_sides" Pr)(QD:FD K "_law_many" Ps)(QE:FD K "_law_wish" Pu)(QF:FD K "_law_hand" PF)(QG:FD K "_law_behind" PD)(QH:FD K "_law_log" P6)(QI:FD K "_law_letters" Qk)(QJ:FD K "_law_waited" Qa)(QK:FD K "_law_right" Ql)(LI:FD K "law" v9)(HY:MD K C "__init__" "Net.__init__" xc)(Ed:MD K C "check_house" "Net.check_house" vP)(pg:PySem.W.plainGet K C Str.empty=true)(QL:PySem.W.hasDictIn K C=true)(po:PySem.W.plainOver K C=true)(sa:PySem.W.findIn K (.ref C) "__setattr__"=some (some (.builtin "object.__setattr__")))(mk:PySem.W.makesIn K C=true)(kc:PySem.W.keepIn K (.ref C)=true)(nH:PySem.W.findIn K (.ref C) "house_count"=some none)(nT:PySem.W.findIn K (.ref C) "tie_list"=some none)(nO:PySem.W.findIn K (.ref C) "out_lists"=some none)(nD:PySem.W.findIn K (.ref C) "distances"=some none)(rY:PySem.W.nsIn K mainGlobals "isinstance"=some none)(LJ:PySem.W.nsIn K mainGlobals "int"=some none)(HZ:PySem.W.nsIn K mainGlobals "bool"=some none)(Ee:PySem.W.nsIn K mainGlobals "tuple"=some none)(H_:PySem.W.nsIn K mainGlobals "list"=some none)(LK:PySem.W.nsIn K mainGlobals "str"=some none)(LL:PySem.W.nsIn K mainGlobals "set"=some none)(LM:PySem.W.nsIn K mainGlobals "len"=some none)(Ef:PySem.W.nsIn K mainGlobals "range"=some none)(BE:PySem.W.nsIn K mainGlobals "sorted"=some none)(LN:PySem.W.nsIn K mainGlobals "any"=some none)(LO:PySem.W.nsIn K mainGlobals "max"=some none)(LP:PySem.W.nsIn K mainGlobals "min"=some none)(rZ:PySem.W.nsIn K mainGlobals "ValueError"=some none)(LQ:PySem.W.nsIn K mainGlobals "all"=some none)(LR:PySem.W.nsIn K mainGlobals "zip"=some none)(uf:PySem.W.nsIn K mainGlobals "enumerate"=some none)(mJ:PySem.W.nsIn K mainGlobals "FEWEST_HOUSES"=some (some (.int 2 mE)))(jf:PySem.W.nsIn K mainGlobals "MOST_HOUSES"=some (some (.int 32 pu)))(mK:PySem.W.nsIn K mainGlobals "MOST_TIES_OUT"=some (some (.int 8 mG)))(r0:PySem.W.nsIn K mainGlobals "MOST_SIDES"=some (some (.int 5 rX)))(mL:PySem.W.nsIn K mainGlobals "SHORTEST_SIDE"=some (some (.int 2 mI)))(oY:PySem.W.nsIn K mainGlobals "LONGEST_SIDE"=some (some (.int 8 oX)))(yS:o9 K iY)(yT:o9 K eL)(HQ:Pt≠Pw)(QM:PySem.W.plainGet K ck Str.empty=true)(QN:PySem.W.hasDictIn K ck=true)(QO:PySem.W.plainOver K ck=true)(QP:PySem.W.findIn K (.ref ck) "__setattr__"=some (some (.builtin "object.__setattr__")))(QQ:PySem.W.makesIn K ck=true)(QR:PySem.W.keepIn K (.ref ck)=true)(QS:PySem.W.findIn K (.ref ck) "tied_net"=some none)(QT:PySem.W.findIn K (.ref ck) "side_row"=some none)(Ib:MD K ck "__init__" "Box.__init__" DJ)(QU:MD K ck "place" "Box.place" GS)(QV:MD K ck "house" "Box.house" GT)(QW:MD K ck "phase" "Box.phase" GU)(QX:MD K ck "wish" "Box.wish" GV)(Ic:PySem.W.codeHdIn K cO Pt=true)(QY:PySem.W.codeHdIn K cW Pw=true):
  ∃fd:FuncData,(∀ (s:Shared) (v:Value),BindsTo s fd ⟨[v],[]⟩ [("_law_script",v)])/\∀base:Heap,K.In base->base.Ns mainGlobals mg->pb mg base->bi l.prog w K mg base bg 13 fa fd ["_law_script"] (xz K Pt Pw):=by
 obtain⟨TR,oc,od,an,sl,kV,dc,pm,cd,ct,LU,LV,LX,LY⟩:=LI;have e:=Hk.symm.trans (ft X G LU);cases e;have LZ:=oq (x:="law") (qual:="law") (st:=v9) LV LX LY;obtain⟨TU,Xv,Xw,Xx,Xy,Xz,XA,XB,XC,XD,WJ,WK,WL,WM,WN⟩:=HY;have ug:=oq (x:="__init__") (qual:="Net.__init__") (st:=xc) WL WM WN;have BF:=ug.binds (ps:=["self","many","ties"]) fun _ _ _ _ _ _=>fA fun _ _ _=>rfl;have MK:Mk K C TU:=⟨mk,WJ,WK,kc⟩
 have B:Bl mg:=⟨d6 X G rY,d6 X G LJ,d6 X G HZ,d6 X G Ee,d6 X G H_,d6 X G LK,d6 X G LL,d6 X G LM,d6 X G Ef,d6 X G BE,d6 X G LN,d6 X G LO,d6 X G LP,d6 X G rZ,d6 X G LQ⟩
 have T:NT K mg C:=⟨⟨pg,QL,po,sa⟩,nH,nT,nO,nD,ft X G aC⟩
 have B2:K1 mg:=⟨d6 X G LR,d6 X G uf⟩
 have TB:E_ K mg ck:=⟨⟨QM,QN,QO,QP⟩,QS,QT,ft X G Lx⟩
 obtain⟨L4,XE,XF,XG,XH,XI,XJ,XM,XN,XO,QZ,Q0,Q3,Q4,Q5⟩:=Ib;have L6:=oq (x:="__init__") (qual:="Box.__init__") (st:=DJ) Q3 Q4 Q5;have Q6:=L6.binds (ps:=["self","sides"]) fun _ _ _ _ _ _=>ee fun _ _=>rfl;have MB:Mk K ck L4:=⟨QQ,QZ,Q0,QR⟩
 refine⟨PySem.W.fnOf "law" "law" (ci v9) (bz v9) (aq v9) .none kV dc pm an cd ct,fun s v=>.of_eq rfl,fun base kb nb hb=>?_⟩;have Eg:bZ l.prog w K mg base bg 1 "is_whole" ["thing"] (rA K):=FD.fJ X G D_ (fun _ _ _ _ _ _=>je fun _=>rfl) fun Eh=>AC Eh B;have kF:bZ l.prog w K mg base bg 2 "is_whole_within" ["thing","least","most"] (f_ K):=FD.fJ X G By (fun _ _ _ _ _ _=>fA fun _ _ _=>rfl) fun BG=>yy BG Eg;have r6:bZ l.prog w K mg base bg 3 "is_house" ["many","thing"] (kj K):=FD.fJ X G Ea (fun _ _ _ _ _ _=>ee fun _ _=>rfl) fun Ei=>AE Ei kF;have BH:bZ l.prog w K mg base bg 1 "is_row" ["thing","length"] (tQ K):=FD.fJ X G Ly (fun _ _ _ _ _ _=>ee fun _ _=>rfl) fun L7=>Gn L7 B;have L8:bZ l.prog w K mg base bg 4 "are_unlike_houses" ["many","one","other"] AJ:=FD.fJ X G Lz (fun _ _ _ _ _ _=>fA fun _ _ _=>rfl) fun L9=>Gu L9 r6;have L_:bZ l.prog w K mg base bg 5 "is_tie" ["many","thing"] AK:=FD.fJ X G LC (fun _ _ _ _ _ _=>ee fun _ _=>rfl) fun Ma=>Gv Ma BH L8;have Ej:bZ l.prog w K mg base bg 6 "check_ties" ["many","ties"] iW:=FD.fJ X G Eb (fun _ _ _ _ _ _=>ee fun _ _=>rfl) fun Ek=>AL Ek B ⟨_,ft X G mJ⟩ ⟨_,ft X G jf⟩ kF L_;have Mb:bZ l.prog w K mg base bg 1 "check_balance" ["many","ties"] iW:=FD.fJ X G LD (fun _ _ _ _ _ _=>ee fun _ _=>rfl) fun Mc=>Gw Mc B ⟨_,ft X G mK⟩;have Ie:bZ l.prog w K mg base bg 1 "houses_out" ["many","ties","house"] (rE Pt):=FC.fJ X G HU (fun _ _ _ _ _ _=>fA fun _ _ _=>rfl) fun Ig=>Do Ig B kb hb Ic;have Ih:bZ l.prog w K mg base bg 1 "distances_from" ["out_lists","start"] rF:=FD.fJ X G HV (fun _ _ _ _ _ _=>ee fun _ _=>rfl) fun Ii=>Dp Ii B;have El:bZ l.prog w K mg base bg 1 "check_reached" ["distances"] rG:=FD.fJ X G Ec (fun _ _ _ _ _ _=>je fun _=>rfl) fun Em=>AQ Em B;have Ij:bi l.prog w K mg base bg 7 TU _ ["self","many","ties"] (vU C Pt):=Dt ug T B Ej Mb Ie Ih El;have En:mB l.prog w K mg base (iU l.prog w) 4 C "check_house" ["self","thing"] (rD K C eL):=MD.fJ Ed (fun _ _ _ _ _ _=>ee fun _ _=>rfl) fun yU=>AH yU T ⟨ft X G yR,yT⟩ r6;have v_:bZ l.prog w K mg base bg 1 "product" ["numbers"] (oP K):=FD.fJ X G HW (fun _ _ _ _ _ _=>je fun _=>rfl) fun Ik=>DB Ik;have BI:bZ l.prog w K mg base bg 9 "pairs_net" ["many","pairs"] (oO C Pt):=FD.fJ X G Bz (fun _ _ _ _ _ _=>ee fun _ _=>rfl) fun BJ=>yD BJ B T MK BF Ij BH;have BK:bZ l.prog w K mg base (iU l.prog w) 3 "check_sides" ["sides"] (oR K iY):=FD.fJ X G BB (fun _ _ _ _ _ _=>je fun _=>rfl) fun BL=>yE BL B ⟨ft X G yQ,yS⟩ ⟨_,ft X G r0⟩ ⟨_,ft X G mL⟩ ⟨_,ft X G oY⟩ ⟨_,ft X G jf⟩ kF v_;have BM:bZ l.prog w K mg base bg 2 "box_pairs" ["sides"] oT:=FD.fJ X G BC (fun _ _ _ _ _ _=>je fun _=>rfl) fun BO=>yF BO B v_;have Il:bZ l.prog w K mg base (iU l.prog w) 10 "box_net" ["sides"] (vY K C Pt iY):=FD.fJ X G HX (fun _ _ _ _ _ _=>je fun _=>rfl) fun Im=>DC Im BK BI v_ BM;have Q7:bi l.prog w K mg base bg 11 L4 _ ["self","sides"] (A4 C ck Pt):=GX L6 B TB Il;have Fj:mB l.prog w K mg base (iU l.prog w) 5 ck "place" ["self","house"] (xn K C ck eL):=MD.fJ QU (fun _ _ _ _ _ _=>ee fun _ _=>rfl) fun F=>GY F B T TB En;have Md:mB l.prog w K mg base bg 4 ck "house" ["self","place"] (A8 C ck):=MD.fJ QV (fun _ _ _ _ _ _=>ee fun _ _=>rfl) fun F=>GZ F B B2.zip TB BH r6;have Me:mB l.prog w K mg base (iU l.prog w) 6 ck "phase" ["self","house","home"] (A9 K C ck eL):=MD.fJ QW (fun _ _ _ _ _ _=>fA fun _ _ _=>rfl) fun F=>G0 F B TB Fj;have Mf:mB l.prog w K mg base (iU l.prog w) 7 ck "wish" ["self","house","home"] (Bc K C ck eL):=MD.fJ QX (fun _ _ _ _ _ _=>fA fun _ _ _=>rfl) fun F=>G5 F B TB Me Fj Md;have Mg:bZ l.prog w K mg base bg 1 "under_way" ["stand"] DQ:=FD.fJ X G Qt (fun _ _ _ _ _ _=>je fun _=>rfl) fun Q8=>K9 Q8 B2.enum;have Mh:bZ l.prog w K mg base bg 1 "stand_behind" ["homes","handing"] ub:=FD.fJ X G Qu (fun _ _ _ _ _ _=>ee fun _ _=>rfl) fun Q9=>K_ Q9 B B2;have Mi:bZ l.prog w K mg base bg 8 "wait_hand" ["box","homes","stand"] (Bp C ck):=FD.fJ X G Qv (fun _ _ _ _ _ _=>fA fun _ _ _=>rfl) fun Q_=>Le Q_ B TB Mg Mf;have Mj:bZ l.prog w K mg base bg 10 "log_by" ["homes","stand","most","handed"] (Bu C ck):=FD.fJ X G LF (fun _ _ _ _ _ _=>ue fun _ _ _ _=>rfl) fun Ml=>Hs Ml B Mg Mh Mi;have Mm:bZ l.prog w K mg base bg 11 "wait_run" ["box","homes","stand","most"] (DY C ck Pw):=FC.fJ X G Qw (fun _ _ _ _ _ _=>ue fun _ _ _ _=>rfl) fun Ra=>Lh Ra kb hb QY Mj;have Rb:bZ l.prog w K mg base bg 2 "stands_of" ["homes","stand","log"] (Hy K):=FD.fJ X G Qx (fun _ _ _ _ _ _=>fA fun _ _ _=>rfl) fun Rc=>Ll Rc Mh;have Re:bZ l.prog w K mg base bg 3 "is_handed_on" ["stands","log","letter","beat"] (D8 K):=FD.fJ X G Qy (fun _ _ _ _ _ _=>ue fun _ _ _ _=>rfl) fun Rf=>Lm Rf B kF;have Rg:bZ l.prog w K mg base bg 4 "beats_under_way" ["stands","log","letter"] HA:=FD.fJ X G Qz (fun _ _ _ _ _ _=>fA fun _ _ _=>rfl) fun Rh=>Ln Rh B Re;have Ri:bZ l.prog w K mg base bg 5 "waited_at" ["stands","log","letter"] HB:=FD.fJ X G QA (fun _ _ _ _ _ _=>fA fun _ _ _=>rfl) fun Rj=>Lp Rj Rg;have Mn:bZ l.prog w K mg base bg 1 "_law_pot" ["_law_script","_law_place"] (Bg K):=FD.fJ X G LH (fun _ _ _ _ _ _=>ee fun _ _=>rfl) fun Mo=>He Mo B;have Io:bZ l.prog w K mg base bg 1 "_law_draw" ["_law_pot_here","_law_many_here"] Bh:=FD.fJ X G QB (fun _ _ _ _ _ _=>ee fun _ _=>rfl) fun Rk=>K3 Rk;have Rl:bZ l.prog w K mg base bg 2 "_law_sides" ["_law_pot_here"] Hf:=FD.fJ X G QC (fun _ _ _ _ _ _=>je fun _=>rfl) fun Rm=>K4 Rm B Io;have Ro:bZ l.prog w K mg base bg 1 "_law_many" ["_law_sides_here"] Hg:=FD.fJ X G QD (fun _ _ _ _ _ _=>je fun _=>rfl) fun Rp=>K6 Rp;have Rq:bZ l.prog w K mg base bg 1 "_law_wish" ["_law_sides_here","_law_house","_law_home"] Hh:=FD.fJ X G QE (fun _ _ _ _ _ _=>fA fun _ _ _=>rfl) fun Rr=>K7 Rr B;have Mp:bZ l.prog w K mg base bg 2 "_law_hand" ["_law_sides_here","_law_homes","_law_stand"] DS:=FD.fJ X G QF (fun _ _ _ _ _ _=>fA fun _ _ _=>rfl) fun Rt=>Lc Rt B B2 Rq;have Ru:bZ l.prog w K mg base bg 1 "_law_behind" ["_law_homes","_law_handing"] ub:=FD.fJ X G QG (fun _ _ _ _ _ _=>ee fun _ _=>rfl) fun Rv=>Lb Rv B B2;have Rx:bZ l.prog w K mg base bg 3 "_law_log" ["_law_sides_here","_law_homes","_law_stand","_law_most"] Hw:=FD.fJ X G QH (fun _ _ _ _ _ _=>ue fun _ _ _ _=>rfl) fun Ry=>Lj Ry B Mp Ru;have Rz:bZ l.prog w K mg base bg 2 "_law_letters" ["_law_pot_here","_law_many_here"] HG:=FD.fJ X G QI (fun _ _ _ _ _ _=>ee fun _ _=>rfl) fun RA=>Ls RA B Io;have RB:bZ l.prog w K mg base bg 1 "_law_waited" ["_law_stands","_law_log_here","_law_letter"] HC:=FD.fJ X G QJ (fun _ _ _ _ _ _=>fA fun _ _ _=>rfl) fun RC=>Lr RC B2;have RD:bZ l.prog w K mg base bg 12 "_law_right" ["_law_box","_law_sides_here","_law_homes","_law_stand","_law_most"] (HK C ck Pw):=FD.fJ X G QK (fun _ _ _ _ _ _=>Lw fun _ _ _ _ _=>rfl) fun RE=>Lu RE B Rx Mm Rb Ri RB;exact HR LZ HQ B TB MB Q6 Q7 Mn Io Rl Ro Rz Mp Mi Mm RD
theorem Fk(h:((List.range 2000).any fun c=>PySem.W.codeHdIn K c P)=true):∃c,PySem.W.codeHdIn K c P=true:=
 let ⟨c,_,e⟩:=qx.mp h;⟨c,e⟩
theorem Ip(hO:wJ ts H)(h:a_ K H a xs):yO K H a xs:=by
 rcases h with h|h
 .rcases h with h|⟨o,h⟩
  .rcases hO.2 a with z|⟨_,z⟩|⟨o,ys,z⟩ <;> · rw[h] at z;cases z
  .exact .inl ⟨o,h⟩
 .exact .inr fun H'=>.inr h
theorem walk{l:PySem.W.OpenLaw}{q:Program}{pO:List Str}{XP:(Str->Option Value)->Heap->Prop}{YP:World->Heap->Prop}{d:DefRec}{K:Params->PySem.W.Frag}{Pt Pw:Addr}(hn:l.most=some 63)(JI:d.params.defaults=[])(hY:∀ (w:World) (h:Heap),YP w h->(K w.params).In h)(hT:∀ (w:World) (h:Heap),YP w h->∀P∈[Pt,Pw],h.get? P=some (PySem.W.tabObj #[]))(RF:∀ (w:World),((List.range 2000).any fun c=>PySem.W.codeHdIn (K w.params) c Pt)=true)(RG:∀ (w:World),(K w.params).lookup Pt=none)(RH:∀ (w:World),((List.range 2000).any fun c=>PySem.W.codeHdIn (K w.params) c Pw)=true)(RI:∀ (w:World),(K w.params).lookup Pw=none)(F:∀ (w:World) (mg:Str->Option Value) (fa:Addr) (h:Heap),(K w.params).In h->h.Ns mainGlobals mg->mg d.name=some (.ref fa)->
   ∃fd:FuncData,(∀ (s:Shared) (u:Value),BindsTo s fd ⟨[u],[]⟩ [("_law_script",u)])/\∀base:Heap,(K w.params).In base->base.Ns mainGlobals mg->pb mg base->bi l.prog w (K w.params) mg base bg 13 fa fd ["_law_script"] (xz (K w.params) Pt Pw)):
  PySem.W.WalkO q pO XP YP l.row.toRowW d [] (fun f vs=>PySem.call f vs):=
 Ac (n:=63) (k:=13) (x:="_law_script") (ts:=[Pt,Pw]) (K:=K) (CX:=fun _=>bg) (sp:=fun w=>(xz (K w.params) Pt Pw)) hn (by decide) JI ⟨rfl,by decide,by decide,rfl⟩ hY hT
  (fun w P=>fun e=>(aS.mp e).elim (fun e=>by rw[e];exact Fk (RF w)) (fun e=>by rw[cN.mp e];exact Fk (RH w))) (fun w P=>fun e=>(aS.mp e).elim (fun e=>by rw[e];exact RG w) (fun e=>by rw[cN.mp e];exact RI w)) F
  (fun w H a ns hl hO hS=>⟨a,ns,rfl,Ip hO hS,hl,.inl (hO.1 _ (by simp)),.inl (hO.1 _ (by simp)),fun _=>rfl⟩) fun _ _ _ _ _ z=>z
end ph
open PySem PySem.W PyProof.Rows
namespace PySem.W.Fast
def tw7392861759294833305:=trivial
def tw15852212294444738756:=trivial
def tw17795461353833635151:=trivial
def tw434303810303584978:=trivial
def tw1235862004761435413:=trivial
def tw15417323210065644413:=trivial
def tw16610648303802794561:=trivial
def tw18174515717279124745:=trivial
def tw15506715866208037363:=trivial
def tw15605528649729492464:=trivial
def tw12857803836195299550:=trivial
def tw17147518984993180121:=trivial
def tw3495988322834017111:=trivial
def tw4603021451652340368:=trivial
def tw3669282198659138655:=trivial
def tw12077039961167973756:=trivial
def tw1533701836909600957:=trivial
def tw10065026498906682691:=trivial
def tw6093298057590372084:=trivial
def tw15569968646813292215:=trivial
def tw13507699018568778216:=trivial
def tw12744659673342458702:=trivial
def tw637753108587541897:=trivial
def tw14097184716546366290:=trivial
def tw16049229340640270154:=trivial
def tw5178855911211352213:=trivial
def tw8834791130649550421:=trivial
def tw4031040782535781871:=trivial
def tw829637892677539633:=trivial
def tw18275761937096373693:=trivial
def tw6945939826124727400:=trivial
def tw7603115206776825366:=trivial
def tw7615720666705183591:=trivial
def tw17575281760241847675:=trivial
def tw9940791446565964858:=trivial
def tw15567935316338550170:=trivial
def tw1121243514855740857:=trivial
def tw6912678042173271270:=trivial
def tw14126782446497168403:=trivial
def tw16495416057632715527:=trivial
def tw8871584529919176075:=trivial
def tw13388417030438433885:=trivial
def tw2795398767561354107:=trivial
def tw9355697976710254016:=trivial
def tw5977173536775228321:=trivial
def tw2980457705954766621:=trivial
def tw2700266784730355345:=trivial
def tw5623116681971991072:=trivial
def tw552688741112299339:=trivial
def tw13325662203447785736:=trivial
def tw16645080909957291184:=trivial
def tw3219747174859513984:=trivial
def tw6266129044893149547:=trivial
def tw9094818906607032853:=trivial
def tw4614639284816936909:=trivial
def tw13973450342129894374:=trivial
def tw4144651107461193350:=trivial
def tw6485491518524427960:=trivial
def tw669378025722028393:=trivial
def tw10464417409749536475:=trivial
def tw10405408699957501786:=trivial
def tw2962634344347694226:=trivial
def tw11408646077892162272:=trivial
def tw17798874501188470708:=trivial
def tw14148924438723087093:=trivial
def tw15869752795950157167:=trivial
def tw5359900376091219083:=trivial
def tw14687883298294107559:=trivial
def tw17453578247844764105:=trivial
def tw2754738726483480247:=trivial
def tw4297226944877074134:=trivial
def tw6705254831689729184:=trivial
def tw3735255204396680893:=trivial
def tw17254865906821921723:=trivial
def tw1591177900309081810:=trivial
def tw9312992924757963559:=trivial
def tw8708700653161755976:=trivial
def tw12776529484371106006:=trivial
def tw11698186015778959644:=trivial
def tw10469537285714830050:=trivial
def tw4567827233396517433:=trivial
def tw5490006986291585466:=trivial
def tw6840374994270586815:=trivial
def tw1553946553053924603:=trivial
def tw9853680466883241320:=trivial
def tw33312167706849400:=trivial
def tw13700761411505279195:=trivial
def tw8247399609748076908:=trivial
def tw4817671362092898256:=trivial
def tw8037365856002596710:=trivial
def tw17161473114591286893:=trivial
def tw15839645444276240951:=trivial
def tw16891913145775051041:=trivial
def tw9676415878918658303:=trivial
def tw15867064062282375688:=trivial
def tw12437020442642406507:=trivial
def tw3893122179570912115:=trivial
def tw15564738763166084739:=trivial
def tw8650752061853170599:=trivial
def tw13804902700866669247:=trivial
def tw1225874422864688513:=trivial
def tw2754872792236931780:=trivial
def tw8592286467545689221:=trivial
def tw14448597978935253982:=trivial
def tw5125835165021154282:=trivial
def tw10062298631759307342:=trivial
def tw16955431636120023535:=trivial
def tw10158478213439572311:=trivial
def tw5827012426389107248:=trivial
def tw12851736318419854873:=trivial
def tw12988009882966014674:=trivial
def tw148133229469157383:=trivial
def tw6310616036311043832:=trivial
def tw12561019425100105875:=trivial
def tw12566340449994920943:=trivial
def tw14694261792156223952:=trivial
def tw12570489015881953172:=trivial
def tw16656777989566005447:=trivial
def tw6877725292355808525:=trivial
def tw17000184712742931496:=trivial
def tw8081314737511383979:=trivial
def tw729054558538120712:=trivial
def tw16781829263807993453:=trivial
def tw17945143485595514662:=trivial
def tw8468933485683229149:=trivial
def tw7451780208744796862:=trivial
def tw5291713868787535512:=trivial
def tw7448679096851871685:=trivial
def tw914933254041626962:=trivial
def tw11377660424293630468:=trivial
def tw7749818125257671710:=trivial
def tw6547556888203040853:=trivial
def tw3207020914864800530:=trivial
def tw7954949128915407482:=trivial
def tw6814493003833370511:=trivial
def tw4873592563399841641:=trivial
def tw3994147962142685705:=trivial
def tw15789293258864428406:=trivial
def tw10110999627131568421:=trivial
def tw11089291792814775544:=trivial
def tw5264364947820439151:=trivial
def tw7074920787723321371:=trivial
def tw5246637985038675024:=trivial
def tw6452120973684014406:=trivial
def tw4605732679191816443:=trivial
def tw9644617889785625134:=trivial
def tw1862542686349829466:=trivial
def tw2631808154266407895:=trivial
def tw4745682542332796580:=trivial
def tw14218342975884092172:=trivial
def tw11296442950018115642:=trivial
def tw1890208715605944490:=trivial
def tw7851195633837384004:=trivial
def tw14667307479586975160:=trivial
def tw4911333915613250145:=trivial
def tw10639607140358398268:=trivial
def tw1645740453731424994:=trivial
def tw11923446824128206406:=trivial
def tw11738358782467493652:=trivial
def tw13848796169083287922:=trivial
def tw7413166918344268619:=trivial
def tw7778362638584987256:=trivial
def tw1028844739439637994:=trivial
def tw13895104005893947619:=trivial
def tw15904636320530191267:=trivial
def tw17698630082893956210:=trivial
def tw2916676121431199445:=trivial
def tw3769979329458357126:=trivial
def tw17601874233166235580:=trivial
def tw7529033152780077815:=trivial
def tw10745223932597936247:=trivial
def tw15274382820687781331:=trivial
def tw13542683286481643527:=trivial
def tw10481879239517621603:=trivial
def tw9785837284825647328:=trivial
def tw3349401634950416104:=trivial
def tw12093560775255837724:=trivial
def tw8527349576889327462:=trivial
def tw2806520440660358169:=trivial
def tw7121142137201582683:=trivial
def tw18182054986423671647:=trivial
def tw635597459830860922:=trivial
def tw16388724476900135164:=trivial
def tw3521069808361947248:=trivial
def tw3901462414038296778:=trivial
def tw9402654629376777118:=trivial
def tw14333261310689738338:=trivial
def tw8589811081107369751:=trivial
def tw2924635225627540438:=trivial
def tw2721473580686493462:=trivial
def tw2428316685587411060:=trivial
def tw15567167044124418107:=trivial
def tw11488533712070836730:=trivial
def tw12234195251328967679:=trivial
def tw10300150807447414478:=trivial
def tw4197244050247240248:=trivial
def tw6047187293755046235:=trivial
def tw6626491436809852708:=trivial
def tw13369080663542144161:=trivial
def tw8112732388678197373:=trivial
def tw10876802923123102911:=trivial
def tw18216395472349918095:=trivial
def tw15779645131292661665:=trivial
def tw1559509527700521266:=trivial
def tw12928061545569487128:=trivial
def tw8582653297478937318:=trivial
def tw3973958339065948286:=trivial
def tw3607363349364016942:=trivial
def tw2483622764993011865:=trivial
def tw17640247946106340189:=trivial
def tw13702953815410376453:=trivial
def tw1040725026357974138:=trivial
def tw14222504778188401253:=trivial
def tw17182110689610264546:=trivial
def tw9148917991877535850:=trivial
def tw11178345020589695876:=trivial
def tw10003874642075290523:=trivial
def tw9790427092104814904:=trivial
def tw6137931485352856724:=trivial
def tw6688336132986743409:=trivial
def tw3125221970301306530:=trivial
def tw2638824462061610661:=trivial
def tw7103380943369733367:=trivial
def tw6402930865138177687:=trivial
def tw3446303332968031559:=trivial
def tw1999637301425512329:=trivial
def tw18427355023817746736:=trivial
def tw726958998285831903:=trivial
def tw13295811677217538949:=trivial
def tw8509956484048762182:=trivial
def tw9671363018839826727:=trivial
def tw8226279135145162407:=trivial
def tw5633803511168958862:=trivial
def tw15264140331594466417:=trivial
def tw8135262527408577851:=trivial
def tw13725869575994442337:=trivial
def tw16322180579320511634:=trivial
def tw940141089350553574:=trivial
def tw13757696466054251244:=trivial
def tw64805740073113821:=trivial
def tw2242631570528111374:=trivial
def tw14035054224983789383:=trivial
def tw14875538527440419969:=trivial
def tw1829741510564477431:=trivial
def tw6920430422591509501:=trivial
def tw10498602618318822164:=trivial
def tw8004116375647448393:=trivial
def tw9196667896434653471:=trivial
def tw10767038406983228679:=trivial
def tw10427529879030121102:=trivial
def tw2001812255083680707:=trivial
def tw1183483453083499957:=trivial
def tw16837398937749543455:=trivial
def tw17456348413109410488:=trivial
def tw13533935834891818219:=trivial
def tw5062281709856039133:=trivial
def tw3067619793793304974:=trivial
def tw15293865384509668653:=trivial
def tw14951145755249795034:=trivial
def tw11887762513791783238:=trivial
def tw17323723621874006318:=trivial
def tw17764450008413236253:=trivial
def tw704131035627846254:=trivial
def tw18190133729624247142:=trivial
def tw17129824684751064345:=trivial
def tw3445408308306439027:=trivial
def tw14184302922531109967:=trivial
def tw6377436901612169078:=trivial
def tw9230969619065828738:=trivial
def tw675607210902426638:=trivial
def tw17038103323860209815:=trivial
def tw15724743019939452532:=trivial
def tw9719356601753865008:=trivial
def tw16173712877135688504:=trivial
def tw8326359590492884787:=trivial
def tw3105243957767366717:=trivial
def tw6083638600728676358:=trivial
def tw8398144084875211619:=trivial
def tw16152736110439138916:=trivial
def tw9141614418658926653:=trivial
def tw4129444677437868605:=trivial
def tw2346814449646900684:=trivial
def tw8119963990224106649:=trivial
def tw15452050574777186475:=trivial
def tw14450461989772957372:=trivial
def tw9731563333710179651:=trivial
def tw4332991592183490415:=trivial
def tw16143276376606885337:=trivial
def tw3883993127158877356:=trivial
def tw13047856777598326440:=trivial
def tw2694495525669121808:=trivial
def tw9614972872310572512:=trivial
def tw1699331584105916460:=trivial
def tw4803709070810920502:=trivial
def tw7658474232338494093:=trivial
def tw6081834342036098680:=trivial
def tw13553835812140758773:=trivial
def tw5597493659011065758:=trivial
def tw17102962904608618731:=trivial
def tw17872551697689304015:=trivial
def tw2165586258602756918:=trivial
def tw14607486955317362508:=trivial
def tw11266784882038916030:=trivial
def tw5342866785635399297:=trivial
def tw1768718861648691879:=trivial
def tw6010668229574755072:=trivial
def tw11558429648120163966:=trivial
def tw5924392551851883578:=trivial
def tw13541614737987774558:=trivial
def tw11469769822783466794:=trivial
def tw17559304050901224267:=trivial
def tw3076609533242393736:=trivial
def tw17225948886744280663:=trivial
def tw11474330397600150023:=trivial
def tw16291263978148078717:=trivial
def tw1279949808689004101:=trivial
def tw17508902040654762765:=trivial
def tw5829031003561461925:=trivial
def tw5570326619846140750:=trivial
def tw11317833198498126661:=trivial
def tw17090476173945814079:=trivial
def tw11182436452871865878:=trivial
def tw11889712509071101471:=trivial
def tw16211533105425016586:=trivial
def tw10195780687493267903:=trivial
def tw2695796516866267474:=trivial
def tw9941629900585158757:=trivial
def tw13840115080511263395:=trivial
def tw13055037269232510852:=trivial
def tw1917609762237028931:=trivial
def tw15962247448066267523:=trivial
def tw10910902608235027408:=trivial
def tw16459447765074455943:=trivial
def tw1877749123311727899:=trivial
def tw9297068017295341327:=trivial
def tw7459310554160273361:=trivial
def tw13423796794107573347:=trivial
def tw8070562718733690082:=trivial
def tw17110821221877975974:=trivial
def tw17423698734749482357:=trivial
def tw15516532850986362156:=trivial
def tw17496311913749118683:=trivial
def tw17536621689113431380:=trivial
def tw9795875156512435439:=trivial
def tw12507110919258577168:=trivial
def tw14036836304251244563:=trivial
def tw17821185753509941688:=trivial
def tw2999834523547898571:=trivial
def tw3307254249572212439:=trivial
def tw7754171272328073611:=trivial
def tw12462194735292903566:=trivial
def tw5908898728177352099:=trivial
def tw2794762167989531497:=trivial
def tw2124924316571714573:=trivial
def tw17507007234584144107:=trivial
def tw12145696683945393568:=trivial
def tw5899797465300349112:=trivial
def tw14749535622288341534:=trivial
def tw6852900051087554575:=trivial
def tw425385724479773910:=trivial
def tw15466705651809074002:=trivial
def tw4689602491506625044:=trivial
def tw688573373703962436:=trivial
def tw6557761674976413837:=trivial
def tw14340027586774493087:=trivial
def tw4562729131513851067:=trivial
def tw17192270743654566518:=trivial
def tw3102292427317501682:=trivial
def tw10031948602795568875:=trivial
def tw12032938097347176094:=trivial
def tw5132625603006714088:=trivial
def tw10014841797758646651:=trivial
def tw14048057636316850221:=trivial
def tw12290908055841386457:=trivial
def tw8193470681857194503:=trivial
def tw15000474792240555425:=trivial
def tw4982692161749446651:=trivial
def tw6614572854893822367:=trivial
def tw11718463464665766724:=trivial
def tw4350802357168768110:=trivial
def tw5187912956747618724:=trivial
def tw6066002577544861567:=trivial
def tw2380124959503462777:=trivial
def tw2885421980975335777:=trivial
def tw16376928326102743579:=trivial
def tw16368109815611544541:=trivial
def tw13199882483944196065:=trivial
def tw17699043329342398164:=trivial
def tw9320503798764267792:=trivial
def tw18250132818095503614:=trivial
def tw6142184803725283326:=trivial
def tw17245727455108229112:=trivial
def tw8977165563510029581:=trivial
def tw976819679287050053:=trivial
def tw295157512131424763:=trivial
def tw17408242970570735096:=trivial
def tw7973531522906809131:=trivial
def tw17930948473504242347:=trivial
def tw16391926298228417318:=trivial
def tw14251185032324660870:=trivial
def tw7841834106476683596:=trivial
def tw17451597487661641080:=trivial
def tw7496792626424670446:=trivial
def tw7368848794161041746:=trivial
def tw8759562086097251605:=trivial
def tw1179383137820760984:=trivial
def tw5853020579276468247:=trivial
def tw7405109840168166809:=trivial
def tw13561696460803124487:=trivial
def tw16752703412250786268:=trivial
def tw2322047362505397186:=trivial
def tw7451130692709900075:=trivial
def tw5760780873564793268:=trivial
def tw4345325428837857902:=trivial
def tw16538044853152932160:=trivial
def tw5525719680690459867:=trivial
def tw16768868973459977401:=trivial
def tw8463657693948776749:=trivial
def tw15238634170782791454:=trivial
def tw16045125772662255989:=trivial
def tw14110133829516187430:=trivial
def tw11292509237241574632:=trivial
def tw15387275311728373694:=trivial
def tw18284435865576605331:=trivial
def tw12763761856069709841:=trivial
def tw17437991063920137230:=trivial
def tw12394043118755627496:=trivial
def tw6540715359759129906:=trivial
def tw166271397784325458:=trivial
def tw3012608941669381021:=trivial
def tw6586083412076482593:=trivial
def tw7650702579338708077:=trivial
def tw2371778054562563659:=trivial
def tw3412830871448217874:=trivial
def tw1571320808703967974:=trivial
def tw7276330323488213999:=trivial
def tw956811247266039001:=trivial
def tw3476161906622140572:=trivial
def tw5777885453607999350:=trivial
def tw6955457909903738140:=trivial
def tw11823816674851459977:=trivial
def tw8022327946122799462:=trivial
def tw7182394088714620456:=trivial
def tw1154245341762395447:=trivial
def tw6519688901852460870:=trivial
def tw92952971790891499:=trivial
def tw228771439400149510:=trivial
def tw13300205903976282943:=trivial
def tw14433130256759067824:=trivial
def tw13057942860176926918:=trivial
end PySem.W.Fast
set_option maxRecDepth 100000 in
set_option maxHeartbeats 0 in
theorem PySem.Challenge.cw_neverwait_k75_waiting_told_holds : PySem.Challenge.rw_neverwait_k75_waiting_told.Holds := by
 w_on; o_law; k_head; (case hw=>w_witness2)
 k_fill
 refine ph.walk (l:=PySem.Challenge.rw_neverwait_k75_waiting_told) (Pt:=_) (Pw:=_) rfl rfl (fun w h Y=>PySem.W.km_in_of Y) (fun w h Y=>PySem.W.km_tabs_of Y) ?WO ?WP ?WQ ?WS ?F;case F =>
  intro w mg fa h KX G JJ;refine' ph.HS (Pt:=_) (Pw:=_) KX G JJ ?_ ?_ ?_ ?_ ?_ ?_ ?_ ?_ ?_ ?_ ?_ ?_ ?_ ?_ ?_ ?_ ?_ ?_ ?_ ?_ ?_ ?_ ?_ ?_ ?_ ?_ ?_ ?_ ?_ ?_ ?_ ?_ ?_ ?_ ?_ ?_ ?_ ?_ ?_ ?_ ?_ ?_ ?_ ?_ ?_ ?_ ?_ ?_ ?_ ?_ ?_ ?_ ?_ ?_ ?_ ?_ ?_ ?_ ?_ ?_ ?_ ?_ ?_ ?_ ?_ ?_ ?_ ?_ ?_ ?_ ?_ ?_ ?_ ?_ ?_ ?_ ?_ ?_ ?_ ?_ ?_ ?_ ?_ ?_ ?_ ?_ ?_ ?_ ?_ ?_ ?_ ?_ ?_ ?_;all_goals first
   | (refine' ph.FD.mk ?a ?l ?d ?k; (case a=>k_is); (case l=>k_is); (case d=>k_is); (case k=>k_is))
   | (refine' ph.FC.mk ?a ?l ?d ?k; (case a=>k_is); (case l=>k_is); (case d=>k_is); (case k=>k_is))
   | (refine' ph.MD.mk ?a ?i ?l ?d ?k; (case a=>k_is); (case i=>k_is); (case l=>k_is); (case d=>k_is); (case k=>k_is))
   | (refine' ph.MC.mk ?a ?i ?l ?d ?k; (case a=>k_is); (case i=>k_is); (case l=>k_is); (case d=>k_is); (case k=>k_is))
   | k_is
   | kernel_rfl
   | decide
   | exact ⟨by kernel_rfl,by k_is,by k_is,by k_is,by k_is,by k_is,by k_is,by kernel_rfl⟩
   | skip
 case WP=>intro w; kernel_rfl
 case WO=>intro w; kernel_rfl
 case WS=>intro w; kernel_rfl
 case WQ=>intro w; kernel_rfl
