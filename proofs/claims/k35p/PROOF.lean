import PyProof.Rows.All
import Wide.All
import OpenK.AllK
import Wide.FinOn
import Lean
import PyProof.EqAt
import PyProof.EqKinds
import PyProof.TupleCall
import PySem.Challenge.RW_neverwait_k35_ranks
set_option Elab.async false
set_option linter.all false
set_option maxRecDepth 100000
set_option maxHeartbeats 8000000
def aq:=@PySem.wpAny_bind
def aT:=@List.length_map
def bJ:=@PySem.Heap.get?_push_of_some
def cr:=@List.getElem?_eq_getElem
def bK:=@Nat.lt_of_lt_of_le
def az:=@PyProof.Rows.wpS_bind
def dD:=@List.getElem?_eq_some_iff
def dS:=@List.getD_eq_getElem?_getD
def bf:=@Nat.ne_of_lt
def bg:=@PySem.Heap.lt_size
def aG:=@Nat.le_refl
def bS:=@List.mem_cons_of_mem
def bw:=@List.getElem?_map
def aR:=@List.mem_cons
def bh:=@Option.some.inj
def bU:=@List.mem_cons_self
def bV:=@Bool.false_ne_true
def bT:=@List.size_toArray
def dM:=@PyProof.Rows.boot_isinstance
def ci:=@PySem.Heap.get?_push_size
def am:=@if_neg
def aB:=@PyProof.Rows.wpS_pure
def ao:=@if_pos
def cU:=@List.mem_append_right
def bp:=@Nat.le_trans
def cy:=@List.mem_singleton
def cX:=@List.mem_of_getElem?
def cz:=@List.append_assoc
def du:=@Array.toList_append
def cY:=@PySem.W.mg_none_of
def bW:=@PySem.W.mg_of
def cZ:=@Nat.lt_succ_of_lt
def cV:=@List.lookup_cons
def cE:=@List.mem_append
def dv:=@List.length_cons
def c_:=@List.map_append
def cj:=@getElem?_pos
def ck:=@List.mem_map
def fc:=@PySem.mem_of_lookup
def cu:=@Nat.zero_le
def fK:=@List.mem_append_left
def iH:=@Array.perm_iff_toList_perm
def d5:=@List.mem_range
def fL:=@List.length_append
def gQ:=@List.perm_append_comm
def ff:=@PySem.Heap.get?_push_ne
def fg:=@Bool.and_eq_true
def eF:=@PySem.boot_len
def dN:=@PyProof.Rows.wpS_forRange
def fN:=@PySem.W.kia_one
def fQ:=@List.nodup_cons
def iI:=@Array.length_toList
def ji:=@List.length_replicate
def gA:=@PySem.Heap.size_update
def oy:=@PyProof.Rows.slot_tuple_getitem
def fh:=@Nat.lt_irrefl
def kM:=@List.getElem?_set_self
def gR:=@List.filter_cons
def d6:=@PySem.sizeLine_eq
def iJ:=@List.take_add_one
def iK:=@List.length_range
def kN:=@List.Perm.append_left
def jj:=@Nat.lt_of_le_of_lt
def jk:=@Bool.false_eq_true
def lP:=@PyProof.Rows.boot_tuple
def gT:=@Array.size_map
def iL:=@List.mem_filter
def gB:=@PySem.wpAny_holding
def oz:=@List.getElem?_append_left
def lQ:=@List.length_filter_le
def lR:=@List.getElem?_eq_none
def eQ:=@beq_iff_eq
def kO:=@PySem.F.called_set
def jl:=@List.getElem_mem
def gC:=@List.map_map
def lS:=@List.getElem?_set_ne
def kP:=@PySem.wpAny_Call_Name_kw
def jm:=@decide_eq_false
def lT:=@beq_eq_false_iff_ne
def fj:=@PySem.wpAny_mono
def jn:=@PySem.PassesOwn.never
def kQ:=@Nat.lt_succ_self
def kR:=@List.take_length
def lU:=@List.mem_filterMap
def lV:=@List.filter_append
def oA:=@List.take_append_drop
def iM:=@Nat.ne_of_gt
def dO:=@PyProof.Rows.wpS_mono
def jo:=@List.map_cons
def lW:=@PySem.wpAny_newObj_type
def lX:=@List.all_eq_true
def jp:=@Nat.le_of_lt
def oB:=@PySem.Heap.get?_update_ne
def oC:=@PySem.Heap.SameBut.update
def rm:=@PySem.wpAny_callSpecial?_slot
def lY:=@List.foldl_cons
def kT:=@PySem.Heap.size_push
def rn:=@Array.getElem?_toList
def gE:=@PyProof.Rows.wpS_modify
def vT:=@PyProof.Rows.callWith_type1
def jR:=@Int.toNat_natCast
def jS:=@Array.toList_push
def pC:=@Array.getD_eq_getD_getElem?
def iV:=@PySem.wpAny_passesOwn
def lZ:=@List.mem_of_mem_take
def l0:=@List.mem_of_mem_drop
def pD:=@List.getElem?_append_right
def jT:=@List.length_take
def gU:=@Int.zero_add
def pE:=@List.drop_eq_getElem_cons
def tG:=@PyProof.Rows.F.plain_set_update_loop
def l3:=@List.map_congr_left
def eh:=@if_false
def jU:=@ne_of_beq_false
def jV:=@List.range_succ
def jW:=@List.of_mem_zip
def jX:=@List.append_nil
def jY:=@PySem.wpAny_call_entry
def l4:=@Int.emod_lt_of_pos
def pF:=@List.take_of_length_le
def l5:=@List.pairwise_map
def pG:=@Array.toList_filterMap
def fv:=@PyProof.Rows.size_push'
def gb:=@PySem.wpAny_rule
def gW:=@PySem.wpAny_field
def pH:=@Nat.le_of_ble_eq_true
def l6:=@List.length_drop
def l7:=@Array.toList_map
def ei:=@Ne.symm
def jZ:=@List.any_cons
def l8:=@PySem.wpAny_truthy_bool
def l9:=@PySem.wpAny_loadPart_at
def iW:=@PySem.codeAny_mono
def pI:=@List.replicate_succ'
def iX:=@PyProof.Rows.listUpdate_at
def j3:=@PyProof.Rows.get?_update_seq
def l_:=@List.length_set
def md:=@Int.emod_nonneg
def me:=@Bool.eq_iff_iff
def pJ:=@PySem.W.hideAll_get
def gX:=@PySem.wpAny_call
def pK:=@PySem.codeAny_call_builtin
def pL:=@PySem.W.callWith_K
def tH:=@PySem.F.excBase_ValueError
def tI:=@Int.fmod_eq_emod_of_nonneg
def tJ:=@Int.fdiv_eq_ediv_of_nonneg
def pM:=@PySem.Heap.get?_none_of_le
def mf:=@PySem.wpAny_execs_nil
def tK:=@Classical.byContradiction
def tL:=@Array.getElem?_eq_getElem
def pN:=@decide_eq_true_eq
def pO:=@List.reverse_perm
def j4:=@List.map_id
def tO:=@PySem.F.args_tuple_add_2
def tP:=@PyProof.Rows.boot_sorted
def tQ:=@Option.isSome_iff_exists
def mh:=@List.all_cons
def tR:=@PySem.F.entry_tuple_add
def pP:=@Nat.mod_eq_of_lt
def tS:=@List.length_eq_zero_iff
def tT:=@PySem.Calls.Name_function_global
def tU:=@PySem.F.slot_tuple_add
def tV:=@PyProof.Rows.boot_list
def mi:=@Nat.zero_add
def mj:=@Nat.le_of_eq
def tW:=@List.range_succ_eq_map
def tX:=@List.Perm.append_right
def pQ:=@PySem.wpAny_setState_of
def pR:=@PySem.wpAny_pyIter_list
def pS:=@PySem.wpAny_pyIter_enum
def pT:=@List.Perm.of_eq
def pU:=@Array.Perm.refl
def ml:=@PySem.wpAny_standAt
def tY:=@Nat.eq_of_beq_eq_true
def eR:=@PyProof.Rows.wpS_get
def tZ:=@PySem.W.kla_codeExpr
def t6:=@PySem.W.kla_callFunE
def t7:=@List.length_take_le'
def t8:=@Array.toList_reverse
def t9:=@Array.toList_extract
def j5:=@PySem.wpAny_Name
def t_:=@PySem.W.plainGet_of
def yK:=@PyProof.Rows.F.entry_set_update_loop
def ua:=@List.length_take_le
def ub:=@List.getElem_of_mem
def uc:=@List.getElem?_range
def ud:=@List.filterMap_cons
def ue:=@PySem.Heap.get?_update_other
def pV:=@PySem.codeAny_builtin
def pW:=@Int.ofNat.inj
def pX:=@Bool.not_true
def mm:=@Nat.mod_lt
def uf:=@PySem.Heap.get?_update_self
def ug:=@Array.forIn_toList
def uh:=@Array.append_assoc
def ui:=@PySem.wpAny_newFunctionEnv
def uj:=@PySem.wpAny_loadName_local
def uk:=@of_decide_eq_true
def ul:=@bne_self_eq_false
def pY:=@Nat.succ.inj
def pZ:=@Nat.lt_trans
def um:=@List.ext_getElem?
def uo:=@List.any_eq_false
def uq:=@PySem.Around.frames_deeper
def ur:=@PySem.wpAny_loadName_free
def ut:=@PySem.W.makes_of
def uv:=@List.mem_flatMap
def uw:=@List.countP_cons
def p6:=@PySem.wpAny_newList
def p7:=@Nat.le_succ
def yL:=@Int.mul_le_mul_of_nonneg_left
def ux:=@PySem.wpAny_pyIter_tuple
def uy:=@Int.natCast_add
def uz:=@Bool.or_eq_true
def yM:=@PySem.W.kla_makeFunctionHit
def yN:=@PySem.F.typeOf_object_class
def uA:=@List.nodup_nil
def uB:=@List.drop_zero
def yO:=@Array.toList_setIfInBounds
def yP:=@Array.getElem?_eq_some_iff
def iY:=@PyProof.Rows.wpS_lift
def mn:=@PyProof.Rows.seqEpoch_at
def yQ:=@List.pairwise_iff_getElem
def yR:=@List.getElem?_zip_eq_some
def uC:=@PySem.wpAny_eqBool_int
def uD:=@PySem.noFill_tuple_add
def yS:=@PySem.W.kla_makeFunction
def yT:=@PyProof.noPylong_of_log2
def yU:=@List.length_erase_of_mem
def yV:=@List.getElem?_take_of_lt
def yW:=@List.filterMap_cons_some
namespace L2
open PySem PySem.Spec PyProof.Rows
abbrev nY:=Sum Int Str
def Ej:nY->Value->Bool
 |.inl k,v=>Value.isInt k v
 |.inr x,v=>Value.isStrOf x v
def N0(w:World):nY->Int
 |.inl k=>hashInt k
 |.inr x=>hashStr w x
theorem b8:∀ {k:nY} {v:Value},Ej k v=true->(∃i t,k=Sum.inl i/\v=Value.int i t)\/(∃x t,k=Sum.inr x/\v=Value.str x t)
 |.inl i,v,h=>by
  obtain⟨t,e⟩:=Value.isInt_shape (k:=i) (v:=v) h;exact .inl ⟨i,t,rfl,e⟩
 |.inr x,v,h=>by
  obtain⟨t,e⟩:=Value.isStrOf_shape (x:=x) (v:=v) h;exact .inr ⟨x,t,rfl,e⟩
theorem Fk(a b:Int):decide ((Sum.inl a:nY)=Sum.inl b)=(a==b):=by
 by_cases e:a=b
 .subst e;simp
 .have h:¬ (Sum.inl a:nY)=Sum.inl b:=fun q=>e (Sum.inl.inj q);rw[jm h];exact(lT.mpr e).symm
theorem Fl(a b:Str):decide ((Sum.inr a:nY)=Sum.inr b)=decide (a=b):=by
 by_cases e:a=b
 .subst e;simp
 .have h:¬ (Sum.inr a:nY)=Sum.inr b:=fun q=>e (Sum.inr.inj q);rw[jm h,jm e]
theorem Fm(a:Int)(b:Str):decide ((Sum.inl a:nY)=Sum.inr b)=false:=jm (fun q=>nomatch q)
theorem Fn(a:Str)(b:Int):decide ((Sum.inr a:nY)=Sum.inl b)=false:=jm (fun q=>nomatch q)
def vU(prog:Program)(w:World):PySem.KeyKind prog w nY where
 is:=Ej
 hash:=N0 w
 inj:=fun v a b ha hb=>by
  rcases b8 ha with ⟨i,t,rfl,rfl⟩|⟨x,t,rfl,rfl⟩
  .rcases b8 hb with ⟨j,u,rfl,e⟩|⟨y,u,rfl,e⟩
   .injection e with e1 _;rw[e1]
   .exact nomatch e
  .rcases b8 hb with ⟨j,u,rfl,e⟩|⟨y,u,rfl,e⟩
   .exact nomatch e
   .injection e with e1 _;rw[e1]
 byValue:=fun k v h=>by
  rcases b8 h with ⟨i,t,rfl,rfl⟩|⟨x,t,rfl,rfl⟩ <;> rfl
 pyHash:=fun hv h=>by
  rcases b8 hv with ⟨i,t,rfl,rfl⟩|⟨x,t,rfl,rfl⟩
  .exact wpAny_pyHash_int h
  .exact wpAny_pyHash_str h
 eqBool:=fun hu hv h=>by
  rcases b8 hu with ⟨i,t,rfl,rfl⟩|⟨x,t,rfl,rfl⟩
  .rcases b8 hv with ⟨j,u,rfl,rfl⟩|⟨y,u,rfl,rfl⟩
   .rw[Fk] at h;exact uC h
   .rw[Fm] at h;exact SeqAt.EqAt.int_str i t y u _ _ _ _ h
  .rcases b8 hv with ⟨j,u,rfl,rfl⟩|⟨y,u,rfl,rfl⟩
   .rw[Fn] at h;exact SeqAt.EqAt.str_int x t j u _ _ _ _ h
   .rw[Fl] at h;exact wpAny_eqBool_str h
 «strs»:=fun k x t v h=>by
  rcases b8 h with ⟨i,u,rfl,e⟩|⟨y,u,rfl,e⟩
  .exact nomatch e
  .injection e with e1 _
   subst e1
   cases v <;> rfl
inductive V where
 |bH|bl (b:Bool)|int (i:Int)|str (x:Str)|yA (b:Array UInt8)|yX (b:UInt64)|ref (a:Addr)|ty (n:String)
 deriving DecidableEq
def bq:V->Value->Prop
 |.bH,u=>u=Value.none
 |.bl b,u=>u=Value.bool b
 |.int i,u=>∃t,u=Value.int i t
 |.str x,u=>∃t,u=Value.str x t
 |.yA b,u=>∃t,u=Value.bytes b t
 |.yX b,u=>∃t,u=Value.float b t
 |.ref a,u=>u=Value.ref a
 |.ty n,u=>u=Value.type n
abbrev aK:List V->List Value->Prop:=Paired bq
theorem aK.length(r:aK xs us):xs.length=us.length:=Paired.length r
theorem aK.get:∀ {xs:List V} {us:List Value} {i:Nat} {x:V},aK xs us->xs[i]?=some x->∃u,us[i]?=some u/\bq x u
 |_,_,_,_,.nil,e=>by simp at e
 |_,_,0,_,.cons r _,e=>by simp at e;subst e;exact⟨_,rfl,r⟩
 |_,_,i+1,x,.cons _ t,e=>by
  obtain⟨u,h1,h2⟩:=aK.get (i:=i) (x:=x) t (by simpa using e);exact⟨u,by simpa using h1,h2⟩
theorem aK.set(r:bq x u):∀ {xs:List V} {us:List Value} (i:Nat),aK xs us->aK (xs.set i x) (us.set i u)
 |_,_,_,.nil=>.nil
 |_,_,0,.cons _ t=>.cons r t
 |_,_,i+1,.cons q t=>.cons q (aK.set r i t)
theorem aK.append:∀ {xs ys:List V} {us ws:List Value},aK xs us->aK ys ws->aK (xs++ys) (us++ws)
 |_,_,_,_,.nil,s=>s
 |_,_,_,_,.cons r t,s=>.cons r (aK.append t s)
theorem aK.take:∀ {xs:List V} {us:List Value} (n:Nat),aK xs us->aK (xs.take n) (us.take n)
 |_,_,0,_=>.nil
 |_,_,_+1,.nil=>.nil
 |_,_,n+1,.cons r t=>.cons r (aK.take n t)
theorem aK.drop:∀ {xs:List V} {us:List Value} (n:Nat),aK xs us->aK (xs.drop n) (us.drop n)
 |_,_,0,r=>r
 |_,_,_+1,.nil=>.nil
 |_,_,n+1,.cons _ t=>aK.drop n t
def nZ:Option V->Option Value->Prop
 |some v,some u=>bq v u
 |none,none=>True
 |_,_=>False
def KV{κ:Type}:List (κ×V)->List (κ×Value)->Prop:=Paired fun (p:κ×V) (q:κ×Value)=>p.1=q.1/\bq p.2 q.2
def kV:nY->V
 |.inl i=>.int i
 |.inr x=>.str x
inductive HO where
 |lst (xs:List V)
 |tup (xs:List V)
 |dK (jq:List (nY×V))|dT (jq:List (List nY×V))
 |set (S:Int->Bool) (n:Nat)
 |ins (C dx:Addr) (fs:List (Str×V))
 |own (x:Addr)
 |xd (fs:List (Str×V))
 |met (f x:Addr)
 |MV (lo hi:Int)
 |lh (o:Obj) (u:HO)
 |de (ps:Array Value)
 |ext (φ:Heap->Prop)
abbrev Hp:=Addr->Option HO
def upd(H:Hp)(a:Addr)(o:HO):Hp:=fun b=>if b=a then some o else H b
theorem af:upd H a o a=some o:=by unfold upd;rw[ao rfl]
theorem ah(h:b≠a):upd H a o b=H b:=by unfold upd;rw[am h]
theorem jr:upd (upd H a o) a u=upd H a u:=by
 funext b;unfold upd;split <;> rfl
theorem dQ{H:Hp}{a b:Addr}{o u:HO}(h:H a=some o)(h':H b=some u)(d:o≠u):a≠b:=by
 intro e;subst e;rw[h] at h';exact d (bh h')
theorem ai{H:Hp}{a b:Addr}{o:HO}(h:H a=some o)(h':H b=none):a≠b:=by
 intro e;subst e;rw[h] at h';cases h'
section
variable (P:Program) (w:World)
def gY(h:Heap)(a:Addr)(aH:Array Value):Prop:=∃o,h.get? a=some o/\o.cls=.type "tuple"/\∃n,o.data=.seq aH n/\o.dict=none
theorem gY.tup(p:gY h a aH):IsTup h a aH:=let ⟨o,e,c,n,d,_⟩:=p;⟨o,e,c,n,d⟩
theorem gY.new(h:Heap)(aH:Array Value):gY (h.push { cls:=.type "tuple",data:=.seq aH }) h.objs.size aH:=⟨_,ci _ rfl,rfl,_,rfl,rfl⟩
def bX(H:Hp)(h:Heap)(a:Addr):HO->Prop
 |.lst xs=>xs.length<=sizeLine/\∃ (its:List Value) (n:Nat),aK xs its/\h.get? a=some { cls:=.type "list",data:=.seq its.toArray n }
 |.tup xs=>xs.length<=sizeLine/\∃its:List Value,aK xs its/\gY h a its.toArray
 |.dK jq=>jq.length<=sizeLine/\(a==sysModules)=false/\∃vs,KV jq vs/\h.DictOf (vU P w) a vs
 |.dT jq=>jq.length<=sizeLine/\(a==sysModules)=false/\∃xs:List (List nY×Addr×Value),
   Paired (fun (p:List nY×V) (q:List nY×Addr×Value)=>p.1=q.1/\H q.2.1=some (.tup (p.1.map kV))/\bq p.2 q.2.2) jq xs/\
   ∃o es ep,h.get? a=some o/\o.ExactDict/\o.data=.dict es ep/\es.toList=xs.map (entryOfKey (tupleKind (vU P w)))/\(xs.map (·.1)).Nodup
 |.set S n=>h.SetOf (intKind P w) a S n
 |.ins C dx fs=>H dx=some (.own a)/\fs.length<=1000/\dx≠a/\h.get? a=some (PySem.W.instObj C dx)/\
   ∃mA,h.Ns1 dx mA/\(∀f,nZ (fs.lookup f) (mA f))/\PySem.Within mA (fs.map (·.1))
 |.own _=>∃o,h.get? a=some o
 |.xd fs=>∃mA,h.Ns1 a mA/\∀f,nZ (fs.lookup f) (mA f)
 |.MV lo hi=>∃t u v,h.get? a=some { cls:=.type "range",data:=.fields #[.int lo t,.int hi u,.int 1 v] }
 |.lh o u=>h.get? a=some o/\bX H h a u
 |.de ps=>h.get? a=some { cls:=.none,data:=.fields ps }
 |.met f x=>h.get? a=some (PySem.W.methodObj (.ref f) (.ref x))
 |.ext φ=>φ h/\(∃o,h.get? a=some o)/\∀h1 h2:Heap,φ h1->(∀o,h1.get? a=some o->h2.get? a=some o)->φ h2
def gZ(H:Hp)(h:Heap):Prop:=∀a o,H a=some o->bX P w H h a o
end
section
variable {P:Program} {w:World} {H H':Hp} {h h':Heap} {a:Addr} {o:HO}
theorem bX.lt(x:bX P w H h a o):a<h.objs.size:=by
 cases o with
 |lst xs=>obtain⟨_,_,_,_,e⟩:=x;exact bg e
 |tup xs=>obtain⟨_,_,_,p⟩:=x;exact p.tup.lt
 |dK jq=>obtain⟨_,_,_,_,o,_,_,e,_⟩:=x;exact bg e
 |dT jq=>obtain⟨_,_,_,_,o,_,_,e,_⟩:=x;exact bg e
 |set S n=>obtain⟨o,_,_,_,e,_⟩:=x;exact bg e
 |ins C dx fs=>obtain⟨_,_,_,e,_⟩:=x;exact bg e
 |own y=>obtain⟨_,e⟩:=x;exact bg e
 |xd fs=>obtain⟨_,⟨_,_,_,e,_⟩,_⟩:=x;exact bg e
 |MV lo hi=>obtain⟨_,_,_,e⟩:=x;exact bg e
 |lh ob u=>obtain⟨e,_⟩:=x;exact bg e
 |de ps=>exact bg (show h.get? a=some _ from x)
 |met f y=>exact bg (show h.get? a=some _ from x)
 |ext φ=>obtain⟨_,⟨_,e⟩,_⟩:=x;exact bg e
theorem Paired.Jb:∀ {l₁:List α} {l₂:List β},Paired F l₁ l₂->(∀a b,F a b->G a b)->Paired G l₁ l₂
 |_,_,.nil,_=>.nil
 |_,_,.cons r t,f=>.cons (f _ _ r) (Paired.Jb t f)
theorem bX.iE(x:bX P w H h a o)(k:∀b u,(b=a\/H b=some (.own a))->h.get? b=some u->h'.get? b=some u)(ho:∀b,H b=some (.own a)->H' b=some (.own a))(ht:∀b xs,H b=some (.tup xs)->H' b=some (.tup xs)):bX P w H' h' a o:=by
 induction o with
 |lst xs=>obtain⟨z,its,n,r,e⟩:=x;exact⟨z,its,n,r,k _ _ (.inl rfl) e⟩
 |tup xs=>obtain⟨z,its,r,ob,e,c⟩:=x;exact⟨z,its,r,ob,k _ _ (.inl rfl) e,c⟩
 |dK jq=>obtain⟨z,y,vs,r,ob,es,ep,e,c⟩:=x;exact⟨z,y,vs,r,ob,es,ep,k _ _ (.inl rfl) e,c⟩
 |dT jq=>
  obtain⟨z,y,xs,r,ob,es,ep,e,c⟩:=x;exact⟨z,y,xs,Paired.Jb r fun p q z=>⟨z.1,ht _ _ z.2.1,z.2.2⟩,ob,es,ep,k _ _ (.inl rfl) e,c⟩
 |set S n=>obtain⟨ob,es,ep,t,e,c⟩:=x;exact⟨ob,es,ep,t,k _ _ (.inl rfl) e,c⟩
 |ins C dx fs=>
  obtain⟨d,z,ne,e,mA,⟨od,es,ep,e2,c⟩,r⟩:=x;exact⟨ho _ d,z,ne,k _ _ (.inl rfl) e,mA,⟨od,es,ep,k _ _ (.inr d) e2,c⟩,r⟩
 |own y=>obtain⟨ob,e⟩:=x;exact⟨ob,k _ _ (.inl rfl) e⟩
 |xd fs=>obtain⟨mA,⟨od,es,ep,e,c⟩,r⟩:=x;exact⟨mA,⟨od,es,ep,k _ _ (.inl rfl) e,c⟩,r⟩
 |MV lo hi=>obtain⟨t,u,v,e⟩:=x;exact⟨t,u,v,k _ _ (.inl rfl) e⟩
 |lh ob u ih=>obtain⟨e,q⟩:=x;exact⟨k _ _ (.inl rfl) e,ih q⟩
 |de ps=>
  have e:h.get? a=some { cls:=.none,data:=.fields ps }:=x;show h'.get? a=some { cls:=.none,data:=.fields ps };exact k a _ (.inl rfl) e
 |met f y=>
  have e:h.get? a=some (PySem.W.methodObj (.ref f) (.ref y)):=x;show h'.get? a=some (PySem.W.methodObj (.ref f) (.ref y));exact k a _ (.inl rfl) e
 |ext φ=>obtain⟨p,⟨o,e⟩,st⟩:=x;exact⟨st _ _ p fun o q=>k _ _ (.inl rfl) q,⟨o,k _ _ (.inl rfl) e⟩,st⟩
theorem gZ.lt(x:gZ P w H h)(e:H a=some o):a<h.objs.size:=(x a o e).lt
theorem gZ.fresh(x:gZ P w H h)(e:h.objs.size<=a):H a=none:=by
 cases q:H a with
 |none=>rfl
 |some u=>exact absurd (bK (x.lt q) e) (fh _)
theorem gZ.kept(x:gZ P w H h)(k:∀b u,h.get? b=some u->h'.get? b=some u):gZ P w H h':=fun a o e=>
 (x a o e).iE (fun b u _ q=>k b u q) (fun _ q=>q) fun _ _ q=>q
theorem gZ.laid(x:gZ P w H h)(k:∀b u,h.get? b=some u->h'.get? b=some u)(hp:h.objs.size<=a)(new:bX P w (upd H a o) h' a o):gZ P w (upd H a o) h':=fun b u e=>by
 have hn:=x.fresh hp;by_cases hb:b=a
 .subst hb;rw[af] at e;cases e;exact new
 .rw[ah hb] at e;exact(x b u e).iE (fun c v _ q=>k c v q) (fun c q=>by rw[ah (ai q hn)];exact q) fun c xs q=>by rw[ah (ai q hn)];exact q
end
def Rd(H:Hp)(a:Addr)(u:HO):Prop:=H a=some u\/∃o,H a=some (.lh o u)
theorem Rd.ok(r:Rd H a u)(x:gZ P w H h):bX P w H h a u:=by
 rcases r with r|⟨o,r⟩
 .exact x a u r
 .obtain⟨_,q⟩:=x a _ r;exact q
def MW:Option HO->Prop
 |some (.lst _)=>True
 |some (.dK _)=>True
 |some (.dT _)=>True
 |some (.set _ _)=>True
 |some (.ins _ _ _)=>True
 |some (.ext _)=>True
 |_=>False
section
variable {P:Program} {w:World} {H:Hp} {h h':Heap} {x e:Addr} {o':HO}
theorem gZ.write(ok:gZ P w H h)(mu:MW (H x))(he:e=x\/H e=some (.own x))(k:∀b u,b≠e->h.get? b=some u->h'.get? b=some u)(Im:∃u,h'.get? e=some u)(new:bX P w (upd H x o') h' x o'):gZ P w (upd H x o') h':=fun b u q=>by
 have Jc:∀c y,H c=some (.own y)->c≠x:=fun c y r z=>by subst z;rw[r] at mu;exact mu
 have N2:∀c xs,H c=some (.tup xs)->c≠x:=fun c xs r z=>by subst z;rw[r] at mu;exact mu
 by_cases hb:b=x
 .subst hb;rw[af] at q;cases q;exact new
 .rw[ah hb] at q;by_cases BH:b=e
  .have q':H b=some (.own x):=by
    rcases he with z|z
    .exact absurd (BH.trans z) hb
    .rw[BH];exact z
   rw[q] at q';cases q';obtain⟨v,hv⟩:=Im;exact⟨v,by rw[BH];exact hv⟩
  .refine(ok b u q).iE (fun c v hc r=>k c v ?_ r) (fun c r=>by rw[ah (Jc c b r)];exact r) fun c xs r=>by rw[ah (N2 c xs r)];exact r
   rcases hc with rfl|hc
   .exact BH
   .rintro rfl;rcases he with z|z
    .exact Jc c b hc z
    .rw[hc] at z;cases z;exact hb rfl
end
structure Un(fs ex:List Addr)(H H':Hp)(h h':Heap):Prop where
 keep:∀b o,h.get? b=some o->H b=none->b∉fs->b∉ex->h'.get? b=some o
 slot:∀b o,h.get? b=some o->H b=none->b∈fs->b∉ex->∃sl,h'.get? b=some { o with slots:=sl }
 free:∀b o,h.get? b=some o->H b=none->b∉ex->H' b=none
 there:∀b o,h.get? b=some o->b∉ex->∃o',h'.get? b=some o'
 d7:∀b xs,H b=some (.tup xs)->H' b=some (.tup xs)
 eJ:∀b o u,H b=some (.lh o u)->H' b=some (.lh o u)
 eS:∀b ps,H b=some (.de ps)->∃more,H' b=some (.de (ps++more))
section
variable {fs N3 ex Yc:List Addr} {H H1 H2:Hp} {h h1 h2 h':Heap} {a x e:Addr} {o:HO}
theorem Un.any(u:Un fs ex H H1 h h1)(q:h.get? b=some ob)(n:H b=none)(hx:b∉ex):∃sl,h1.get? b=some { ob with slots:=sl }:=by
 by_cases hb:b∈fs
 .exact u.slot b ob q n hb hx
 .exact⟨ob.slots,u.keep b ob q n hb hx⟩
theorem Un.kept(k:∀b u,h.get? b=some u->h'.get? b=some u):Un fs ex H H h h':=
 ⟨fun b ob q _ _ _=>k b ob q,fun b ob q _ _ _=>⟨ob.slots,k b ob q⟩,fun _ _ _ n _=>n,fun b ob q _=>⟨ob,k b ob q⟩,fun _ _ q=>q,fun _ _ _ q=>q,fun _ ps q=>⟨#[],by rw[q];simp⟩⟩
theorem Un.refl:Un fs ex H H h h:=Un.kept fun _ _ q=>q
theorem Un.laid(k:∀b u,h.get? b=some u->h'.get? b=some u)(hp:h.objs.size<=a)(hn:H a=none):Un fs ex H (upd H a o) h h' where
 keep:=fun b u q _ _ _=>k b u q
 slot:=fun b u q _ _ _=>⟨u.slots,k b u q⟩
 free:=fun b u q n _=>by rw[ah (bf (bK (bg q) hp))];exact n
 there:=fun b u q _=>⟨u,k b u q⟩
 d7:=fun b xs q=>by rw[ah (ai q hn)];exact q
 eJ:=fun b u xs q=>by rw[ah (ai q hn)];exact q
 eS:=fun b ps q=>⟨#[],by rw[ah (ai q hn),q];simp⟩
theorem Un.write(mu:MW (H x))(he:e=x\/H e=some (.own x))(k:∀b u,b≠e->h.get? b=some u->h'.get? b=some u)(Im:∃u,h'.get? e=some u):Un fs ex H (upd H x o) h h':=by
 have hx:∀b,H b=none->b≠x:=fun b n z=>by subst z;rw[n] at mu;exact mu
 have hb:∀b,H b=none->b≠e:=fun b n z=>by
  subst z;rcases he with r|r
  .exact hx b n r
  .rw[n] at r;cases r
 have hm:∀b u,H b=some u->¬ MW (some u)->b≠x:=fun b u q nm z=>by subst z;rw[q] at mu;exact nm mu
 refine⟨fun b u q n _ _=>k b u (hb b n) q,fun b u q n _ _=>⟨u.slots,k b u (hb b n) q⟩,fun b u q n _=>by rw[ah (hx b n)];exact n,fun b u q _=>?_,
  fun b xs q=>by rw[ah (hm b _ q fun z=>z)];exact q,fun b u xs q=>by rw[ah (hm b _ q fun z=>z)];exact q,fun b ps q=>⟨#[],by rw[ah (hm b _ q fun z=>z),q];simp⟩⟩
 by_cases BH:b=e
 .subst BH;exact Im
 .exact⟨u,k b u BH q⟩
end
def MX(h:Heap)(H:Hp):List Addr:=(List.range h.objs.size).filter fun a=>(H a).isSome
def n0(h:Heap)(H:Hp):Heap:=PySem.W.hideAll h (MX h H)
theorem xn(h:Heap)(H:Hp):(n0 h H).objs.size=h.objs.size:=PySem.W.hideAll_size _ _
theorem yY(e:h.get? b=some o)(n:H b=none):(n0 h H).get? b=some o:=
 pJ _ e fun hm=>by
  have q:(H b).isSome=true:=(iL.mp hm).2;rw[n] at q;simp at q
theorem B5(e:(n0 h H).get? b=some o):h.get? b=some o/\H b=none:=by
 have e':h.get? b=some o:=PySem.W.of_hideAll (MX h H) e;refine⟨e',?_⟩;cases q:H b with
 |none=>rfl
 |some x=>
  have hm:b∈MX h H:=iL.mpr ⟨d5.mpr (bg e'),by simp[q]⟩;have z:(n0 h H).get? b=none:=PySem.W.hideAll_none (MX h H) hm;rw[z] at e;cases e
def gc(g h:Heap)(L:Addr):List (Addr×Obj):=(List.range h.objs.size).filterMap fun a=>if a=L\/(g.get? a).isSome=true then none else (h.get? a).map fun o=>(a,o)
theorem g9(h1:a≠L)(h2:g.get? a=none)(h3:h.get? a=some o):(a,o)∈gc g h L:=
 lU.mpr ⟨a,d5.mpr (bg h3),by simp[h1,h2,h3]⟩
theorem mq(hp:p∈gc g h L):p.1≠L/\g.get? p.1=none/\h.get? p.1=some p.2:=by
 obtain⟨b,_,e⟩:=lU.mp hp;split at e
 .cases e
 .rename_i hn;cases q:h.get? b with
  |none=>rw[q] at e;simp at e
  |some u=>
   rw[q] at e;simp only[Option.map_some,Option.some.injEq] at e;subst e;refine⟨fun z=>hn (.inl z),?_,q⟩;show g.get? b=none;cases r:g.get? b with
   |none=>rfl
   |some v=>exact(hn (.inr (by simp[r]))).elim
theorem yZ:News g L h (gc g h L):=fun p hp=>let ⟨a,b,c⟩:=mq hp;⟨c,a,b⟩
structure Mod(K:PySem.W.Frag)(mg:Str->Option Value)(base:Heap):Prop where
 Ek:K.In base
 glob:base.Ns mainGlobals mg
 blt:∃mb,base.Ns builtinsNs mb/\∀x:Str,x≠"__name__"->mb x=bootBuiltins x
 nolimit:base.NoLimit
structure Cx where
 prog:Program
 w:World
 K:PySem.W.Frag
 mg:Str->Option Value
 base:Heap
 A:Around
 N:List Str
 s₀:Shared
 H₀:Hp
 env:Env
 outer:List Env
 stack:List Env
 ex:List Addr
 fn:Str->Bool
 calm:Bool
 pn:List (Addr×Obj)
 xe:Value->Shared->Prop
def fS(l:List Env):List Addr:=l.filterMap (·.frame)
abbrev Cx.fs(X:Cx):List Addr:=fS X.outer
def Io(sc:Scope)(x:Str):Prop:=sc.names.lookup x=some .local\/sc.names.lookup x=some .cell\/sc.names.lookup x=some .free
def Jd(sc:Scope)(x:Str):Prop:=sc.names.lookup x=some .local\/sc.names.lookup x=some .cell
def N4(env:Env)(h:Heap)(m:Str->Option Value)(x:Str)(u:Value):Prop:=
 (env.kindOf x=some .local/\m x=some u)\/((env.kindOf x=some .cell\/env.kindOf x=some .free)/\∃c,env.cells.lookup x=some c/\h.IsCell c (some u))
structure Cx.Ok(X:Cx):Prop where
 mod:Mod X.K X.mg X.base
 kind:X.env.scope.kind=.function
 glob:X.env.globals=mainGlobals
 blt:X.env.builtins=builtinsNs
 above:X.s₀.heap.objs.size<=X.env.locals
 inj:∀x y c,X.env.cells.lookup x=some c->X.env.cells.lookup y=some c->x=y
 has:∀x,(X.env.kindOf x=some .cell\/X.env.kindOf x=some .free)->∃c,X.env.cells.lookup x=some c
 B6:∀x c,X.fn x=true->X.env.cells.lookup x=some c->X.s₀.heap.objs.size<=c
 hd:X.calm=true->X.A.handled=none
 frames:X.A.frames=some X.stack
 vV:X.stack=X.outer\/(X.stack=X.env::X.outer/\X.env.frame=some X.env.locals)
 Ip:∀b∈X.ex,b≠X.env.locals/\∀x c,X.env.cells.lookup x=some c->c≠b
 bs:∀b o,X.base.get? b=some o->X.s₀.heap.get? b=some o/\X.H₀ b=none
 tf:X.base.objs.size<=X.s₀.heap.objs.size
 fT:∀b o,X.base.get? b=some o->b∉X.ex
 uE:∀b∈X.ex,b∉X.fs
 ge:X.s₀.heap.FunFrames X.base X.outer
 xo:∀b∈X.fs,X.H₀ b=none
structure av(X:Cx)(ae:List (Addr×Obj))(σ:List (Option V))(H:Hp)(s:Shared):Prop where
 ok:X.Ok
 os:s.os=X.s₀.os
 bare:AllBare s.gens
 base:Un X.fs X.ex X.H₀ H X.s₀.heap s.heap
 loc:∃m,s.heap.Ns X.env.locals m/\∀ (i:Nat) (x:Str) (v:V),X.N[i]?=some x->σ[i]?=some (some v)->Io X.env.scope x->∃u,bq v u/\N4 X.env s.heap m x u
 cell:∀x c,X.env.cells.lookup x=some c->∃v,s.heap.IsCell c v
 free:H X.env.locals=none
 dR:∀x c,X.env.cells.lookup x=some c->H c=none
 pin:∀p∈X.pn++ae,s.heap.get? p.1=some p.2/\H p.1=none/\p.1≠X.env.locals/\p.1∉X.fs/\∀v,p.2.data≠.cell v
 aW:gZ X.prog X.w H s.heap
 len:σ.length=X.N.length
section
variable {X:Cx} {ae:List (Addr×Obj)} {σ:List (Option V)} {H H':Hp} {s:Shared} {h':Heap}
theorem Cx.Ok.N5(ok:X.Ok)(e:X.base.get? b=some o):b∉X.fs:=fun hb=>by
 have:=(ok.ge.mem hb).1;rw[e] at this;cases this
theorem av.bs(I:av X ae σ H s):∀b o,X.base.get? b=some o->s.heap.get? b=some o/\H b=none:=fun b o e=>
 ⟨I.base.keep b o (I.ok.bs b o e).1 (I.ok.bs b o e).2 (I.ok.N5 e) (I.ok.fT b o e),I.base.free b o (I.ok.bs b o e).1 (I.ok.bs b o e).2 (I.ok.fT b o e)⟩
theorem av.bk(I:av X ae σ H s):∀b o,X.base.get? b=some o->s.heap.get? b=some o:=fun b o e=>(I.bs b o e).1
theorem av.mod(I:av X ae σ H s):Mod X.K X.mg X.base:=I.ok.mod
theorem av.iN(I:av X ae σ H s):X.K.In s.heap:=I.ok.mod.Ek.keeps I.bk
theorem av.nolimit(I:av X ae σ H s):s.heap.NoLimit:=I.ok.mod.nolimit.keeps I.bk
theorem av.fr(I:av X ae σ H s):∃m,Fr X.base X.env.locals s.heap m:=
 let ⟨m,hn,_⟩:=I.loc
 ⟨m,hn,I.bk,bp I.ok.tf I.ok.above⟩
theorem av.lt(I:av X ae σ H s):X.env.locals<s.heap.objs.size:=let ⟨_,hn,_⟩:=I.loc;hn.lt
theorem av.sz(I:av X ae σ H s):X.s₀.heap.objs.size<=s.heap.objs.size:=bp I.ok.above (jp I.lt)
theorem av.N6(I:av X ae σ H s)(h:s.heap.objs.size<=a):a∉X.fs:=fun hb=>by
 obtain⟨_,o,ho,_⟩:=I.ok.ge.mem hb;exact absurd (bK (bg ho) (bp I.sz h)) (fh _)
theorem av.BI(I:av X ae σ H s):∀x c,X.env.cells.lookup x=some c->c≠X.env.locals:=fun x c e z=>by
 obtain⟨v,o,ho,hd⟩:=I.cell x c e;obtain⟨m,⟨o',es,ep,nV,y6,_⟩,_⟩:=I.loc;rw[z,nV] at ho;cases ho;rw[y6] at hd;cases hd
theorem av.ge(I:av X ae σ H s):s.heap.FunFrames X.base X.outer:=by
 have all:∀ (l:List Env),(∀b∈fS l,b∈X.fs)->X.s₀.heap.FunFrames X.base l->s.heap.FunFrames X.base l:=by
  intro l;induction l with
  |nil=>intro _ _;trivial
  |cons env r ih=>
   intro hs hl;obtain⟨hk,⟨L,o,hf,hn,ho,hd⟩,hr⟩:=hl;have hL:L∈X.fs:=hs L (by unfold fS;rw[ud,hf];exact bU);obtain⟨sl,e⟩:=I.base.slot L o ho (I.ok.xo L hL) hL fun z=>I.ok.uE L z hL;exact⟨hk,⟨L,_,hf,hn,e,hd⟩,ih (fun b hb=>hs b (by unfold fS;rw[ud,hf];exact bS _ hb)) hr⟩
 exact all X.outer (fun _ hb=>hb) I.ok.ge
theorem av.stack(I:av X ae σ H s):s.heap.FunFrames X.base X.stack:=by
 rcases I.ok.vV with e|⟨e,hf⟩
 .rw[e];exact I.ge
 .rw[e];obtain⟨m,hn,_⟩:=I.loc;refine .cons (by rw[I.ok.kind];decide) hf hn ?_ I.ge;exact pM (bp I.ok.tf I.ok.above)
theorem av.mv(I:av X ae σ H s):∀b∈fS X.stack,b∈X.env.locals::X.fs:=fun b hb=>by
 rcases I.ok.vV with e|⟨e,hf⟩
 .rw[e] at hb;exact bS _ hb
 .rw[e] at hb;unfold fS at hb;rw[ud,hf] at hb;exact hb
theorem av.fm(I:av X ae σ H s):∀b∈fS X.stack,H b=none:=fun b hb=>by
 rcases aR.mp (I.mv b hb) with e|hb
 .rw[e];exact I.free
 .obtain⟨_,o,ho,_⟩:=I.ok.ge.mem hb;exact I.base.free b o ho (I.ok.xo b hb) fun z=>I.ok.uE b z hb
theorem av.step{g':Array GenState}{t':Nat}{d':Drawn}{ch:List Addr}(I:av X ae σ H s)(BJ:∀b∈ch,(b∈X.ex\/X.s₀.heap.objs.size<=b)/\b≠X.env.locals/\(∀x c,X.env.cells.lookup x=some c->c≠b)/\∀p∈X.pn++ae,p.1≠b)(keep:∀b o,b≠X.env.locals->b∉X.fs->b∉ch->s.heap.get? b=some o->H b=none->h'.get? b=some o)(slot:∀b o,b≠X.env.locals->b∈X.fs->b∉ch->s.heap.get? b=some o->H b=none->∃sl,h'.get? b=some { o with slots:=sl })(free:∀b o,b∉ch->s.heap.get? b=some o->H b=none->H' b=none)(there:∀b o,b∉ch->s.heap.get? b=some o->∃o',h'.get? b=some o')(d7:∀b xs,H b=some (.tup xs)->H' b=some (.tup xs))(eJ:∀b o u,H b=some (.lh o u)->H' b=some (.lh o u))(eS:∀b ps,H b=some (.de ps)->∃more,H' b=some (.de (ps++more)))(ns:∀m,s.heap.Ns X.env.locals m->h'.Ns X.env.locals m)(aW:gZ X.prog X.w H' h')(hg:AllBare g'):
  av X ae σ H' { s with heap:=h',gens:=g',drawn:=d',toks:=t' }:=by
 have SY:∀b o,X.s₀.heap.get? b=some o->b≠X.env.locals:=fun b o e=>bf (bK (bg e) I.ok.above);have MZ:∀b o,X.s₀.heap.get? b=some o->b∉X.ex->b∉ch:=fun b o e hx hb=>by
  rcases(BJ b hb).1 with z|z
  .exact hx z
  .exact absurd (bK (bg e) z) (fh _)
 have El:∀x c,X.env.cells.lookup x=some c->∀v,s.heap.IsCell c v->h'.IsCell c v:=fun x c e v ⟨o,ho,hd⟩=>by
  have Je:c∉ch:=fun z=>(BJ c z).2.2.1 x c e rfl;by_cases hc:c∈X.fs
  .obtain⟨sl,q⟩:=slot c o (I.BI x c e) hc Je ho (I.dR x c e);exact⟨_,q,hd⟩
  .exact⟨o,keep c o (I.BI x c e) hc Je ho (I.dR x c e),hd⟩
 refine⟨I.ok,I.os,hg,⟨fun b o e n hb hx=>?_,fun b o e n hb hx=>?_,fun b o e n hx=>?_,fun b o e hx=>?_,fun b xs e=>d7 b xs (I.base.d7 b xs e),fun b o xs e=>eJ b o xs (I.base.eJ b o xs e),fun b ps e=>?_⟩,?_,fun x c e=>?_,?_,fun x c e=>?_,fun p hp=>?_,aW,I.len⟩
 .exact keep b o (SY b o e) hb (MZ b o e hx) (I.base.keep b o e n hb hx) (I.base.free b o e n hx)
 .obtain⟨sl,e1⟩:=I.base.slot b o e n hb hx;obtain⟨N7,e2⟩:=slot b _ (SY b o e) hb (MZ b o e hx) e1 (I.base.free b o e n hx);exact⟨N7,e2⟩
 .obtain⟨o',e1⟩:=I.base.there b o e hx;exact free b o' (MZ b o e hx) e1 (I.base.free b o e n hx)
 .obtain⟨o',e1⟩:=I.base.there b o e hx;exact there b o' (MZ b o e hx) e1
 .obtain⟨m1,e1⟩:=I.base.eS b ps e;obtain⟨m2,e2⟩:=eS b _ e1;exact⟨m1++m2,by rw[e2,uh]⟩
 .obtain⟨m,hn,hl⟩:=I.loc;refine⟨m,ns m hn,fun i x v e1 e2 e3=>?_⟩;obtain⟨u,r,l⟩:=hl i x v e1 e2 e3;refine⟨u,r,?_⟩;rcases l with l|⟨k,c,e,z⟩
  .exact .inl l
  .exact .inr ⟨k,c,e,El x c e _ z⟩
 .obtain⟨v,z⟩:=I.cell x c e;exact⟨v,El x c e v z⟩
 .obtain⟨m,⟨o,_,_,ho,_⟩,_⟩:=I.loc;exact free _ o (fun z=>(BJ _ z).2.1 rfl) ho I.free
 .obtain⟨v,o,ho,hd⟩:=I.cell x c e;exact free c o (fun z=>(BJ c z).2.2.1 x c e rfl) ho (I.dR x c e)
 .obtain⟨e,n,ne,nf,d⟩:=I.pin p hp;have Je:p.1∉ch:=fun z=>(BJ p.1 z).2.2.2 p hp rfl;exact⟨keep p.1 p.2 ne nf Je e n,free p.1 p.2 Je e n,ne,nf,d⟩
theorem av.un{t':Nat}(I:av X ae σ H s)(u:Un X.fs [] H H' s.heap h')(aW:gZ X.prog X.w H' h'):av X ae σ H' { s with heap:=h',toks:=t' }:=by
 obtain⟨m,⟨o,es,ep,ho,r⟩,_⟩:=id I.loc;obtain⟨sl,hL⟩:=u.any ho I.free (by simp);exact I.step (g':=s.gens) (d':=s.drawn) (ch:=[]) (fun _ z=>nomatch z) (fun b o _ hb _ e n=>u.keep b o e n hb (by simp)) (fun b o _ hb _ e n=>u.slot b o e n hb (by simp)) (fun b o _ e n=>u.free b o e n (by simp)) (fun b o _ e=>u.there b o e (by simp)) u.d7 u.eJ u.eS (fun m' hm=>by
  obtain⟨o',tj,M0,nV,r'⟩:=hm;rw[ho] at nV;cases nV;exact⟨_,tj,M0,hL,r'⟩) aW I.bare
theorem av.call{g':Array GenState}{t':Nat}{d':Drawn}{ch:List Addr}(I:av X ae σ H s)(u:Un (fS X.stack) ch H H' s.heap h')(aW:gZ X.prog X.w H' h')(hg:AllBare g')(BJ:∀b∈ch,(b∈X.ex\/X.s₀.heap.objs.size<=b)/\b≠X.env.locals/\(∀x c,X.env.cells.lookup x=some c->c≠b)/\∀p∈X.pn++ae,p.1≠b):
  av X ae σ H' { s with heap:=h',gens:=g',drawn:=d',toks:=t' }:=by
 obtain⟨m,⟨o,es,ep,ho,r⟩,_⟩:=id I.loc;obtain⟨sl,hL⟩:=u.any ho I.free fun z=>(BJ _ z).2.1 rfl;exact I.step (ch:=ch) BJ (fun b o hL hb hc e n=>u.keep b o e n (fun z=>(aR.mp (I.mv b z)).elim hL hb) hc) (fun b o _ _ hc e n=>u.any e n hc) (fun b o hc e n=>u.free b o e n hc) (fun b o hc e=>u.there b o e hc) u.d7 u.eJ u.eS (fun m' hm=>by
  obtain⟨o',tj,M0,nV,r'⟩:=hm;rw[ho] at nV;cases nV;exact⟨_,tj,M0,hL,r'⟩) aW hg
theorem av.turned{t':Nat}{it:Addr}(I:av X ae σ H s)(k:∀b o,b≠it->s.heap.get? b=some o->h'.get? b=some o)(hn:H it=none)(hL:it≠X.env.locals)(h1:it∈X.ex\/X.s₀.heap.objs.size<=it)(h2:∀x c,X.env.cells.lookup x=some c->c≠it)(h3:∀p∈X.pn++ae,p.1≠it):av X ae σ H { s with heap:=h',toks:=t' }:=by
 have SZ:∀b u,H b=some u->b≠it:=fun b u e z=>by rw[z,hn] at e;cases e
 refine I.step (g':=s.gens) (d':=s.drawn) (ch:=[it]) (fun b hb=>?_) (fun b o _ _ hc e _=>k b o (fun z=>hc (by simp[z])) e) (fun b o _ _ hc e _=>⟨o.slots,k b o (fun z=>hc (by simp[z])) e⟩) (fun _ _ _ _ n=>n)
  (fun b o hc e=>⟨o,k b o (fun z=>hc (by simp[z])) e⟩) (fun _ _ e=>e) (fun _ _ _ e=>e) (fun b ps e=>⟨#[],by rw[e];simp⟩) (fun m hm=>?_) (fun b u e=>?_) I.bare
 .have e:b=it:=by simpa using hb
  subst e;exact⟨h1,hL,h2,h3⟩
 .obtain⟨o,es,ep,ho,r⟩:=hm;exact⟨o,es,ep,k _ o (ei hL) ho,r⟩
 .refine(I.aW b u e).iE (fun c v hc q=>k c v ?_ q) (fun _ q=>q) fun _ _ q=>q;rcases hc with z|z
  .rw[z];exact SZ b u e
  .exact SZ c _ z
theorem av.tok(I:av X ae σ H s)(t:Nat):av X ae σ H { s with toks:=t }:=I.un (h':=s.heap) (t':=t) Un.refl I.aW
theorem av.kept(I:av X ae σ H s)(k:∀b u,s.heap.get? b=some u->h'.get? b=some u):av X ae σ H { s with heap:=h',toks:=t' }:=I.un (Un.kept k) (I.aW.kept k)
theorem av.laid(I:av X ae σ H s)(k:∀b u,s.heap.get? b=some u->h'.get? b=some u)(hp:s.heap.objs.size<=a)(new:bX X.prog X.w (upd H a o) h' a o):
  av X ae σ (upd H a o) { s with heap:=h',toks:=t' }:=I.un (Un.laid k hp (I.aW.fresh hp)) (I.aW.laid k hp new)
theorem av.write(I:av X ae σ H s)(mu:MW (H x))(he:e=x\/H e=some (.own x))(k:∀b u,b≠e->s.heap.get? b=some u->h'.get? b=some u)(Im:∃u,h'.get? e=some u)(new:bX X.prog X.w (upd H x o) h' x o):av X ae σ (upd H x o) { s with heap:=h',toks:=t' }:=I.un (Un.write mu he k Im) (I.aW.write mu he k Im new)
theorem av.js(I:av X ae σ H s)(h:∀p∈pins',s.heap.get? p.1=some p.2/\H p.1=none/\p.1≠X.env.locals/\p.1∉X.fs/\∀v,p.2.data≠.cell v):av X pins' σ H s:=
 ⟨I.ok,I.os,I.bare,I.base,I.loc,I.cell,I.free,I.dR,fun p hp=>(cE.mp hp).elim (fun z=>I.pin p (fK _ z)) (h p),I.aW,I.len⟩
theorem mw{N:List Str}(hN:N.Nodup){i j:Nat}{x:Str}(a:N[i]?=some x)(b:N[j]?=some x):i=j:=by
 obtain⟨h1,e1⟩:=dD.mp a;obtain⟨h2,e2⟩:=dD.mp b;exact(List.getElem_inj hN).mp (e1.trans e2.symm)
theorem iw{M:Model}{A:Around}{E:Value->Shared->Prop}{i:Nat}{x:Str}{v:V}{u:Value}{Q:Unit->Shared->Prop}(I:av X ae σ H s)(hN:X.N.Nodup)(hi:X.N[i]?=some x)(hx:Jd X.env.scope x)(r:bq v u)(h:∀s',av X ae (σ.set i (some v)) H s'->(∃a,Heap.SameBut a s.heap s'.heap/\(a=X.env.locals\/X.env.cells.lookup x=some a))->Q () s')(hf:X.fn x=true\/X.env.scope.names.lookup x=some .local:=by first|exact .inl rfl|exact .inr rfl|assumption):wpAny M A (storeName X.env x u) Q E s:=by
 obtain⟨m,hn,hl⟩:=id I.loc;have Fo:(X.env.scope.kind==.class||(X.env.scope.kind==.module&&X.env.locals != X.env.globals))=false:=by rw[I.ok.kind];rfl
 have hiσ:i<σ.length:=by rw[I.len];exact(dD.mp hi).1
 have BI:=I.BI;have vW:∀ {a:Addr} {h':Heap},(∃o,s.heap.get? a=some o/\H a=none)->Heap.SameBut a s.heap h'->gZ X.prog X.w H h':=fun {a h'} ha hs b ob e=>by
  obtain⟨_,_,Em⟩:=ha;refine(I.aW b ob e).iE (fun c w' hc q=>(hs.2 c ?_).trans q) (fun _ q=>q) fun _ _ q=>q;rintro rfl;rcases hc with rfl|hc
  .rw[Em] at e;cases e
  .rw[Em] at hc;cases hc
 rcases hx with hk|hk
 .refine wpAny_storeName_local hk hn (fun h' M1 hs=>?_) Fo;obtain⟨oL,_,_,vX,_⟩:=id hn;refine h _ ⟨I.ok,I.os,I.bare,⟨fun b o e n hb hx=>?_,fun b o e n hb hx=>?_,I.base.free,fun b o e hx=>?_,I.base.d7,I.base.eJ,I.base.eS⟩,⟨_,M1,fun j y v' e1 e2 e3=>?_⟩,fun y c e=>?_,I.free,I.dR,fun p hp=>?_,vW ⟨oL,vX,I.free⟩ hs,by simpa using I.len⟩ ⟨_,hs,.inl rfl⟩
  .exact(hs.2 b (bf (bK (bg e) I.ok.above))).trans (I.base.keep b o e n hb hx)
  .obtain⟨sl,e1⟩:=I.base.slot b o e n hb hx;exact⟨sl,(hs.2 b (bf (bK (bg e) I.ok.above))).trans e1⟩
  .obtain⟨o',e1⟩:=I.base.there b o e hx;exact⟨o',(hs.2 b (bf (bK (bg e) I.ok.above))).trans e1⟩
  .by_cases hj:j=i
   .subst hj;rw[hi] at e1;cases e1;rw[kM hiσ] at e2;cases e2;exact⟨u,r,.inl ⟨hk,by simp⟩⟩
   .rw[lS (ei hj)] at e2;obtain⟨u',r',q⟩:=hl j y v' e1 e2 e3;refine⟨u',r',?_⟩;rcases q with ⟨k,e⟩|⟨k,c,e,z⟩
    .refine .inl ⟨k,?_⟩;have:y≠x:=fun e=>hj (mw hN e1 (e ▸ hi));simp[this,e]
    .exact .inr ⟨k,c,e,z.sameBut hs (BI y c e)⟩
  .obtain⟨w',z⟩:=I.cell y c e;exact⟨w',z.sameBut hs (BI y c e)⟩
  .obtain⟨e,n,ne,nf,d⟩:=I.pin p hp;exact⟨(hs.2 p.1 ne).trans e,n,ne,nf,d⟩
 .have Jf:X.fn x=true:=by
   rcases hf with z|z
   .exact z
   .rw[z] at hk;cases hk
  obtain⟨c,hc⟩:=I.ok.has x (.inl hk);obtain⟨w',z⟩:=I.cell x c hc;refine wpAny_storeName_cell I.ok.kind hk hc z (fun h' BK hs=>?_);obtain⟨oc,En,N8⟩:=id z;refine h { s with heap:=h' } ⟨I.ok,I.os,I.bare,⟨fun b o e n hb hx=>?_,fun b o e n hb hx=>?_,I.base.free,fun b o e hx=>?_,I.base.d7,I.base.eJ,I.base.eS⟩,⟨m,hn.sameBut hs (ei (BI x c hc)),fun j y v' e1 e2 e3=>?_⟩,fun y c' e=>?_,I.free,I.dR,fun p hp=>?_,vW ⟨oc,En,I.dR x c hc⟩ hs,by simpa using I.len⟩ ⟨c,hs,.inr hc⟩
  .exact(hs.2 b (bf (bK (bg e) (I.ok.B6 x c Jf hc)))).trans (I.base.keep b o e n hb hx)
  .obtain⟨sl,e1⟩:=I.base.slot b o e n hb hx;exact⟨sl,(hs.2 b (bf (bK (bg e) (I.ok.B6 x c Jf hc)))).trans e1⟩
  .obtain⟨o',e1⟩:=I.base.there b o e hx;exact⟨o',(hs.2 b (bf (bK (bg e) (I.ok.B6 x c Jf hc)))).trans e1⟩
  .by_cases hj:j=i
   .subst hj;rw[hi] at e1;cases e1;rw[kM hiσ] at e2;cases e2;exact⟨u,r,.inr ⟨.inl hk,c,hc,BK⟩⟩
   .rw[lS (ei hj)] at e2;obtain⟨u',r',q⟩:=hl j y v' e1 e2 e3;refine⟨u',r',?_⟩;rcases q with q|⟨k,c',e,z'⟩
    .exact .inl q
    .refine .inr ⟨k,c',e,z'.sameBut hs ?_⟩;rintro rfl;exact hj (mw hN e1 (I.ok.inj _ _ _ e hc ▸ hi))
  .by_cases S_:c'=c
   .subst S_;exact⟨_,BK⟩
   .obtain⟨w2,z2⟩:=I.cell y c' e;exact⟨w2,z2.sameBut hs S_⟩
  .obtain⟨e,n,ne,nf,d⟩:=I.pin p hp;refine⟨(hs.2 p.1 ?_).trans e,n,ne,nf,d⟩;intro q;rw[q,En] at e;have q':oc=p.2:=bh e;exact d w' (by rw[<-q'];exact N8)
theorem mx(I:av X ae σ H s)(hN:X.N.Nodup)(hi:X.N[i]?=some x)(hx:Jd X.env.scope x)(r:bq v u)(h:∀s',av X ae (σ.set i (some v)) H s'->Q () s')(hf:X.fn x=true\/X.env.scope.names.lookup x=some .local:=by first|exact .inl rfl|exact .inr rfl|assumption):wpAny M A (storeName X.env x u) Q E s:=
 iw I hN hi hx r (fun s' I' _=>h s' I') hf
theorem av.vY(I:av X ae σ H s)(ho:s'.os=s.os)(u:Un (fS X.stack) ch H H' s.heap s'.heap)(aW:gZ X.prog X.w H' s'.heap)(hg:AllBare s'.gens)(BJ:∀b∈ch,(b∈X.ex\/X.s₀.heap.objs.size<=b)/\b≠X.env.locals/\(∀x c,X.env.cells.lookup x=some c->c≠b)/\∀p∈X.pn++ae,p.1≠b):av X ae σ H' s':=by
 obtain⟨h',g',d',t',o'⟩:=s';have e:o'=s.os:=ho;subst e;exact I.call (g':=g') (t':=t') (d':=d') u aW hg BJ
end
abbrev XK:=Value->Option Addr->Hp->Prop
abbrev St:=List (Option V)
abbrev VK:=V->Hp->Prop
abbrev TE:=St->Hp->VK->Prop
abbrev TT:=St->Hp->(Bool->Hp->Prop)->Prop
abbrev TA:=St->Hp->(List V->Hp->Prop)->Prop
structure uF where
 nx:St->Hp->Prop
 rt:VK
 bk:St->Hp->Prop:=fun _ _=>False
 ct:St->Hp->Prop:=fun _ _=>False
abbrev TS:=uF->St->Hp->Prop
def EP(X:Cx)(ae:List (Addr×Obj))(σ:St)(Q:VK)(u:Value)(s':Shared):Prop:=∃v H',av X ae σ H' s'/\bq v u/\Q v H'
def TP(X:Cx)(ae:List (Addr×Obj))(σ:St)(Q:Bool->Hp->Prop)(b:Bool)(s':Shared):Prop:=∃H',av X ae σ H' s'/\Q b H'
def AP(X:Cx)(ae:List (Addr×Obj))(σ:St)(Q:List V->Hp->Prop)(us:List Value)(s':Shared):Prop:=∃vs H',av X ae σ H' s'/\aK vs us/\Q vs H'
def SP(X:Cx)(ae:List (Addr×Obj))(D:uF)(f:Flow)(s':Shared):Prop:=
 match f with
 |.next=>∃σ' H',av X ae σ' H' s'/\D.nx σ' H'
 |.brk=>∃σ' H',av X ae σ' H' s'/\D.bk σ' H'
 |.cont=>∃σ' H',av X ae σ' H' s'/\D.ct σ' H'
 |.ret u=>∃v σ' H',av X ae σ' H' s'/\bq v u/\D.rt v H'
def PE(X:Cx)(e:Expr)(t:TE):Prop:=
 ∀ (ae:List (Addr×Obj)) (s:Shared) (σ:St) (H:Hp) (Q:VK),av X ae σ H s->t σ H Q->wpAny (model X.prog X.w) X.A (eval e X.env) (EP X ae σ Q) X.xe s
def PT(X:Cx)(e:Expr)(t:TT):Prop:=
 ∀ (ae:List (Addr×Obj)) (s:Shared) (σ:St) (H:Hp) (Q:Bool->Hp->Prop),av X ae σ H s->t σ H Q->wpAny (model X.prog X.w) X.A (isTrue e X.env (eval e X.env)) (TP X ae σ Q) X.xe s
def PW(X:Cx)(e:Expr)(t:TT):Prop:=
 ∀ (vZ:Sem Value) (ae:List (Addr×Obj)) (s:Shared) (σ:St) (H:Hp) (Q:Bool->Hp->Prop),av X ae σ H s->t σ H Q->wpAny (model X.prog X.w) X.A (isTrue e X.env vZ) (TP X ae σ Q) X.xe s
theorem PW.pt(h:PW X e t):PT X e t:=h _
def PA(X:Cx)(es:List Expr)(t:TA):Prop:=
 ∀ (pos:Pos) (ae:List (Addr×Obj)) (s:Shared) (σ:St) (H:Hp) (Q:List V->Hp->Prop),av X ae σ H s->t σ H Q->wpAny (model X.prog X.w) X.A (spliced (backTo pos (starEach es X.env))) (AP X ae σ Q) X.xe s
def PS(X:Cx)(st:Stmt)(t:TS):Prop:=
 ∀ (ae:List (Addr×Obj)) (s:Shared) (σ:St) (H:Hp) (D:uF),av X ae σ H s->t D σ H->wpAny (model X.prog X.w) X.A (exec st X.env) (SP X ae D) X.xe s
def oE(X:Cx)(st:List Stmt)(t:TS):Prop:=
 ∀ (ae:List (Addr×Obj)) (s:Shared) (σ:St) (H:Hp) (D:uF),av X ae σ H s->t D σ H->wpAny (model X.prog X.w) X.A (execs st X.env) (SP X ae D) X.xe s
theorem cg(h:wpAny M A t Q E s)(hQ:∀a s,Q a s->Q' a s):wpAny M A t Q' E s:=fj h hQ fun _ _ x=>x
section
variable {X:Cx}
def bb(i:Nat):TE:=fun σ H Q=>∃v,σ[i]?=some (some v)/\Q v H
def tC(v:V):TE:=fun _ H Q=>Q v H
theorem Fp(hN:X.N[i]?=some x)(hv:Io X.env.scope x)(hd:(x==("__debug__":Str))=false:=by decide)(nW:(x==("__classdict__":Str))=false:=by decide):PE X (.Name x pos) (bb i):=by
 intro ae s σ H Q I h;obtain⟨v,e,h⟩:=h;obtain⟨m,hn,hl⟩:=I.loc;obtain⟨u,r,l⟩:=hl i x v hN e hv;have eT:EP X ae σ Q u s:=⟨v,H,I,r,h⟩
 rcases l with ⟨hk,hm⟩|⟨hk,c,hc,v0⟩
 .exact j5 (uj I.ok.kind hk hn hm eT) hd
 .rcases hk with hk|hk
  .exact j5 (wpAny_loadName_cell I.ok.kind hk hc v0 eT) hd
  .exact j5 (ur I.ok.kind hk hc v0 eT nW) hd
theorem aw{i j pos}:PE X (.Constant (.int i) j pos) (tC (.int i)):=fun _ _ _ H _ I h=>wpAny_Constant_int ⟨.int i,H,I.tok _,⟨_,rfl⟩,h⟩
theorem jt{b j pos}:PE X (.Constant (.bool b) j pos) (tC (.bl b)):=fun _ _ _ H _ I h=>Constant_bool ⟨.bl b,H,I,rfl,h⟩
theorem fw{j pos}:PE X (.Constant .none j pos) (tC .bH):=fun _ _ _ H _ I h=>Constant_none ⟨.bH,H,I,rfl,h⟩
theorem el{x j pos}:PE X (.Constant (.str x) j pos) (tC (.str x)):=fun _ _ _ H _ I h=>Calls.Constant_str ⟨.str x,H,I.tok _,⟨_,rfl⟩,h⟩
def Gl(X:Cx)(x:Str):Prop:=X.env.kindOf x=some .globalImplicit
theorem ix(I:av X ae σ H s)(hg:Gl X x)(hm:X.mg x=some u)(h:Q u s)(hd:(x==("__debug__":Str))=false:=by decide):wpAny (model X.prog X.w) X.A (eval (.Name x pos) X.env) Q E s:=
 tT I.ok.kind hg (Calls.loadGlobal_global (by rw[I.ok.glob];exact I.mod.glob.keeps I.bk) hm h) hd
theorem iZ(I:av X ae σ H s)(hg:Gl X x)(hm:X.mg x=none)(hv:bootBuiltins x=some u)(h:Q u s)(hn:x≠"__name__":=by decide)(hd:(x==("__debug__":Str))=false:=by decide):wpAny (model X.prog X.w) X.A (eval (.Name x pos) X.env) Q E s:=by
 obtain⟨mb,h1,h2⟩:=I.mod.blt;exact tT I.ok.kind hg (Calls.loadGlobal_builtin (by rw[I.ok.glob];exact I.mod.glob.keeps I.bk) hm (by rw[I.ok.blt];exact h1.keeps I.bk) ((h2 x hn).trans hv) h) hd
theorem bi(hg:Gl X x)(hm:X.mg x=some u)(r:bq v u)(hd:(x==("__debug__":Str))=false:=by decide):PE X (.Name x pos) (tC v):=
 fun _ _ _ H _ I h=>ix I hg hm ⟨v,H,I,r,h⟩ hd
theorem gf(hg:Gl X x)(hm:X.mg x=none)(hv:bootBuiltins x=some u)(r:bq v u)(hn:x≠"__name__":=by decide)(hd:(x==("__debug__":Str))=false:=by decide):PE X (.Name x pos) (tC v):=
 fun _ _ _ H _ I h=>iZ I hg hm hv ⟨v,H,I,r,h⟩ hn hd
variable {a b:Expr} {ta tb:TE} {pos:Pos}
def tB(t:TE):TT:=fun σ H Q=>t σ H fun x H1=>∃c,x=.bl c/\Q c H1
theorem cm(h:PE X e t)(he:∀vZ,isTrue e X.env vZ=(do let v <- vZ;standAt e.pos;holding [v] (truthy v)):=by intro _;rfl):PT X e (tB t):=by
 intro ae s σ H Q I hw;refine isTrue_plain (cg (h ae s σ H _ I hw) fun v s1 ⟨x,H1,I1,r1,q1⟩=>?_) (he _);obtain⟨d,rfl,q⟩:=q1;cases r1;exact l8 ⟨H1,I1,q⟩
variable {tA M2:TT} {lj:List Expr}
def B7(t u:TT):TT:=fun σ H Q=>t σ H fun c H1=>if c=true then u σ H1 Q else Q false H1
def Vb(t u:TT):TT:=fun σ H Q=>t σ H fun c H1=>if c=true then Q true H1 else u σ H1 Q
def Fq(t:TT):TT:=fun σ H Q=>t σ H fun c H1=>Q (!c) H1
theorem B8(ha:PT X a tA):PW X (.BoolOp .And [a] pos) tA:=by
 intro wh ae s σ H Q I h;refine isTrue_and (cg (ha ae s σ H Q I h) fun c s1 e=>?_);cases c with
 |true=>exact isTrue_and_nil e
 |false=>exact e
theorem j6(ha:PT X a tA):PW X (.BoolOp .Or [a] pos) tA:=by
 intro wh ae s σ H Q I h;refine isTrue_or (cg (ha ae s σ H Q I h) fun c s1 e=>?_);cases c with
 |false=>exact isTrue_or_nil e
 |true=>exact e
theorem uG(ha:PT X a tA)(hb:PW X (.BoolOp .And (b::lj) pos) M2):PW X (.BoolOp .And (a::b::lj) pos) (B7 tA M2):=by
 intro wh ae s σ H Q I h;refine isTrue_and (cg (ha ae s σ H _ I h) fun c s1 ⟨H1,I1,q1⟩=>?_);cases c with
 |true=>exact hb wh ae s1 σ H1 Q I1 q1
 |false=>exact⟨H1,I1,q1⟩
theorem oF(ha:PT X a tA)(hb:PW X (.BoolOp .Or (b::lj) pos) M2):PW X (.BoolOp .Or (a::b::lj) pos) (Vb tA M2):=by
 intro wh ae s σ H Q I h;refine isTrue_or (cg (ha ae s σ H _ I h) fun c s1 ⟨H1,I1,q1⟩=>?_);cases c with
 |true=>exact⟨H1,I1,q1⟩
 |false=>exact hb wh ae s1 σ H1 Q I1 q1
theorem dh(ha:PT X a tA):PT X (.UnaryOp .Not a pos) (Fq tA):=by
 intro ae s σ H Q I h;exact isTrue_not (ha ae s σ H (fun c H1=>Q (!c) H1) I h)
def Jg(ta tb:TE):TE:=fun σ H Q=>ta σ H fun x H1=>∃c,x=.bl c/\if c=true then tb σ H1 Q else Q (.bl false) H1
def Jh(ta:TE):TE:=fun σ H Q=>ta σ H fun x H1=>∃c,x=.bl c/\Q (.bl (!c)) H1
theorem my{op}(h:PE X a t):PE X (.BoolOp op [a] pos) t:=fun ae s σ H Q I hw=>BoolOp_one (h ae s σ H Q I hw)
theorem j7(ha:PE X a ta)(hb:PE X (.BoolOp .And (b::lj) pos) tb):PE X (.BoolOp .And (a::b::lj) pos) (Jg ta tb):=by
 intro ae s σ H Q I h;refine BoolOp_and (cg (ha ae s σ H _ I h) fun v s1 ⟨x,H1,I1,r1,q1⟩=>?_);obtain⟨c,rfl,q1⟩:=q1;cases r1;refine l8 ?_;cases c with
 |true=>exact hb ae s1 σ H1 Q I1 q1
 |false=>exact⟨.bl false,H1,I1,rfl,q1⟩
theorem Fs(ha:PE X a ta):PE X (.UnaryOp .Not a pos) (Jh ta):=by
 intro ae s σ H Q I h;refine UnaryOp_ (cg (ha ae s σ H _ I h) fun v s1 ⟨x,H1,I1,r1,q1⟩=>?_);obtain⟨c,rfl,q1⟩:=q1;cases r1;exact not_of (l8 ⟨.bl (!c),H1,I1,rfl,q1⟩)
def Ta(t:TT)(ta tb:TE):TE:=fun σ H Q=>t σ H fun c H1=>if c=true then ta σ H1 Q else tb σ H1 Q
theorem rp(hc:PT X c tA)(ha:PE X a ta)(hb:PE X b tb):PE X (.IfExp c a b pos) (Ta tA ta tb):=by
 intro ae s σ H Q I h;refine wpAny_IfExp (cg (hc ae s σ H _ I h) fun d s1 ⟨H1,I1,q1⟩=>?_);cases d with
 |true=>exact ha ae s1 σ H1 Q I1 q1
 |false=>exact hb ae s1 σ H1 Q I1 q1
end
def bD(K:PySem.W.Frag)(H:Hp)(a:Addr)(xs:List V):Prop:=
 Rd H a (.lst xs)\/
  ∃ (o:Obj) (its:Array Value) (n:Nat),K.lookup a=some o/\o.cls=.type "list"/\o.dict=none/\o.data=.seq its n/\its.size<=sizeLine/\aK xs its.toList
def cQ(K:PySem.W.Frag)(H:Hp)(a:Addr)(xs:List V):Prop:=
 Rd H a (.tup xs)\/
  ∃ (o:Obj) (its:Array Value) (n:Nat),K.lookup a=some o/\o.cls=.type "tuple"/\o.data=.seq its n/\its.size<=sizeLine/\aK xs its.toList
def N9:Value->Option V
 |.none=>some .bH
 |.bool b=>some (.bl b)
 |.int i _=>some (.int i)
 |.str x _=>some (.str x)
 |.bytes b _=>some (.yA b)
 |.float b _=>some (.yX b)
 |.ref a=>some (.ref a)
 |.type n=>some (.ty n)
 |_=>none
theorem bq.abs(r:bq x u):N9 u=some x:=by
 cases x with
 |bH=>cases r;rfl
 |bl _=>cases r;rfl
 |int _=>obtain⟨t,rfl⟩:=r;rfl
 |str _=>obtain⟨t,rfl⟩:=r;rfl
 |yA _=>obtain⟨t,rfl⟩:=r;rfl
 |yX _=>obtain⟨t,rfl⟩:=r;rfl
 |ref _=>cases r;rfl
 |ty _=>cases r;rfl
theorem bq.inj(r:bq x u)(q:bq y u):x=y:=bh (r.abs.symm.trans q.abs)
theorem aK.inj:∀ {xs ys:List V} {us:List Value},aK xs us->aK ys us->xs=ys
 |_,_,_,.nil,.nil=>rfl
 |_,_,_,.cons r t,.cons r' t'=>by rw[r.inj r',aK.inj t t']
section
variable {X:Cx} {ae:List (Addr×Obj)} {σ:St} {H:Hp} {s:Shared} {a:Addr} {xs ys:List V}
theorem bD.of{K:PySem.W.Frag}(h:H a=some (.lst xs)):bD K H a xs:=.inl (.inl h)
theorem cQ.of{K:PySem.W.Frag}(h:H a=some (.tup xs)):cQ K H a xs:=.inl (.inl h)
theorem av.list(I:av X ae σ H s)(h:bD X.K H a xs):∃its:List Value,aK xs its/\PlainL s.heap a its.toArray/\xs.length<=sizeLine:=by
 rcases h with h|⟨o,its,n,hk,hc,hd,hs,hz,r⟩
 .obtain⟨z,its,n,r,e⟩:=h.ok I.aW;exact⟨its,r,⟨_,n,e,rfl,rfl,rfl⟩,z⟩
 .refine⟨its.toList,r,⟨o,n,I.iN a o hk,hc,hd,by simpa using hs⟩,?_⟩;have e:=r.length;simp only[iI] at e;lia
theorem av.tuple(I:av X ae σ H s)(h:cQ X.K H a xs):∃its:List Value,aK xs its/\IsTup s.heap a its.toArray/\xs.length<=sizeLine:=by
 rcases h with h|⟨o,its,n,hk,hc,hs,hz,r⟩
 .obtain⟨z,its,r,p⟩:=h.ok I.aW;exact⟨its,r,p.tup,z⟩
 .refine⟨its.toList,r,⟨o,I.iN a o hk,hc,n,by simpa using hs⟩,?_⟩;have e:=r.length;simp only[iI] at e;lia
theorem av.rq(I:av X ae σ H s)(h:bD X.K H a xs)(h':bD X.K H a ys):xs=ys:=by
 obtain⟨its,r,⟨o,n,e,_,_,d⟩,_⟩:=I.list h;obtain⟨its',r',⟨o',n',e',_,_,d'⟩,_⟩:=I.list h';rw[e] at e';cases e';rw[d] at d';injection d' with d1 _;have:its=its':=by simpa using congrArg Array.toList d1
 subst this;exact r.inj r'
theorem av.oG(I:av X ae σ H s)(h:cQ X.K H a xs)(h':cQ X.K H a ys):xs=ys:=by
 obtain⟨its,r,⟨o,e,_,n,d⟩,_⟩:=I.tuple h;obtain⟨its',r',⟨o',e',_,n',d'⟩,_⟩:=I.tuple h';rw[e] at e';cases e';rw[d] at d';injection d' with d1 _;have:its=its':=by simpa using congrArg Array.toList d1
 subst this;exact r.inj r'
end
abbrev Cx.n5(X:Cx)(E:Value->Shared->Prop):Cx:={ X with xe:=E }
abbrev Cx.BL(X:Cx):Cx:=X.n5 fun _ _=>False
theorem Cx.Ok.n5{X:Cx}(ok:X.Ok)(E:Value->Shared->Prop):(X.n5 E).Ok:=
 ⟨ok.mod,ok.kind,ok.glob,ok.blt,ok.above,ok.inj,ok.has,ok.B6,ok.hd,ok.frames,ok.vV,ok.Ip,ok.bs,ok.tf,ok.fT,ok.uE,ok.ge,ok.xo⟩
theorem Cx.Ok.g_{X:Cx}{E:Value->Shared->Prop}(ok:(X.n5 E).Ok):X.Ok:=
 ⟨ok.mod,ok.kind,ok.glob,ok.blt,ok.above,ok.inj,ok.has,ok.B6,ok.hd,ok.frames,ok.vV,ok.Ip,ok.bs,ok.tf,ok.fT,ok.uE,ok.ge,ok.xo⟩
section
variable {X:Cx} {ae:List (Addr×Obj)} {σ:St} {H:Hp} {s:Shared} {E:Value->Shared->Prop}
theorem av.n5(I:av X ae σ H s)(E:Value->Shared->Prop):av (X.n5 E) ae σ H s:=⟨I.ok.n5 E,I.os,I.bare,I.base,I.loc,I.cell,I.free,I.dR,I.pin,I.aW,I.len⟩
theorem av.g_(I:av (X.n5 E) ae σ H s):av X ae σ H s:=⟨I.ok.g_,I.os,I.bare,I.base,I.loc,I.cell,I.free,I.dR,I.pin,I.aW,I.len⟩
theorem SP.g_(h:SP (X.n5 E) ae D f s'):SP X ae D f s':=by
 cases f with
 |next=>obtain⟨σ',H',I,q⟩:=h;exact⟨σ',H',I.g_,q⟩
 |brk=>obtain⟨σ',H',I,q⟩:=h;exact⟨σ',H',I.g_,q⟩
 |cont=>obtain⟨σ',H',I,q⟩:=h;exact⟨σ',H',I.g_,q⟩
 |ret u=>obtain⟨v,σ',H',I,r,q⟩:=h;exact⟨v,σ',H',I.g_,r,q⟩
theorem oE.BL{st:List Stmt}{t:TS}(h:oE X.BL st t):oE X st t:=fun ae s σ H D I hw=>
 fj (h ae s σ H D (I.n5 _) hw) (fun _ _ q=>q.g_) fun _ _ z=>False.elim z
end
section
variable {X:Cx} {st:Stmt} {lj:List Stmt} {t u:TS} {e:Expr} {te:TE} {pos:Pos}
def y7:TS:=fun D σ H=>D.nx σ H
def y8(t u:TS):TS:=fun D σ H=>t { D with nx:=u D } σ H
theorem br:oE X [] y7:=fun _ _ σ H _ I h=>mf ⟨σ,H,I,h⟩
theorem ak(h1:PS X st t)(h2:oE X lj u):oE X (st::lj) (y8 t u):=by
 intro ae s σ H D I h;refine wpAny_execs_cons (cg (h1 ae s σ H { D with nx:=u D } I h) fun f s1 q=>?_);cases f with
 |next=>
  obtain⟨σ',H',I',q⟩:=q;exact h2 ae s1 σ' H' D I' q
 |ret v=>exact q
 |brk=>exact q
 |cont=>exact q
theorem ap(h1:PS X st t):oE X [st] t:=by
 intro ae s σ H D I h;refine wpAny_execs_cons (cg (h1 ae s σ H D I h) fun f s1 q=>?_);cases f with
 |next=>exact mf q
 |ret v=>exact q
 |brk=>exact q
 |cont=>exact q
theorem av.quiet(I:av X ae σ H s):interactive X.env=false:=by simp[interactive,I.ok.kind]
def Eo(te:TE):TS:=fun D σ H=>te σ H fun _ H1=>D.nx σ H1
theorem df(he:PE X e te)(hs:swapsWith e none pos.line X.env=pure false:=by rfl):PS X (.Expr e pos) (Eo te):=by
 intro ae s σ H D I h;exact wpAny_Expr_any (cg (he ae s σ H _ I h) fun v s1 ⟨x,H1,I1,r1,q1⟩=>⟨σ,H1,I1,q1⟩) I.quiet hs
def N_(te:TE):TS:=fun D σ H=>te σ H D.rt
theorem aY(he:PE X e te):PS X (.Return (some e) pos) (N_ te):=by
 intro ae s σ H D I h;exact wpAny_Return_some (cg (he ae s σ H _ I h) fun v s1 ⟨x,H1,I1,r1,q1⟩=>⟨x,σ,H1,I1,r1,q1⟩)
def Ji(c:TT)(t u:TS):TS:=fun D σ H=>c σ H fun b H1=>if b=true then t D σ H1 else u D σ H1
theorem cG(hc:PT X c tc)(ha:oE X a t)(hb:oE X b u):PS X (.If c a b pos) (Ji tc t u):=by
 intro ae s σ H D I h;refine wpAny_If (cg (hc ae s σ H _ I h) fun d s1 ⟨H1,I1,q1⟩=>?_);cases d with
 |true=>exact ha ae s1 σ H1 D I1 q1
 |false=>exact hb ae s1 σ H1 D I1 q1
def Ft:TS:=fun _ _ _=>False
theorem bL:oE X Yd Ft:=fun _ _ _ _ _ _ h=>h.elim
end
abbrev TG:=V->St->Hp->(St->Hp->Prop)->Prop
abbrev Jj:=List V->St->Hp->(St->Hp->Prop)->Prop
def PG(X:Cx)(Fu:Expr)(t:TG):Prop:=
 ∀ (ae:List (Addr×Obj)) (s:Shared) (σ:St) (H:Hp) (v:V) (u:Value) (Q:St->Hp->Prop),av X ae σ H s->bq v u->t v σ H Q->
  wpAny (model X.prog X.w) X.A (assign Fu X.env u) (fun _ s'=>∃σ' H',av X ae σ' H' s'/\Q σ' H') X.xe s
def M3(X:Cx)(ts:List Expr)(t:Jj):Prop:=
 ∀ (ae:List (Addr×Obj)) (s:Shared) (σ:St) (H:Hp) (vs:List V) (us:List Value) (Q:St->Hp->Prop),av X ae σ H s->aK vs us->t vs σ H Q->
  wpAny (model X.prog X.w) X.A (assignInOrder ((assignEach ts X.env).map (·.2)) us) (fun _ s'=>∃σ' H',av X ae σ' H' s'/\Q σ' H') X.xe s
abbrev Jk:=V->V->V->Hp->(Hp->Prop)->Prop
def Jl(X:Cx)(t:Jk):Prop:=
 ∀ (ae:List (Addr×Obj)) (s:Shared) (σ:St) (H:Hp) (o i v:V) (ov iv u:Value) (Q:Hp->Prop),av X ae σ H s->bq o ov->bq i iv->bq v u->t o i v H Q->
  wpAny (model X.prog X.w) X.A (setItem ov iv u) (fun _ s'=>∃H',av X ae σ H' s'/\Q H') X.xe s
abbrev Oa:=V->V->Hp->VK->Prop
def Tb(X:Cx)(op:Operator)(t:Oa):Prop:=
 ∀ (ae:List (Addr×Obj)) (s:Shared) (σ:St) (H:Hp) (x y:V) (v u:Value) (Q:VK),av X ae σ H s->bq x v->bq y u->t x y H Q->
  wpAny (model X.prog X.w) X.A (inplaceOp op v u) (EP X ae σ Q) X.xe s
section
variable {X:Cx} {pos:Pos}
def bA(i:Nat):TG:=fun v σ H Q=>Q (σ.set i (some v)) H
theorem aD(hN:X.N.Nodup)(hi:X.N[i]?=some x)(hx:Jd X.env.scope x)(hf:X.fn x=true\/X.env.scope.names.lookup x=some .local:=by first|exact .inl rfl|exact .inr rfl|assumption):PG X (.Name x pos) (bA i):=by
 intro ae s σ H v u Q I r h;exact wpAny_assign_Name (mx I hN hi hx r (fun s' I'=>⟨_,H,I',h⟩) hf)
def uH:Jj:=fun vs σ H Q=>vs=[]/\Q σ H
def fU(t:TG)(u:Jj):Jj:=fun vs σ H Q=>∃v r,vs=v::r/\t v σ H fun σ' H'=>u r σ' H' Q
theorem dX:M3 X [] uH:=by
 intro ae s σ H vs us Q I r h;obtain⟨e,h⟩:=h;subst e;cases r;exact assignInOrder_nil ⟨σ,H,I,h⟩
theorem a_(h1:PG X e t)(h2:M3 X es u)(hs:(assignEach (e::es) X.env).map (·.2)=assign e X.env::(assignEach es X.env).map (·.2):=by rfl):M3 X (e::es) (fU t u):=by
 intro ae s σ H vs us Q I r h;obtain⟨v,vr,e1,h⟩:=h;subst e1;cases r with
 |cons r rr=>
  rw[hs];refine assignInOrder_cons (cg (h1 ae s σ H _ _ _ I r h) fun _ s1 ⟨σ1,H1,I1,q1⟩=>?_);exact h2 ae s1 σ1 H1 _ _ Q I1 rr q1
def uI(K:PySem.W.Frag)(n:Nat)(t:Jj):TG:=fun v σ H Q=>∃a xs,v=.ref a/\cQ K H a xs/\xs.length=n/\t xs σ H Q
theorem fz(hc:X.calm=true)(h:M3 X es t)(hn:(assignEach es X.env).length=n:=by rfl)(hU:(assignEach es X.env).findIdx? (·.1)=none:=by rfl):PG X (.Tuple es k pos) (uI X.K n t):=by
 intro ae s σ H v u Q I r hw;obtain⟨a,xs,e1,hq,hl,hw⟩:=hw;subst e1;cases r;obtain⟨its,rv,ht,hz⟩:=I.tuple hq;refine assign_Tuple_tuple (I.ok.hd hc) ht (by simp[hn,<-hl,rv.length]) hU fun h' hx=>?_;have I1:av X ae σ H { s with heap:=h' }:=I.kept (t':=s.toks) fun b o e=>hx b o (bf (bg e)) e;exact h ae _ σ H xs _ Q I1 (by simpa using rv) hw
def Ob(to ti:TE)(t:Jk):TG:=fun v σ H Q=>to σ H fun o H1=>ti σ H1 fun i H2=>t o i v H2 fun H3=>Q σ H3
theorem j8(ho:PE X o to)(hi:PE X i ti)(hs:Jl X t)(ha:∀v,assign (.Subscript o i pos) X.env v=(do
   let ov <- holding [v] (eval o X.env)
   let iv <- holding [v,ov] (eval i X.env)
   standAt pos
   holding [v,ov,iv] (setItem ov iv v)
   release [v,ov,iv] []):=by intro _;rfl):PG X (.Subscript o i pos) (Ob to ti t):=by
 intro ae s σ H v u Q I r h;rw[ha];refine aq (gB (cg (ho ae s σ H _ I h) fun ov s1 ⟨x,H1,I1,r1,q1⟩=>?_));refine aq (gB (cg (hi ae s1 σ H1 _ I1 q1) fun iv s2 ⟨y,H2,I2,r2,q2⟩=>?_));refine aq (ml (aq (gB (cg (hs ae s2 σ H2 x y v ov iv u _ I2 r1 r2 r q2) fun _ s3 ⟨H3,I3,q3⟩=>?_))));exact wpAny_release ⟨σ,H3,I3,q3⟩
def xp(te:TE)(g:TG):TS:=fun D σ H=>te σ H fun x H1=>g x σ H1 D.nx
theorem hV(he:PE X e te)(hg:PG X tg g)(hs:swapsWithSole [tg] e pos.line X.env=pure false:=by rfl)(hw:swappedStores [tg] e X.env=pure none:=by rfl)(h1:(assignEach [tg] X.env).map (·.2)=[assign tg X.env]:=by rfl):PS X (.Assign [tg] e pos) (xp te g):=by
 intro ae s σ H D I h;refine wpAny_Assign_stores (cg (he ae s σ H _ I h) fun v s1 ⟨x,H1,I1,r1,q1⟩=>?_) hs hw;rw[h1];exact cg (hg ae s1 σ H1 x v _ I1 r1 q1) fun _ s2 q=>q
theorem bj(hN:X.N.Nodup)(hi:X.N[i]?=some x)(hx:Jd X.env.scope x)(he:PE X e te)(hs:swapsWith e (some (.Name x xq)) pos.line X.env=pure false:=by rfl)(hf:X.fn x=true\/X.env.scope.names.lookup x=some .local:=by first|exact .inl rfl|exact .inr rfl|assumption):
  PS X (.Assign [.Name x xq] e pos) (xp te (bA i)):=by
 intro ae s σ H D I h;refine wpAny_Assign_Name (cg (he ae s σ H _ I h) fun v s1 ⟨y,H1,I1,r1,q1⟩=>?_) hs;exact mx I1 hN hi hx r1 (fun s2 I2=>⟨_,H1,I2,q1⟩) hf
def Oc(i:Nat)(te:TE)(ti:Oa):TS:=fun D σ H=>∃x,σ[i]?=some (some x)/\te σ H fun y H1=>ti x y H1 fun z H2=>D.nx (σ.set i (some z)) H2
theorem Fv(hN:X.N.Nodup)(hi:X.N[i]?=some x)(hx:Jd X.env.scope x)(he:PE X e te)(ho:Tb X op ti)(hf:X.fn x=true\/X.env.scope.names.lookup x=some .local:=by first|exact .inl rfl|exact .inr rfl|assumption):
  PS X (.AugAssign (.Name x xq) op e pos) (Oc i te ti):=by
 intro ae s σ H D I h;obtain⟨v,e1,h⟩:=h;obtain⟨m,hn,hl⟩:=I.loc;have Jm:Io X.env.scope x:=by rcases hx with k|k;exact .inl k;exact .inr (.inl k)
 obtain⟨u,r,l⟩:=hl i x v hi e1 Jm;refine wpAny_AugAssign_Name ?_;have go:wpAny (model X.prog X.w) X.A (eval e X.env) (fun w s₂=>wpAny (model X.prog X.w) X.A (inplaceOp op u w) (fun r s₃=>wpAny (model X.prog X.w) X.A (storeName X.env x r) (fun _=>SP X ae D .next) X.xe s₃) X.xe s₂) X.xe s:=by
  refine cg (he ae s σ H _ I h) fun w s1 ⟨y,H1,I1,r1,q1⟩=>?_;refine cg (ho ae s1 σ H1 v y u w _ I1 r r1 q1) fun z s2 ⟨zv,H2,I2,r2,q2⟩=>?_;exact mx I2 hN hi hx r2 (fun s3 I3=>⟨_,H2,I3,q2⟩) hf
 rcases l with ⟨hk,hm⟩|⟨hk,c,hc,v0⟩
 .exact uj I.ok.kind hk hn hm go
 .rcases hk with hk|hk
  .exact wpAny_loadName_cell I.ok.kind hk hc v0 go
  .rcases hx with k|k
   .have:X.env.scope.names.lookup x=some .free:=hk;rw[k] at this;cases this
   .have:X.env.scope.names.lookup x=some .free:=hk;rw[k] at this;cases this
def Vc(f:Int->Int->Int):Oa:=fun x y H Q=>∃i j,x=.int i/\y=.int j/\Q (.int (f i j)) H
theorem Fw:Tb X .Add (Vc fun i j=>i+j):=by
 intro ae s σ H x y v u Q I r1 r2 h;obtain⟨i,j,e1,e2,q⟩:=h;subst e1;subst e2;obtain⟨t,rfl⟩:=r1;obtain⟨t',rfl⟩:=r2;exact iadd_int ⟨.int _,H,I.tok _,⟨_,rfl⟩,q⟩
def y9(c:TT)(tb:TS):TS:=fun D σ H=>∃W:Nat->St->Hp->Prop,(∃m,W m σ H)/\∀m σ H,W m σ H->
 c σ H fun b H1=>if b=true then ∃N:St->Hp->Prop,(∀σ' H',N σ' H'->∃m',m'<m/\W m' σ' H')/\tb { D with nx:=N,ct:=N,bk:=D.nx } σ H1 else D.nx σ H1
theorem y_(hp:PassesOwn (model X.prog X.w) X.A X.env X.xe)(hc:PT X c tc)(hb:oE X body tb):PS X (.While c body [] pos) (y9 tc tb):=by
 intro ae s σ H D I h;obtain⟨W,⟨m0,w0⟩,zc⟩:=h;refine wpAny_While (codeAny_whileLoop (fun n s'=>∃σ' H',av X ae σ' H' s'/\W n σ' H') ?_ m0 ⟨σ,H,I,w0⟩);rintro n s1 ⟨σ1,H1,I1,w1⟩;refine iV hp (cg (hc ae s1 σ1 H1 _ I1 (zc n σ1 H1 w1)) fun b s2 ⟨H2,I2,q2⟩=>?_);cases b with
 |true=>
  obtain⟨N,hN,q2⟩:=q2;rw[ao rfl];refine iV hp (cg (hb ae s2 σ1 H2 _ I2 q2) fun f s3 q3=>?_);cases f with
  |next=>
   obtain⟨σ3,H3,I3,n3⟩:=q3;obtain⟨m',hm,w3⟩:=hN σ3 H3 n3;exact⟨m',hm,σ3,H3,I3,w3⟩
  |cont=>
   obtain⟨σ3,H3,I3,n3⟩:=q3;obtain⟨m',hm,w3⟩:=hN σ3 H3 n3;exact⟨m',hm,σ3,H3,I3,w3⟩
  |brk=>exact q3
  |ret v=>exact q3
 |false=>
  rw[am bV];exact mf ⟨σ1,H2,I2,q2⟩
end
structure It where
 go:Nat->Hp->Prop
 Iq:Nat->Hp->V->Hp->Prop
 stop:Nat->Hp->Prop
def eK(X:Cx)(ae:List (Addr×Obj))(H:Hp)(b:Addr):Prop:=
 H b=none/\b≠X.env.locals/\b∉X.fs/\(b∈X.ex\/X.s₀.heap.objs.size<=b)/\(∀x c,X.env.cells.lookup x=some c->c≠b)/\∀p∈X.pn++ae,p.1≠b
theorem av.rA(I:av X ae σ H s)(hb:s.heap.objs.size<=b)(hn:H' b=none):eK X ae H' b:=by
 refine⟨hn,iM (bK I.lt hb),I.N6 hb,.inr (bp I.sz hb),fun x c e z=>?_,fun p hp z=>?_⟩
 .obtain⟨v,q⟩:=I.cell x c e;exact absurd (bK q.lt (by rw[z];exact hb)) (fh _)
 .exact absurd (bK (bg (I.pin p hp).1) (by rw[z];exact hb)) (fh _)
structure rB(P:Program)(w:World)(K:PySem.W.Frag)(tg:Expr)(J:It)(fp:List Addr)(it:Addr)(tn:Nat->Heap->Prop):Prop where
 mem:it∈fp
 obj:∀i h,tn i h->∀b∈fp,∃o,h.get? b=some o/\∀v,o.data≠.cell v
 keep:∀i h h',tn i h->(∀b∈fp,∀o,h.get? b=some o->h'.get? b=some o)->tn i h'
 item:∀ (X:Cx),X.prog=P->X.w=w->X.K=K->X.calm=true->∀ (i:Nat) (ae:List (Addr×Obj)) (s:Shared) (σ:St) (H:Hp) (E:Value->Shared->Prop),av X ae σ H s->(∀b∈fp,eK X ae H b)->tn i s.heap->J.go i H->
  wpAny (model P w) X.A (pyNext (.ref it)) (fun r s1=>∃u,r=some u/\
   wpAny (model P w) X.A (letOwnedTupleGo tg (.ref it) u) (fun _ s2=>∃x H',av X ae σ H' s2/\bq x u/\J.Iq i H x H'/\tn (i+1) s2.heap/\∀b∈fp,H' b=none) E s1) E s
 done:∀ (X:Cx),X.prog=P->X.w=w->X.K=K->X.calm=true->∀ (i:Nat) (ae:List (Addr×Obj)) (s:Shared) (σ:St) (H:Hp) (E:Value->Shared->Prop),av X ae σ H s->(∀b∈fp,eK X ae H b)->tn i s.heap->J.stop i H->
  wpAny (model P w) X.A (pyNext (.ref it)) (fun r s1=>r=none/\av X ae σ H s1) E s
 self:∀ (A:Around) (i:Nat) (s:Shared) (Q:Value->Shared->Prop) (E:Value->Shared->Prop),tn i s.heap->Q (.ref it) s->wpAny (model P w) A (pyIter (.ref it)) Q E s
abbrev TI:=St->Hp->(It->Hp->Prop)->Prop
def Tc(X:Cx)(ae:List (Addr×Obj))(σ:St)(tg:Expr)(R:It->Hp->Prop)(M4:Value)(s2:Shared):Prop:=
 ∃ (it:Addr) (fp:List Addr) (tn:Nat->Heap->Prop) (J:It) (H':Hp),M4=.ref it/\av X ae σ H' s2/\rB X.prog X.w X.K tg J fp it tn/\tn 0 s2.heap/\(∀b∈fp,eK X ae H' b)/\R J H'
def PI(X:Cx)(tg gI:Expr)(wi:TI):Prop:=
 ∀ (ae:List (Addr×Obj)) (s:Shared) (σ:St) (H:Hp) (R:It->Hp->Prop),av X ae σ H s->wi σ H R->
  wpAny (model X.prog X.w) X.A (eval gI X.env) (fun v s1=>wpAny (model X.prog X.w) X.A (pyIter v) (Tc X ae σ tg R) X.xe s1) X.xe s
theorem zd(ho:s.heap.get? it=some o)(hc:o.cls=.type n)(hd:o.data=.fields vs)(hn:["enumerate","zip","dict_itemiterator","dict_reverseitemiterator","odict_iterator","itertools.zip_longest","itertools.pairwise"].contains n=false)(hQ:Q () s):wpAny M A (letOwnedTupleGo tg (.ref it) u) Q E s:=by
 unfold letOwnedTupleGo;cases tg <;> first
  |exact wpAny_pure hQ
  |(cases u <;> first
    |exact wpAny_pure hQ
    |(refine aq (wpAny_load ho ?_);rw[hc,hd];show wpAny M A (if (["enumerate","zip","dict_itemiterator","dict_reverseitemiterator","odict_iterator","itertools.zip_longest","itertools.pairwise"].contains n&&vs[0]?==some (rawInt _))=true then _ else _) Q E s;rw[am (by intro h;rw[hn,Bool.false_and] at h;cases h)];exact wpAny_pure hQ))
def Ep(K:PySem.W.Frag)(a:Addr):It:=
 ⟨fun i H=>∃xs x,bD K H a xs/\xs[i]?=some x,fun i H x H'=>H'=H/\∀xs,bD K H a xs->xs[i]?=some x,fun i H=>∃xs,bD K H a xs/\xs.length<=i⟩
def Od(K:PySem.W.Frag)(a:Addr):It:=
 ⟨fun i H=>∃xs x,cQ K H a xs/\xs[i]?=some x,fun i H x H'=>H'=H/\∀xs,cQ K H a xs->xs[i]?=some x,fun i H=>∃xs,cQ K H a xs/\xs.length<=i⟩
def Es(lo:Int)(n:Nat):It:=⟨fun i _=>i<n,fun i H x H'=>H'=H/\x=.int (lo+i),fun i _=>n<=i⟩
theorem xr{P:Program}{w:World}{K:PySem.W.Frag}{tg:Expr}(a it:Addr):rB P w K tg (Ep K a) [it] it (fun i h=>h.IsListIter it a i) where
 mem:=by simp
 obj:=fun i h st b hb=>by
  have e:b=it:=by simpa using hb
  subst e;obtain⟨o,e,c,d⟩:=st;exact⟨o,e,fun v z=>by rw[d] at z;cases z⟩
 keep:=fun i h h' st k=>st.at fun o e=>k it (by simp) o e
 item:=by
  intro X hP hw hK hc i ae s σ H E I hf st hg;subst hP hw hK;obtain⟨xs,x,hq,hx⟩:=hg;obtain⟨its,rv,p,hz⟩:=I.list hq;obtain⟨u,hu,ru⟩:=rv.get hx;obtain⟨f0,f1,f2,f3,f4,f5⟩:=hf it (by simp);refine wpAny_pyNext_list_item st p.isList (x:=u) (by simpa using hu) fun h' aL sb=>?_;have I1:av X ae σ H { s with heap:=h' }:=I.turned (t':=s.toks) (fun b o hb e=>(sb.2 b hb).trans e) f0 f1 f3 f4 f5;obtain⟨o,e,c,d⟩:=id aL;exact⟨u,rfl,zd (s:={ s with heap:=h' }) e c d (by decide) ⟨x,H,I1,ru,⟨rfl,fun ys hy=>by rw[I.rq hy hq];exact hx⟩,aL,fun b hb=>(hf b hb).1⟩⟩
 done:=by
  intro X hP hw hK hc i ae s σ H E I hf st hg;subst hP hw hK;obtain⟨xs,hq,hx⟩:=hg;obtain⟨its,rv,p,hz⟩:=I.list hq;obtain⟨f0,f1,f2,f3,f4,f5⟩:=hf it (by simp);have hl:=rv.length;exact wpAny_pyNext_list_end (I.ok.hd hc) st p.isList (by simp;lia) fun h' eb=>⟨rfl,I.turned (t':=s.toks) (fun b o hb e=>eb b o hb e) f0 f1 f3 f4 f5⟩
 self:=fun _ _ _ _ _ st h=>wpAny_pyIter_listiter st h
theorem uJ{P:Program}{w:World}{K:PySem.W.Frag}{tg:Expr}(a it:Addr):rB P w K tg (Od K a) [it] it (fun i h=>h.IsTupleIter it a i) where
 mem:=by simp
 obj:=fun i h st b hb=>by
  have e:b=it:=by simpa using hb
  subst e;obtain⟨o,e,c,d⟩:=st;exact⟨o,e,fun v z=>by rw[d] at z;cases z⟩
 keep:=fun i h h' st k=>st.at fun o e=>k it (by simp) o e
 item:=by
  intro X hP hw hK hc i ae s σ H E I hf st hg;subst hP hw hK;obtain⟨xs,x,hq,hx⟩:=hg;obtain⟨its,rv,p,hz⟩:=I.tuple hq;obtain⟨u,hu,ru⟩:=rv.get hx;obtain⟨f0,f1,f2,f3,f4,f5⟩:=hf it (by simp);refine wpAny_pyNext_tuple_item st (show s.heap.IsTuple a its.toArray from p) (x:=u) (by simpa using hu) fun h' aL sb=>?_;have I1:av X ae σ H { s with heap:=h' }:=I.turned (t':=s.toks) (fun b o hb e=>(sb.2 b hb).trans e) f0 f1 f3 f4 f5;obtain⟨o,e,c,d⟩:=id aL;exact⟨u,rfl,zd (s:={ s with heap:=h' }) e c d (by decide) ⟨x,H,I1,ru,⟨rfl,fun ys hy=>by rw[I.oG hy hq];exact hx⟩,aL,fun b hb=>(hf b hb).1⟩⟩
 done:=by
  intro X hP hw hK hc i ae s σ H E I hf st hg;subst hP hw hK;obtain⟨xs,hq,hx⟩:=hg;obtain⟨its,rv,p,hz⟩:=I.tuple hq;obtain⟨f0,f1,f2,f3,f4,f5⟩:=hf it (by simp);have hl:=rv.length;exact wpAny_pyNext_tuple_end (I.ok.hd hc) st (show s.heap.IsTuple a its.toArray from p) (by simp;lia) fun h' eb=>⟨rfl,I.turned (t':=s.toks) (fun b o hb e=>eb b o hb e) f0 f1 f3 f4 f5⟩
 self:=fun _ _ _ _ _ st h=>wpAny_pyIter_tupleiter st h
theorem uK{P:Program}{w:World}{K:PySem.W.Frag}{tg:Expr}(it:Addr)(lo:Int)(n:Nat):rB P w K tg (Es lo n) [it] it (fun i h=>IsRangeIter h it (lo+(i:Nat)*1) ((n:Int)-(i:Nat)) 1) where
 mem:=by simp
 obj:=fun i h st b hb=>by
  have e:b=it:=by simpa using hb
  subst e;exact⟨_,st,fun v z=>by
   have z':Data.fields _=Data.cell v:=z;cases z'⟩
 keep:=fun i h h' st k=>k it (by simp) _ st
 item:=by
  intro X hP hw hK hc i ae s σ H E I hf st hg;subst hP hw hK;obtain⟨f0,f1,f2,f3,f4,f5⟩:=hf it (by simp);have W:=Walks.range (prog:=X.prog) (w:=X.w) (I.ok.hd hc) it lo 1 n;refine W.item i s _ _ hg st fun v h' tk hv aL kk=>?_;obtain⟨t,rfl⟩:=hv;have I1:av X ae σ H { s with heap:=h',toks:=tk }:=I.turned (fun b o hb e=>kk b o (by simpa using hb) e) f0 f1 f3 f4 f5;refine⟨_,rfl,zd (s:={ s with heap:=h',toks:=tk }) (n:="range_iterator") aL rfl rfl (by decide) ⟨.int (lo+i),H,I1,⟨t,?_⟩,⟨rfl,rfl⟩,aL,fun b hb=>(hf b hb).1⟩⟩;rw[Int.mul_one]
 done:=by
  intro X hP hw hK hc i ae s σ H E I hf st hg;subst hP hw hK;obtain⟨f0,f1,f2,f3,f4,f5⟩:=hf it (by simp);exact wpAny_pyNext_range_end (I.ok.hd hc) st (by have:n<=i:=hg;lia) fun h' eb=>⟨rfl,I.turned (t':=s.toks) (fun b o hb e=>eb b o hb e) f0 f1 f3 f4 f5⟩
 self:=fun _ _ _ _ _ st h=>wpAny_pyIter_rangeiter st h
section
variable {X:Cx} {tg:Expr}
def Jn(K:PySem.W.Frag)(tl:TE):TI:=fun σ H R=>tl σ H fun x H1=>∃a,x=.ref a/\(∃xs,bD K H1 a xs)/\R (Ep K a) H1
def Oe(K:PySem.W.Frag)(tl:TE):TI:=fun σ H R=>tl σ H fun x H1=>∃a,x=.ref a/\(∃xs,cQ K H1 a xs)/\R (Od K a) H1
theorem cn{l:Expr}{tl:TE}(hl:PE X l tl):PI X tg l (Jn X.K tl):=by
 intro ae s σ H R I h;refine cg (hl ae s σ H _ I h) fun v s1 ⟨x,H1,I1,r1,q1⟩=>?_;obtain⟨a,e,⟨xs,hq⟩,q⟩:=q1;subst e;cases r1;obtain⟨its,rv,p,hz⟩:=I1.list hq;refine pR p.isList ?_;refine⟨s1.heap.objs.size,[s1.heap.objs.size],_,_,H1,rfl,I1.kept (t':=s1.toks) fun b o e=>bJ _ e,xr a _,⟨_,ci _ rfl,rfl,rfl⟩,fun b hb=>?_,q⟩;have e:b=s1.heap.objs.size:=by simpa using hb
 subst e;exact I1.rA (aG _) (I1.aW.fresh (aG _))
theorem uL{l:Expr}{tl:TE}(hl:PE X l tl):PI X tg l (Oe X.K tl):=by
 intro ae s σ H R I h;refine cg (hl ae s σ H _ I h) fun v s1 ⟨x,H1,I1,r1,q1⟩=>?_;obtain⟨a,e,⟨xs,hq⟩,q⟩:=q1;subst e;cases r1;obtain⟨its,rv,p,hz⟩:=I1.tuple hq;refine ux (show s1.heap.IsTuple a its.toArray from p) ?_;refine⟨s1.heap.objs.size,[s1.heap.objs.size],_,_,H1,rfl,I1.kept (t':=s1.toks) fun b o e=>bJ _ e,uJ a _,⟨_,ci _ rfl,rfl,rfl⟩,fun b hb=>?_,q⟩;have e:b=s1.heap.objs.size:=by simpa using hb
 subst e;exact I1.rA (aG _) (I1.aW.fresh (aG _))
theorem ze{ae:List (Addr×Obj)}{σ:St}{H:Hp}{s:Shared}{R:It->Hp->Prop}{E:Value->Shared->Prop}{lo hi:Int}{t u v:Tok}{tk:Nat}(I:av X ae σ H s)(h1:-(2 ^ 62)<=lo)(h2:lo<2 ^ 62)(h3:-(2 ^ 62)<=hi)(h4:hi<2 ^ 62)(q:R (Es lo (hi-lo).toNat) H):wpAny (model X.prog X.w) X.A (pyIter (.ref s.heap.objs.size)) (Tc X ae σ tg R) E { s with heap:=s.heap.push { cls:=.type "range",data:=.fields #[.int lo t,.int hi u,.int 1 v] },toks:=tk }:=by
 refine wpAny_pyIter_range (IsRange.new ..) (small_one h1 h2 h3 h4) ?_;have I1:av X ae σ H { s with heap:=s.heap.push { cls:=.type "range",data:=.fields #[.int lo t,.int hi u,.int 1 v] },toks:=tk }:=I.kept fun b o e=>bJ _ e;refine⟨(s.heap.push { cls:=.type "range",data:=.fields #[.int lo t,.int hi u,.int 1 v] }).objs.size,[(s.heap.push { cls:=.type "range",data:=.fields #[.int lo t,.int hi u,.int 1 v] }).objs.size],_,_,H,rfl,
  I1.kept (t':=tk) fun b o e=>bJ _ e,uK _ lo (hi-lo).toNat,?_,fun b hb=>?_,q⟩
 .have e1:lo+((0:Nat):Int)*1=lo:=by simp
  have e2:(((hi-lo).toNat:Nat):Int)-((0:Nat):Int)=Builtin.Range.rangeSize lo hi 1:=by rw[rangeSize_one];split <;> lia
  show IsRangeIter _ _ (lo+((0:Nat):Int)*1) ((((hi-lo).toNat:Nat):Int)-((0:Nat):Int)) 1;rw[e1,e2];exact ci _ rfl
 .have e:b=(s.heap.push { cls:=.type "range",data:=.fields #[.int lo t,.int hi u,.int 1 v] }).objs.size:=by simpa using hb
  subst e;exact I1.rA (aG _) (I1.aW.fresh (aG _))
def Jo(ta:TA):TI:=fun σ H R=>ta σ H fun vs H1=>∃j:Int,vs=[.int j]/\-(2 ^ 62)<=j/\j<2 ^ 62/\R (Es 0 j.toNat) H1
theorem cR{a:Expr}{ta:TA}{p pos:Pos}(hg:Gl X "range")(hm:X.mg "range"=none)(ha:PA X [a] ta)(hs:starEach [a] X.env=[(false,eval a X.env)]:=by rfl):PI X tg (.Call (.Name "range" p) [a] [] pos) (Jo ta):=by
 intro ae s σ H R I h;refine Call_ (iZ I hg hm boot_range (vT (cg (ha pos ae s σ H _ I h) fun us s1 ⟨vs,H1,I1,r1,q1⟩=>?_) hs rfl));obtain⟨j,e,q1,q2,q⟩:=q1;subst e;cases r1 with
 |cons r rr=>
  cases rr;obtain⟨t,rfl⟩:=r;exact call_range_1 (ze I1 (by lia) (by lia) q1 q2 (by simpa using q))
def Of(wi:TI)(g:TG)(tb:TS):TS:=fun D σ H=>wi σ H fun J H1=>∃W:Nat->Nat->St->Hp->Prop,(∃m,W 0 m σ H1)/\∀i m σ H,W i m σ H->
 (J.stop i H/\D.nx σ H)\/(J.go i H/\∃N:St->Hp->Prop,(∀σ' H',N σ' H'->∃m',m'<m/\W (i+1) m' σ' H')/\∀x H',J.Iq i H x H'->g x σ H' fun σ2 H2=>tb { D with nx:=N,ct:=N,bk:=D.nx } σ2 H2)
def mz(fp:List Addr)(h:Heap):List (Addr×Obj):=fp.filterMap fun b=>(h.get? b).map fun o=>(b,o)
theorem gg(hb:b∈fp)(e:h.get? b=some o):(b,o)∈mz fp h:=lU.mpr ⟨b,hb,by rw[e];rfl⟩
theorem xt(hp:p∈mz fp h):p.1∈fp/\h.get? p.1=some p.2:=by
 obtain⟨b,hb,e⟩:=lU.mp hp;cases q:h.get? b with
 |none=>rw[q] at e;cases e
 |some o=>
  rw[q] at e;have e':(b,o)=p:=bh e;subst e';exact⟨hb,q⟩
theorem av.pinned(I:av X ae σ H s)(hf:∀b∈fp,eK X ae H b)(ho:∀b∈fp,∃o,s.heap.get? b=some o/\∀v,o.data≠.cell v):av X (ae++mz fp s.heap) σ H s:=
 I.js fun p hp=>(cE.mp hp).elim (fun z=>I.pin p (cU _ z)) fun z=>by
  obtain⟨hb,e⟩:=xt z;obtain⟨f0,f1,f2,_⟩:=hf p.1 hb;obtain⟨o,e',d⟩:=ho p.1 hb;rw[e] at e';cases e';exact⟨e,f0,f1,f2,d⟩
theorem av.ju(I:av X (ae++pl) σ H s):av X ae σ H s:=I.js fun p hp=>I.pin p (cU _ (fK _ hp))
theorem hW(hp:PassesOwn (model X.prog X.w) X.A X.env X.xe)(hc:X.calm=true)(hi:PI X tg gI wi)(hg:PG X tg g)(hb:oE X body tb)(hs:∀x,foldedSetIterable gI X.env x=pure x:=by intro _;rfl):PS X (.For tg gI body [] pos) (Of wi g tb):=by
 intro ae s σ H D I h;refine wpAny_For (cg (hi ae s σ H _ I h) fun v s1 h1=>cg h1 fun M4 s2 h2=>?_) hs;obtain⟨it,fp,tn,J,H2,e,I2,T,qX,f2,W,⟨m0,w0⟩,zc⟩:=h2;subst e;have uM:∀ {H':Hp},(∀b∈fp,H' b=none)->∀b∈fp,eK X ae H' b:=fun hn b hb=>⟨hn b hb,(f2 b hb).2⟩
 refine codeAny_forLoop_any (fun n s'=>∃i σ' H',av X ae σ' H' s'/\tn i s'.heap/\(∀b∈fp,H' b=none)/\W i n σ' H') ?_ m0 ⟨0,σ,H2,I2,qX,fun b hb=>(f2 b hb).1,w0⟩;rintro n s3 ⟨i,σ3,H3,I3,uN,Fy,w3⟩;rcases zc i n σ3 H3 w3 with ⟨stop,qn⟩|⟨go,N,hN,step⟩
 .refine iV hp (cg (T.done X rfl rfl rfl hc i ae s3 σ3 H3 X.xe I3 (uM Fy) uN stop) fun r s4 ⟨hr,I4⟩=>?_);subst hr;exact mf ⟨σ3,H3,I4,qn⟩
 .refine iV hp (cg (T.item X rfl rfl rfl hc i ae s3 σ3 H3 X.xe I3 (uM Fy) uN go) fun r s4 ⟨u,hr,h4⟩=>?_);subst hr;refine iV hp (cg h4 fun _ s5 ⟨x,H5,I5,r5,y5,qY,Og⟩=>?_);have Oh:=I5.pinned (uM Og) (T.obj _ _ qY);refine iV hp (cg (hg _ s5 σ3 H5 x u _ Oh r5 (step x H5 y5)) fun _ s6 ⟨σ6,H6,I6,q6⟩=>?_);refine iV hp (cg (hb _ s6 σ6 H6 _ I6 q6) fun f s7 q7=>?_);have again:∀ {σ7:St} {H7:Hp},av X (ae++mz fp s5.heap) σ7 H7 s7->N σ7 H7->∃m,m<n/\∃i σ' H',av X ae σ' H' s7/\tn i s7.heap/\(∀b∈fp,H' b=none)/\W i m σ' H':=fun {σ7 H7} I7 n7=>by
   obtain⟨m',hm,w7⟩:=hN σ7 H7 n7;refine⟨m',hm,i+1,σ7,H7,I7.ju,T.keep _ _ _ qY fun b hb o e=>(I7.pin (b,o) (cU _ (cU _ (gg hb e)))).1,fun b hb=>?_,w7⟩;obtain⟨o,e,d⟩:=T.obj _ _ qY b hb;exact(I7.pin (b,o) (cU _ (cU _ (gg hb e)))).2.1
  cases f with
  |next=>obtain⟨σ7,H7,I7,n7⟩:=q7;exact again I7 n7
  |cont=>obtain⟨σ7,H7,I7,n7⟩:=q7;exact again I7 n7
  |brk=>obtain⟨σ7,H7,I7,q7⟩:=q7;exact⟨σ7,H7,I7.ju,q7⟩
  |ret v=>obtain⟨x7,σ7,H7,I7,r7,q7⟩:=q7;exact⟨x7,σ7,H7,I7.ju,r7,q7⟩
end
theorem hX{K:PySem.W.Frag}{a:Addr}{xs:List V}{g:TG}{tb:TS}{D:uF}{σ:St}{H:Hp}(Pv:Nat->St->Hp->Prop)(h0:Pv 0 σ H)(hl:∀i σ H,i<=xs.length->Pv i σ H->bD K H a xs)(hs:∀i x σ H,xs[i]?=some x->Pv i σ H->g x σ H fun σ2 H2=>tb { D with nx:=Pv (i+1),ct:=Pv (i+1),bk:=D.nx } σ2 H2)(hd:∀σ H,Pv xs.length σ H->D.nx σ H):
  ∃W:Nat->Nat->St->Hp->Prop,(∃m,W 0 m σ H)/\∀i m σ H,W i m σ H->
   ((Ep K a).stop i H/\D.nx σ H)\/((Ep K a).go i H/\∃N:St->Hp->Prop,(∀σ' H',N σ' H'->∃m',m'<m/\W (i+1) m' σ' H')/\∀x H',(Ep K a).Iq i H x H'->g x σ H' fun σ2 H2=>tb { D with nx:=N,ct:=N,bk:=D.nx } σ2 H2):=by
 refine⟨fun i m σ H=>m=xs.length-i/\i<=xs.length/\Pv i σ H,⟨xs.length,by simp,cu _,h0⟩,?_⟩;rintro i m σ H ⟨rfl,hi,p⟩;have q:=hl i σ H hi p;by_cases dB:i<xs.length
 .refine .inr ⟨⟨xs,xs[i],q,by simp[dB]⟩,Pv (i+1),fun σ' H' p'=>⟨xs.length-(i+1),by lia,rfl,dB,p'⟩,fun x H' y=>?_⟩;obtain⟨e,y⟩:=y;subst e;exact hs i x σ _ (y xs q) p
 .have e:i=xs.length:=by lia
  subst e;exact .inl ⟨⟨xs,q,aG _⟩,hd σ H p⟩
theorem oH{lo:Int}{n:Nat}{g:TG}{tb:TS}{D:uF}{σ:St}{H:Hp}(Pv:Nat->St->Hp->Prop)(h0:Pv 0 σ H)(hs:∀i σ H,i<n->Pv i σ H->g (.int (lo+i)) σ H fun σ2 H2=>tb { D with nx:=Pv (i+1),ct:=Pv (i+1),bk:=D.nx } σ2 H2)(hd:∀σ H,Pv n σ H->D.nx σ H):
  ∃W:Nat->Nat->St->Hp->Prop,(∃m,W 0 m σ H)/\∀i m σ H,W i m σ H->
   ((Es lo n).stop i H/\D.nx σ H)\/((Es lo n).go i H/\∃N:St->Hp->Prop,(∀σ' H',N σ' H'->∃m',m'<m/\W (i+1) m' σ' H')/\∀x H',(Es lo n).Iq i H x H'->g x σ H' fun σ2 H2=>tb { D with nx:=N,ct:=N,bk:=D.nx } σ2 H2):=by
 refine⟨fun i m σ H=>m=n-i/\i<=n/\Pv i σ H,⟨n,by simp,cu _,h0⟩,?_⟩;rintro i m σ H ⟨rfl,hi,p⟩;by_cases dB:i<n
 .refine .inr ⟨dB,Pv (i+1),fun σ' H' p'=>⟨n-(i+1),by lia,rfl,dB,p'⟩,fun x H' y=>?_⟩;obtain⟨e,y⟩:=y;subst e y;exact hs i σ _ dB p
 .have e:i=n:=by lia
  subst e;exact .inl ⟨aG _,hd σ H p⟩
theorem zf(Pv:St->Hp->Prop)(μ:St->Hp->Nat)(h0:Pv σ H)(hs:∀σ H,Pv σ H->c σ H fun b H1=>if b=true then tb { D with nx:=fun σ' H'=>Pv σ' H'/\μ σ' H'<μ σ H,ct:=fun σ' H'=>Pv σ' H'/\μ σ' H'<μ σ H,bk:=D.nx } σ H1 else D.nx σ H1)(mono:∀σ H Q Q',(∀b H1,Q b H1->Q' b H1)->c σ H Q->c σ H Q'):y9 c tb D σ H:=by
 refine⟨fun m σ H=>m=μ σ H/\Pv σ H,⟨_,rfl,h0⟩,?_⟩;rintro m σ H ⟨rfl,p⟩;refine mono σ H _ _ (fun b H1 q=>?_) (hs σ H p);cases b with
 |true=>exact⟨_,fun σ' H' ⟨p',l⟩=>⟨_,l,rfl,p'⟩,q⟩
 |false=>exact q
abbrev R2:=V->V->Hp->VK->Prop
def j9(X:Cx)(f:Value->Value->Sem Value)(r:R2):Prop:=
 ∀ (ae:List (Addr×Obj)) (s:Shared) (σ:St) (H:Hp) (x y:V) (v u:Value) (Q:VK),av X ae σ H s->bq x v->bq y u->r x y H Q->
  wpAny (model X.prog X.w) X.A (f v u) (EP X ae σ Q) X.xe s
def dE(X:Cx)(f:Value)(r:List V->Hp->VK->Prop):Prop:=
 ∀ (ae:List (Addr×Obj)) (s:Shared) (σ:St) (H:Hp) (xs:List V) (us:List Value) (Q:VK),av X ae σ H s->aK xs us->r xs H Q->
  wpAny (model X.prog X.w) X.A (call f us) (EP X ae σ Q) X.xe s
def kU(r:R2)(ta tb:TE):TE:=fun σ H Q=>ta σ H fun x H1=>tb σ H1 fun y H2=>r x y H2 Q
def rI(C:Int->Int->Prop)(g:Int->Int->V):R2:=fun x y H Q=>∃i j,x=.int i/\y=.int j/\C i j/\Q (g i j) H
def v1(g:Int->Int->V):R2:=fun x y H Q=>∃i j,x=.int i/\y=.int j/\Q (g i j) H
section
variable {X:Cx} {a b c:Expr} {ta tb tc:TE} {pos:Pos}
theorem Fz(ha:PE X a ta)(hb:PE X b tb){ae:List (Addr×Obj)}{s:Shared}{σ:St}{H:Hp}{R:V->V->Hp->Prop}(I:av X ae σ H s)(h:ta σ H fun x H1=>tb σ H1 fun y H2=>R x y H2){Q:Value->Shared->Prop}{f:Value->Value->Sem Value}(hf:∀v u s2 x y H2,av X ae σ H2 s2->bq x v->bq y u->R x y H2->wpAny (model X.prog X.w) X.A (f v u) Q X.xe s2):
  wpAny (model X.prog X.w) X.A (eval a X.env) (fun v s₁=>wpAny (model X.prog X.w) X.A (eval b X.env) (fun u s₂=>wpAny (model X.prog X.w) X.A (f v u) Q X.xe s₂) X.xe s₁) X.xe s:=by
 refine cg (ha ae s σ H _ I h) fun v s1 ⟨x,H1,I1,r1,q1⟩=>?_;refine cg (hb ae s1 σ H1 _ I1 q1) fun u s2 ⟨y,H2,I2,r2,q2⟩=>?_;exact hf v u s2 x y H2 I2 r1 r2 q2
theorem bx{op:Operator}{r:R2}(ho:j9 X (binaryOp op) r)(ha:PE X a ta)(hb:PE X b tb):PE X (.BinOp a op b pos) (kU r ta tb):=by
 intro ae s σ H Q I h;exact wpAny_BinOp (Fz ha hb I h fun v u s2 x y H2 I2 rx ry q=>ho ae s2 σ H2 x y v u Q I2 rx ry q)
theorem Jp{f:Value->Value->Sem Value}{C:Int->Int->Prop}{g:Int->Int->Int}(rule:∀ (i j:Int) (t u:Tok) (s:Shared) (Q:Value->Shared->Prop) (E:Value->Shared->Prop),C i j->Q (.int (g i j) s.toks) { s with toks:=s.toks+1 }->wpAny (model X.prog X.w) X.A (f (.int i t) (.int j u)) Q E s):
  j9 X f (rI C fun i j=>.int (g i j)):=by
 intro ae s σ H x y v u Q I rx ry h;obtain⟨i,j,rfl,rfl,hc,q⟩:=h;obtain⟨t,rfl⟩:=rx;obtain⟨t',rfl⟩:=ry;exact rule i j t t' s _ _ hc ⟨.int (g i j),H,I.tok _,⟨_,rfl⟩,q⟩
theorem Jq{f:Value->Value->Sem Value}{g:Int->Int->Int}(rule:∀ (i j:Int) (t u:Tok) (s:Shared) (Q:Value->Shared->Prop) (E:Value->Shared->Prop),Q (.int (g i j) s.toks) { s with toks:=s.toks+1 }->wpAny (model X.prog X.w) X.A (f (.int i t) (.int j u)) Q E s):
  j9 X f (v1 fun i j=>.int (g i j)):=by
 intro ae s σ H x y v u Q I rx ry h;obtain⟨i,j,rfl,rfl,q⟩:=h;obtain⟨t,rfl⟩:=rx;obtain⟨t',rfl⟩:=ry;exact rule i j t t' s _ _ ⟨.int (g i j),H,I.tok _,⟨_,rfl⟩,q⟩
theorem FA{f:Value->Value->Sem Value}{g:Int->Int->Bool}(rule:∀ (i j:Int) (t u:Tok) (s:Shared) (Q:Value->Shared->Prop) (E:Value->Shared->Prop),Q (.bool (g i j)) s->wpAny (model X.prog X.w) X.A (f (.int i t) (.int j u)) Q E s):
  j9 X f (v1 fun i j=>.bl (g i j)):=by
 intro ae s σ H x y v u Q I rx ry h;obtain⟨i,j,rfl,rfl,q⟩:=h;obtain⟨t,rfl⟩:=rx;obtain⟨t',rfl⟩:=ry;exact rule i j t t' s _ _ ⟨.bl (g i j),H,I,rfl,q⟩
def Jr(i j:Int):Prop:=0<j/\j<1073741824
def Oi(i j:Int):Prop:=0<=j/\j<=1000000/\i.natAbs<2 ^ 64
def FB(i j:Int):Prop:=(-(2 ^ 64)<i/\i<2 ^ 64)\/(-(2 ^ 64)<j/\j<2 ^ 64)
theorem FB.ok(h:FB i j):IntMulOk i j:=by
 rcases h with ⟨h1,h2⟩|⟨h1,h2⟩
 .exact .of_left (intBits_le_64 h1 h2)
 .exact .of_right (intBits_le_64 h1 h2)
theorem et:j9 X (binaryOp .Add) (v1 fun i j=>.int (i+j)):=Jq fun _ _ _ _ _ _ _ q=>add_int q
theorem j_:j9 X (binaryOp .Sub) (v1 fun i j=>.int (i-j)):=Jq fun _ _ _ _ _ _ _ q=>sub_int q
theorem p8:j9 X (binaryOp .Mult) (rI FB fun i j=>.int (i*j)):=Jp fun _ _ _ _ _ _ _ hc q=>mul_int q hc.ok
theorem B9:j9 X (binaryOp .FloorDiv) (rI Jr fun i j=>.int (i / j)):=Jp fun i j _ _ _ _ _ hc q=>by
 have h1:(0:Int)<j:=hc.1;have h2:j<1073741824:=hc.2;exact floordiv_int (by lia) (by rw[tJ i (by lia)];exact q) (.inl (PyProof.noPylong_small (by lia)))
theorem i6:j9 X (binaryOp .Mod) (rI (fun _ j=>0<j) fun i j=>.int (i % j)):=Jp fun i j _ _ _ _ _ hc q=>by
 have h1:(0:Int)<j:=hc;exact mod_int' (by lia) (by rw[tI i (by lia)];exact q)
theorem zg:j9 X (binaryOp .Pow) (rI Oi fun i j=>.int (i ^ j.toNat)):=Jp fun _ _ _ _ _ _ _ hc q=>pow_int_small hc.1 hc.2.1 hc.2.2 q
end
def FE:V->V->Bool
 |.bH,.bH=>true|.bH,.int _=>true|.int _,.bH=>true|.bH,.bl _=>true|.bl _,.bH=>true|.bH,.str _=>true|.str _,.bH=>true
 |.int _,.int _=>true|.bl _,.bl _=>true|.str _,.str _=>true|.yA _,.yA _=>true
 |.int _,.str _=>true|.str _,.int _=>true|.bl _,.str _=>true|.str _,.bl _=>true
 |_,_=>false
def M5:R2:=fun x y H Q=>FE x y=true/\Q (.bl (decide (x=y))) H
def Vd:R2:=fun x y H Q=>FE x y=true/\Q (.bl (!decide (x=y))) H
theorem v3:decide (V.int i=V.int j)=(i==j):=by
 rw[me];simp
theorem zh:decide (V.bl i=V.bl j)=(i==j):=by
 rw[me];simp
theorem v4:decide (V.str i=V.str j)=(i==j):=by
 rw[me];simp
theorem v5:decide (V.yA i=V.yA j)=(i.toList==j.toList):=by
 rw[me];cases i;cases j;simp
section
variable {X:Cx} {a b c:Expr} {ta tb tc:TE} {pos:Pos}
theorem aZ(I:av X ae σ H s)(q:Q (.bl k) H)(e:k=k'):EP X ae σ Q (.bool k') s:=by
 subst e;exact⟨.bl k,H,I,rfl,q⟩
theorem jv:j9 X (compareOp .Eq) M5:=by
 intro ae s σ H x y v u Q I rx ry h;obtain⟨hs,q⟩:=h;cases x with
 |bH=>
  cases rx;cases y with
  |bH=>cases ry;exact PySem.EqNone.eq_none_none (aZ I q (by simp))
  |bl j=>cases ry;exact PySem.EqNone.eq_none_bool (aZ I q (by simp))
  |int j=>obtain⟨t',rfl⟩:=ry;exact PySem.EqNone.eq_none_int (aZ I q (by simp))
  |str j=>obtain⟨t',rfl⟩:=ry;exact PySem.EqNone.eq_none_str (aZ I q (by simp))
  |_=>exact absurd (show false=true from hs) bV
 |bl i=>
  cases rx;cases y with
  |bH=>cases ry;exact PySem.EqNone.eq_bool_none (aZ I q (by simp))
  |bl j=>cases ry;exact eq_bool (aZ I q zh)
  |str j=>obtain⟨t',rfl⟩:=ry;exact PySem.EqMixed.eq_bool_str (aZ I q (by simp))
  |_=>exact absurd (show false=true from hs) bV
 |int i=>
  obtain⟨t,rfl⟩:=rx;cases y with
  |bH=>cases ry;exact PySem.EqNone.eq_int_none (aZ I q (by simp))
  |int j=>obtain⟨t',rfl⟩:=ry;exact eq_int (aZ I q v3)
  |str j=>obtain⟨t',rfl⟩:=ry;exact PySem.EqMixed.eq_int_str (aZ I q (by simp))
  |_=>exact absurd (show false=true from hs) bV
 |str i=>
  obtain⟨t,rfl⟩:=rx;cases y with
  |bH=>cases ry;exact PySem.EqNone.eq_str_none (aZ I q (by simp))
  |bl j=>cases ry;exact PySem.EqMixed.eq_str_bool (aZ I q (by simp))
  |int j=>obtain⟨t',rfl⟩:=ry;exact PySem.EqMixed.eq_str_int (aZ I q (by simp))
  |str j=>obtain⟨t',rfl⟩:=ry;exact eq_str (aZ I q v4)
  |_=>exact absurd (show false=true from hs) bV
 |yA i=>
  obtain⟨t,rfl⟩:=rx;cases y with
  |yA j=>obtain⟨t',rfl⟩:=ry;exact PySem.W.eq_bytes (aZ I q v5)
  |_=>exact absurd (show false=true from hs) bV
 |_=>cases y <;> exact absurd (show false=true from hs) bV
theorem kW:j9 X (compareOp .NotEq) Vd:=by
 intro ae s σ H x y v u Q I rx ry h;obtain⟨hs,q⟩:=h;cases x with
 |bH=>
  cases rx;cases y with
  |bH=>cases ry;exact PySem.EqNone.ne_none_none (aZ I q (by simp))
  |bl j=>cases ry;exact PySem.EqNone.ne_none_bool (aZ I q (by simp))
  |int j=>obtain⟨t',rfl⟩:=ry;exact PySem.EqNone.ne_none_int (aZ I q (by simp))
  |str j=>obtain⟨t',rfl⟩:=ry;exact PySem.EqNone.ne_none_str (aZ I q (by simp))
  |_=>exact absurd (show false=true from hs) bV
 |bl i=>
  cases rx;cases y with
  |bH=>cases ry;exact PySem.EqNone.ne_bool_none (aZ I q (by simp))
  |bl j=>cases ry;exact ne_bool (aZ I q (congrArg not zh))
  |str j=>obtain⟨t',rfl⟩:=ry;exact PySem.EqMixed.ne_bool_str (aZ I q (by simp))
  |_=>exact absurd (show false=true from hs) bV
 |int i=>
  obtain⟨t,rfl⟩:=rx;cases y with
  |bH=>cases ry;exact PySem.EqNone.ne_int_none (aZ I q (by simp))
  |int j=>obtain⟨t',rfl⟩:=ry;exact ne_int (aZ I q (congrArg not v3))
  |str j=>obtain⟨t',rfl⟩:=ry;exact PySem.EqMixed.ne_int_str (aZ I q (by simp))
  |_=>exact absurd (show false=true from hs) bV
 |str i=>
  obtain⟨t,rfl⟩:=rx;cases y with
  |bH=>cases ry;exact PySem.EqNone.ne_str_none (aZ I q (by simp))
  |bl j=>cases ry;exact PySem.EqMixed.ne_str_bool (aZ I q (by simp))
  |int j=>obtain⟨t',rfl⟩:=ry;exact PySem.EqMixed.ne_str_int (aZ I q (by simp))
  |str j=>obtain⟨t',rfl⟩:=ry;exact ne_str (aZ I q (congrArg not v4))
  |_=>exact absurd (show false=true from hs) bV
 |yA i=>
  obtain⟨t,rfl⟩:=rx;cases y with
  |yA j=>obtain⟨t',rfl⟩:=ry;exact PySem.W.ne_bytes (aZ I q (congrArg not v5))
  |_=>exact absurd (show false=true from hs) bV
 |_=>cases y <;> exact absurd (show false=true from hs) bV
theorem zi:j9 X (compareOp .Lt) (v1 fun i j=>.bl (decide (i<j))):=FA fun _ _ _ _ _ _ _ q=>lt_int q
theorem Et:j9 X (compareOp .LtE) (v1 fun i j=>.bl (decide (i<=j))):=FA fun _ _ _ _ _ _ _ q=>le_int q
theorem Eu:j9 X (compareOp .Gt) (v1 fun i j=>.bl (decide (j<i))):=FA fun _ _ _ _ _ _ _ q=>gt_int q
theorem zj:j9 X (compareOp .Is) (fun x y H Q=>y=.bH/\Q (.bl (decide (x=.bH))) H):=by
 intro ae s σ H x y v u Q I rx ry h;obtain⟨rfl,q⟩:=h;cases ry;refine is_none_gen (aZ I q ?_);cases x <;> first
  |(cases rx;rfl)
  |(obtain⟨t,rfl⟩:=rx;rfl)
theorem B_:j9 X (compareOp .IsNot) (fun x y H Q=>y=.bH/\Q (.bl (!decide (x=.bH))) H):=by
 intro ae s σ H x y v u Q I rx ry h;obtain⟨rfl,q⟩:=h;cases ry;refine isnot_none_gen (aZ I q ?_);cases x <;> first
  |(cases rx;rfl)
  |(obtain⟨t,rfl⟩:=rx;rfl)
theorem bB(b:Expr)(h:op≠.In:=by decide)(h2:op≠.NotIn:=by decide):behindInMarks op b=false:=by
 have e1:(op==CmpOp.In)=false:=by cases op <;> first|rfl|exact absurd rfl h
 have e2:(op==CmpOp.NotIn)=false:=by cases op <;> first|rfl|exact absurd rfl h2
 cases b <;> simp[behindInMarks,e1,e2]
theorem iy(ho:j9 X (compareOp op) r)(ha:PE X a ta)(hb:PE X b tb)(hm:behindInMarks op b=false):PE X (.Compare a [op] [b] pos) (kU r ta tb):=by
 intro ae s σ H Q I h;exact wpAny_Compare1 (Fz ha hb I h fun v u s2 x y H2 I2 rx ry q=>ho ae s2 σ H2 x y v u Q I2 rx ry q) hm
def rC(t:TE):TT:=fun σ H Q=>t σ H fun x H'=>∃k,x=.bl k/\Q k H'
theorem bu(ho:j9 X (compareOp op) r)(ha:PE X a ta)(hb:PE X b tb)(hm:behindInMarks op b=false):PT X (.Compare a [op] [b] pos) (rC (kU r ta tb)):=by
 intro ae s σ H Q I h;refine wpAny_isTrue_Compare1 (cg (ha ae s σ H _ I h) fun v s1 ⟨x,H1,I1,r1,q1⟩=>cg (hb ae s1 σ H1 _ I1 q1) fun u s2 ⟨y,H2,I2,r2,q2⟩=>
  cg (ho ae s2 σ H2 x y v u _ I2 r1 r2 q2) fun c s3 ⟨z,H3,I3,r3,k,e,q3⟩=>?_) hm
 subst e;cases r3;exact l8 ⟨H3,I3,q3⟩
def FG(r r':R2)(ta tb tc:TE):TE:=fun σ H Q=>ta σ H fun x H1=>tb σ H1 fun y H2=>r x y H2 fun z H3=>∃k,z=.bl k/\
 (if k=true then tc σ H3 fun w' H4=>r' y w' H4 Q else Q (.bl false) H3)
theorem zk(ho:j9 X (compareOp op) r)(nV:j9 X (compareOp Td) r')(ha:PE X a ta)(hb:PE X b tb)(hc:PE X c tc)(hm:lastMarks [op,Td] [b,c]=false:=by with_unfolding_all rfl):PE X (.Compare a [op,Td] [b,c] pos) (FG r r' ta tb tc):=by
 intro ae s σ H Q I h;refine Compare_chain (cg (ha ae s σ H _ I h) fun v s1 ⟨x,H1,I1,r1,q1⟩=>chain_link (cg (hb ae s1 σ H1 _ I1 q1) fun u s2 ⟨y,H2,I2,r2,q2⟩=>
  cg (ho ae s2 σ H2 x y v u _ I2 r1 r2 q2) fun d s3 ⟨z,H3,I3,r3,k,e,q3⟩=>?_)) hm
 subst e;cases r3;refine l8 ?_;cases k with
 |false=>exact ite_ff ⟨.bl false,H3,I3,rfl,q3⟩
 |true=>exact ite_tt (chain_last (cg (hc ae s3 σ H3 _ I3 q3) fun w' s4 ⟨z',H4,I4,r4,q4⟩=>nV ae s4 σ H4 y z' u w' Q I4 r2 r4 q4))
theorem p9:(sizeLine:Nat)<2 ^ 63:=by rw[d6];decide
theorem v6(r:aK [x] us):∃u,us=[u]/\bq x u:=by
 cases r with
 |cons r1 r2=>cases r2;exact⟨_,rfl,r1⟩
theorem zm(r:aK [x,y] us):∃u w',us=[u,w']/\bq x u/\bq y w':=by
 cases r with
 |cons r1 r2=>
  cases r2 with
  |cons r3 r4=>cases r4;exact⟨_,_,rfl,r1,r3⟩
theorem rD:dE X (.builtin "abs") (fun xs H Q=>∃i,xs=[.int i]/\Q (.int (if i<0 then -i else i)) H):=by
 intro ae s σ H xs us Q I r h;obtain⟨i,rfl,q⟩:=h;obtain⟨u,rfl,t,rfl⟩:=v6 r;exact call_abs_int fun u tk=>⟨.int (if i<0 then -i else i),H,I.tok _,⟨_,rfl⟩,q⟩
theorem oI(hc:X.calm=true):dE X (.builtin "max") (fun xs H Q=>∃i j,xs=[.int i,.int j]/\Q (.int (if j > i then j else i)) H):=by
 intro ae s σ H xs us Q I r h;obtain⟨i,j,rfl,q⟩:=h;obtain⟨u,w',rfl,⟨t,rfl⟩,⟨t',rfl⟩⟩:=zm r;refine max_two_ints (I.ok.hd hc) fun h' tk k=>⟨_,H,I.kept k,?_,q⟩
 by_cases hj:j > i
 .rw[ao hj,ao hj];exact⟨_,rfl⟩
 .rw[am hj,am hj];exact⟨_,rfl⟩
theorem xu(hc:X.calm=true):dE X (.builtin "min") (fun xs H Q=>∃i j,xs=[.int i,.int j]/\Q (.int (if j<i then j else i)) H):=by
 intro ae s σ H xs us Q I r h;obtain⟨i,j,rfl,q⟩:=h;obtain⟨u,w',rfl,⟨t,rfl⟩,⟨t',rfl⟩⟩:=zm r;refine min_two_ints (I.ok.hd hc) fun h' tk k=>⟨_,H,I.kept k,?_,q⟩
 by_cases hj:j<i
 .rw[ao hj,ao hj];exact⟨_,rfl⟩
 .rw[am hj,am hj];exact⟨_,rfl⟩
end
structure uO(h:Heap)(x dx C:Addr)(mA:Str->Option Value):Prop where
 obj:h.get? x=some (PySem.W.instObj C dx)
 ns:h.Ns1 dx mA
 ne:dx≠x
theorem xv{h:Heap}{dx:Addr}{mA:Str->Option Value}(n:h.Ns1 dx mA):∃od,h.get? dx=some od/\∀name,PySem.W.lookIn name od=some (mA name):=by
 obtain⟨o,es,ep,ho,hd,hk,_,hm⟩:=n;refine⟨o,ho,fun name=>?_⟩;have e:=hm name;unfold nsFind findBy at e;rw[<-Array.find?_toList] at e;unfold PySem.W.lookIn;rw[hd];dsimp only;split
 .rename_i y q;rw[q] at e;exact congrArg some e
 .rename_i q;rw[q] at e;have a:es.toList.any (·.refKey)=false:=by
   rw[uo];intro y hy;obtain⟨z,t,n6⟩:=hk y (Array.mem_toList_iff.mp hy);simp[DictEntry.refKey,n6]
  have a':¬ es.toList.any (·.refKey)=true:=by rw[a];exact bV
  rw[am a'];exact congrArg some e
theorem uO.look(I:uO h x dx C mA):∃od,PySem.W.InstAt h x (PySem.W.instObj C dx) C (some od)/\∀name,PySem.W.lookIn name od=some (mA name):=
 let ⟨od,ho,hl⟩:=xv I.ns
 ⟨od,⟨I.obj,rfl,rfl,ho⟩,hl⟩
section
variable {prog:Program} {w:World} {A:Around} {E:Value->Shared->Prop} {s:Shared} {K:PySem.W.Frag} {x dx C f:Addr} {mA:Str->Option Value} {name:Str} {v:Value}
theorem Ca(X:K.In s.heap)(I:uO s.heap x dx C mA)(hg:PySem.W.plainGet K C name=true)(hh:PySem.W.hasDictIn K C=true)(ha:PySem.W.findIn K (.ref C) name=some none)(hv:mA name=some v)(uP:PySem.W.handedIn v=true)(h:Q v { s with toks:=s.toks+1 }):
  wpAny (model prog w) A (getAttr (.ref x) name Cb) Q E s:=by
 obtain⟨od,J,hl⟩:=I.look;exact PySem.W.get_value X J (t_ hg).1 (PySem.W.findObj_own hh ha rfl (by rw[hl,hv])) uP h
theorem zn(X:K.In s.heap)(I:uO s.heap x dx C mA)(hg:PySem.W.plainGet K C name=true)(hf:PySem.W.findIn K (.ref C) name=some (some (.ref f)))(ht:PySem.W.isFn K (.ref f)=true)(hv:mA name=none)(h:Q (.ref f,[.ref x]) s):
  wpAny (model prog w) A (getMethod (.ref x) name pl) Q E s:=by
 obtain⟨od,J,hl⟩:=I.look;exact PySem.W.method_fn X J (t_ hg).1 (t_ hg).2 hf (eQ.mp ht) (by show (PySem.W.lookIn name od).map (·.isSome)=some false;rw[hl,hv];rfl) h
theorem Cd(X:K.In s.heap)(I:uO s.heap x dx C mA)(hs:PySem.W.findIn K (.ref C) "__setattr__"=some (some (.builtin "object.__setattr__")))(hp:PySem.W.plainOver K C=true)(ht:PySem.W.takerIn K C name=some none)(hh:PySem.W.hasDictIn K C=true)(hw:PySem.Within mA ns)(fq:ns.length<=sizeLine)(h:∀h',uO h' x dx C (fun y=>if y=name then some v else mA y)->Heap.SameBut dx s.heap h'->Q () { s with heap:=h',toks:=s.toks+2 }):
  wpAny (model prog w) A (setAttr (.ref x) name v) Q E s:=by
 obtain⟨od,J,hl⟩:=I.look;refine PySem.W.set_plain X J hs (PySem.W.osa_open (s:={ s with toks:=s.toks+1 }) (r:=none) X J hp ht fun b=>?_);obtain⟨cd,hc,y6⟩:=PySem.W.any_some hh;have hx:s.heap.get? x=some ⟨.ref C,some dx,.plain,#[]⟩:=I.obj;refine aq (wpAny_pure (aq (aq (wpAny_loadPart hx (aq (PySem.W.Looks.here (s:={ s with toks:=s.toks+1 }) (PySem.W.looks_clsIn X hc) ?_))))));rw[y6];refine wpAny_pure (a:=some dx) (aq (wpAny_pure (aq ?_)));refine wpAny_nsSet1 (s:={ s with toks:=s.toks+1 }) I.ns fun h' M6 oJ=>?_;obtain⟨oD,Ye,Yf,Ve,Js,Ce⟩:=M6.count (PySem.Within.cons name v hw);refine aq (wpAny_lookBehind Ve (by rw[Js];exact pastItsLine_dict (bp Ce (by rw[dv];lia))) ?_);exact wpAny_pure (h _ ⟨(oJ.2 _ (ei I.ne)).trans I.obj,M6,I.ne⟩ oJ)
theorem zo(X:K.In s.heap)(hm:PySem.W.makesIn K C=true)(hi:PySem.W.findIn K (.ref C) "__init__"=some (some (.ref f)))(hf:PySem.W.typeIn K (.ref f)=some (.type "function"))(h:codeAny (model prog w) (A.under (.builtin "type.__call__" ⟨.ref C::vs,kw⟩)) (.call (.ref f) ⟨.ref (s.heap.objs.size+1)::vs,kw⟩) (PySem.W.InitBack (s.heap.objs.size+1) R)
   { s with heap:=(s.heap.push PySem.W.emptyDict).push (PySem.W.instObj C s.heap.objs.size) }):
  codeAny (model prog w) A (.call (.ref C) ⟨vs,kw⟩) R s:=by
 obtain⟨hh,g,d,t,os⟩:=s;exact PySem.W.make_core (ut X hm) (PySem.W.looks_findIn X hi) (fun self=>PySem.W.bind_fn X self hf) (.inl rfl) h
theorem xw(X:K.In s.heap)(hm:PySem.W.makesIn K C=true)(hi:PySem.W.findIn K (.ref C) "__init__"=some (some (.builtin "object.__init__")))(hb:∀self,PySem.W.Looks (model prog w) s.heap (bindSpecial (.builtin "object.__init__") self) (.builtin "object.__init__",[self]))(h:codeAny (model prog w) (A.under (.builtin "type.__call__" ⟨[.ref C],[]⟩)) (.call (.builtin "object.__init__") ⟨[.ref (s.heap.objs.size+1)],[]⟩) (PySem.W.InitBack (s.heap.objs.size+1) R)
   { s with heap:=(s.heap.push PySem.W.emptyDict).push (PySem.W.instObj C s.heap.objs.size) }):
  codeAny (model prog w) A (.call (.ref C) ⟨[],[]⟩) R s:=by
 obtain⟨hh,g,d,t,os⟩:=s;exact PySem.W.make_core (ut X hm) (PySem.W.looks_findIn X hi) hb (.inr ⟨rfl,rfl⟩) h
end
def cp(f:Str)(v:V):List (Str×V)->List (Str×V)
 |[]=>[(f,v)]
 |(g,x)::r=>if g=f then (g,v)::r else (g,x)::cp f v r
theorem aU(f g:Str)(v:V):∀fs:List (Str×V),(cp f v fs).lookup g=if g=f then some v else fs.lookup g
 |[]=>by
  show List.lookup g [(f,v)]=_;by_cases h:g=f
  .have hb:(g==f)=true:=eQ.mpr h;simp only[List.lookup,hb,ao h]
  .have hb:(g==f)=false:=lT.mpr h;simp only[List.lookup,hb,am h]
 |(k,x)::r=>by
  have ih:=aU f g v r;rw[show cp f v ((k,x)::r)=(if k=f then (k,v)::r else (k,x)::cp f v r) from rfl];by_cases hk:k=f
  .rw[ao hk];by_cases h:g=k
   .have hb:(g==k)=true:=eQ.mpr h;simp only[List.lookup,hb,ao (h.trans hk)]
   .have hb:(g==k)=false:=lT.mpr h;simp only[List.lookup,hb,am (fun e:g=f=>h (e.trans hk.symm))]
  .rw[am hk];by_cases h:g=k
   .have hb:(g==k)=true:=eQ.mpr h;simp only[List.lookup,hb,am (fun e:g=f=>hk (h.symm.trans e))]
   .have hb:(g==k)=false:=lT.mpr h;simp only[List.lookup,hb];exact ih
theorem kd(f:Str)(v:V):∀fs:List (Str×V),f∈(cp f v fs).map (·.1)/\∀g,g∈fs.map (·.1)->g∈(cp f v fs).map (·.1)
 |[]=>⟨by simp[cp],fun g h=>by simp at h⟩
 |(k,x)::r=>by
  obtain⟨i1,i2⟩:=kd f v r;rw[show cp f v ((k,x)::r)=(if k=f then (k,v)::r else (k,x)::cp f v r) from rfl];by_cases hk:k=f
  .rw[ao hk];subst hk;exact⟨by simp,fun g h=>by simpa using h⟩
  .rw[am hk];refine⟨?_,fun g h=>?_⟩
   .rw[jo];exact bS _ i1
   .rw[jo] at h |-;rcases aR.mp h with e|e
    .exact aR.mpr (.inl e)
    .exact bS _ (i2 g e)
theorem cH(f:Str)(v:V):∀fs:List (Str×V),(cp f v fs).length<=fs.length+1
 |[]=>by simp[cp]
 |(k,x)::r=>by
  have ih:=cH f v r;rw[show cp f v ((k,x)::r)=(if k=f then (k,v)::r else (k,x)::cp f v r) from rfl];by_cases hk:k=f
  .rw[ao hk,dv,dv];lia
  .rw[am hk,dv,dv];lia
theorem nZ.some_of(r:nZ (some v) o):∃u,o=some u/\bq v u:=by
 cases o with
 |none=>exact(show False from r).elim
 |some u=>exact⟨u,rfl,r⟩
theorem nZ.none_of(r:nZ none o):o=none:=by
 cases o with
 |none=>rfl
 |some u=>exact(show False from r).elim
theorem xx(r:bq v u):PySem.W.handedIn u=true:=by
 cases v with
 |bH=>cases (show u=Value.none from r);rfl
 |bl b=>cases (show u=Value.bool b from r);rfl
 |int i=>obtain⟨t,e⟩:=(show ∃t,u=Value.int i t from r);cases e;rfl
 |str x=>obtain⟨t,e⟩:=(show ∃t,u=Value.str x t from r);cases e;rfl
 |yA b=>obtain⟨t,e⟩:=(show ∃t,u=Value.bytes b t from r);cases e;rfl
 |yX b=>obtain⟨t,e⟩:=(show ∃t,u=Value.float b t from r);cases e;rfl
 |ref a=>cases (show u=Value.ref a from r);rfl
 |ty n=>cases (show u=Value.type n from r);rfl
section
variable {P:Program} {w:World} {H H':Hp} {h h':Heap} {a C dx:Addr} {fs N3:List (Str×V)}
theorem lE(aW:gZ P w H h)(e:H a=some (.ins C dx fs)):∃mA,uO h a dx C mA/\(∀f,nZ (fs.lookup f) (mA f))/\PySem.Within mA (fs.map (·.1))/\fs.length<=1000/\H dx=some (.own a):=by
 obtain⟨d,z,ne,ob,mA,n,r,q⟩:=(show bX P w H h a (.ins C dx fs) from aW a _ e)
 exact⟨mA,⟨ob,n,ne⟩,r,q,z,d⟩
end
structure xy(K:PySem.W.Frag)(C:Addr):Prop where
 pg:PySem.W.plainGet K C Str.empty=true
 hd:PySem.W.hasDictIn K C=true
 po:PySem.W.plainOver K C=true
 sa:PySem.W.findIn K (.ref C) "__setattr__"=some (some (.builtin "object.__setattr__"))
theorem xy.get{K:PySem.W.Frag}{C:Addr}(c:xy K C)(f:Str):PySem.W.plainGet K C f=true:=c.pg
def eU(K:PySem.W.Frag)(C:Addr)(f:Str):Prop:=PySem.W.findIn K (.ref C) f=some none
theorem eU.Jt{K:PySem.W.Frag}{C:Addr}{f:Str}(n:eU K C f):PySem.W.takerIn K C f=some none:=by
 unfold PySem.W.takerIn;rw[show PySem.W.findIn K (.ref C) f=some none from n];rfl
structure FH(K:PySem.W.Frag)(C:Addr)(m:Str)(f:Addr):Prop where
 at_:PySem.W.findIn K (.ref C) m=some (some (.ref f))
 fn:PySem.W.isFn K (.ref f)=true
 kp:PySem.W.keepIn K (.ref f)=true
section
variable {X:Cx} {ae:List (Addr×Obj)} {σ:St} {H:Hp} {s:Shared} {a C dx:Addr} {fs:List (Str×V)} {f:Str} {v:V} {A:Around} {E:Value->Shared->Prop}
theorem uQ(I:av X ae σ H s)(e:H a=some (.ins C dx fs))(c:xy X.K C)(n:eU X.K C f)(l:fs.lookup f=some v)(h:∀u s',av X ae σ H s'->bq v u->Q u s'):wpAny (model X.prog X.w) A (getAttr (.ref a) f b) Q E s:=by
 obtain⟨mA,O,r,_,_,_⟩:=lE I.aW e;obtain⟨u,hu,ru⟩:=nZ.some_of (v:=v) (o:=mA f) (by rw[<-l];exact r f);exact Ca I.iN O (c.get f) c.hd n hu (xx ru) (h u _ (I.tok _) ru)
theorem uR(I:av X ae σ H s)(e:H a=some (.ins C dx fs))(c:xy X.K C)(k:FH X.K C m g)(l:fs.lookup m=none)(h:Q (.ref g,[.ref a]) s):wpAny (model X.prog X.w) A (getMethod (.ref a) m pl) Q E s:=by
 obtain⟨mA,O,r,_,_,_⟩:=lE I.aW e;have hn:mA m=none:=nZ.none_of (by rw[<-l];exact r m);exact zn I.iN O (c.get m) k.at_ k.fn hn h
theorem uS(I:av X ae σ H s)(e:H a=some (.ins C dx fs))(c:xy X.K C)(n:eU X.K C f)(hl:fs.length<1000)(ry:bq y u)(h:∀s',av X ae σ (upd H a (.ins C dx (cp f y fs))) s'->Q () s'):wpAny (model X.prog X.w) A (setAttr (.ref a) f u) Q E s:=by
 obtain⟨mA,O,r,wi,_,ho⟩:=lE I.aW e;have hz:(fs.map (·.1)).length<=sizeLine:=by rw[aT,d6];lia
 refine Cd I.iN O c.sa c.po n.Jt c.hd wi hz fun h' O' sb=>h _ ?_;have hd:∃o,h'.get? dx=some o:=let ⟨o,_,_,e',_⟩:=O'.ns;⟨o,e'⟩;refine I.write (x:=a) (e:=dx) (by rw[e];exact True.intro) (.inr ho) (fun b q hb z=>(sb.2 b hb).trans z) hd ?_;refine⟨by rw[ah O.ne];exact ho,?_,O.ne,O'.obj,_,O'.ns,fun g=>?_,fun g hg=>?_⟩
 .have:=cH f y fs;lia
 .show nZ ((cp f y fs).lookup g) (if g=f then some u else mA g);rw[aU];by_cases q:g=f
  .rw[ao q,ao q];exact ry
  .rw[am q,am q];exact r g
 .by_cases q:g=f
  .rw[q];exact(kd f y fs).1
  .refine(kd f y fs).2 g (wi g fun z=>hg ?_);show (if g=f then some u else mA g)=none;rw[am q];exact z
theorem av.made(I:av X ae σ H s):av X ae σ (upd (upd H s.heap.objs.size (.own (s.heap.objs.size+1))) (s.heap.objs.size+1) (.ins C s.heap.objs.size []))
  { s with heap:=(s.heap.push PySem.W.emptyDict).push (PySem.W.instObj C s.heap.objs.size) }:=by
 have e1:(s.heap.push PySem.W.emptyDict).get? s.heap.objs.size=some PySem.W.emptyDict:=ci s.heap rfl;have e2:((s.heap.push PySem.W.emptyDict).push (PySem.W.instObj C s.heap.objs.size)).get? (s.heap.objs.size+1)=some (PySem.W.instObj C s.heap.objs.size):=by
  have:=ci (s.heap.push PySem.W.emptyDict) (o:=PySem.W.instObj C s.heap.objs.size) rfl;rwa [kT] at this
 have e3:(s.heap.push PySem.W.emptyDict).Ns s.heap.objs.size (fun _=>none):=⟨PySem.W.emptyDict,#[],_,e1,rfl,(fun e he=>absurd he (by simp)),fun _=>rfl⟩
 have I1:=I.laid (a:=s.heap.objs.size) (o:=.own (s.heap.objs.size+1)) (h':=s.heap.push PySem.W.emptyDict) (t':=s.toks) (fun b u q=>bJ _ q) (aG _) ⟨_,e1⟩;refine I1.laid (a:=s.heap.objs.size+1) (o:=.ins C s.heap.objs.size []) (t':=s.toks) (fun b u q=>bJ _ q) (mj (kT _ _)) ?_;have ne:s.heap.objs.size≠s.heap.objs.size+1:=bf (kQ _);refine⟨by rw[ah ne,af],cu _,ne,e2,fun _=>none,(Heap.Ns1.of_empty e3).at fun o q=>bJ _ q,fun _=>True.intro,fun y hy=>absurd rfl hy⟩
theorem Cf(hb:attributeBase e f env (eval e env)=eval e env)(h:wpAny (model prog w) A (eval e env) (fun o s₁=>wpAny (model prog w) A (getAttr o f true) Q E s₁) E s):wpAny (model prog w) A (eval (.Attribute e f pos) env) Q E s:=
 Attribute_any_ h (by rw[arm_eval_Attribute,hb])
end
def Cg(K:PySem.W.Frag)(ta:TE)(f:Str):TE:=fun σ H Q=>ta σ H fun x H1=>∃a C dx fs v,x=.ref a/\H1 a=some (.ins C dx fs)/\xy K C/\eU K C f/\fs.lookup f=some v/\Q v H1
def Oj(K:PySem.W.Frag)(ta tv:TE)(f:Str):TS:=fun D σ H=>tv σ H fun y H1=>ta σ H1 fun x H2=>∃a C dx fs,x=.ref a/\H2 a=some (.ins C dx fs)/\xy K C/\eU K C f/\fs.length<1000/\
 D.nx σ (upd H2 a (.ins C dx (cp f y fs)))
section
variable {X:Cx} {o e value:Expr} {f:Str} {pos xq FJ:Pos} {ta tv:TE}
theorem fA(he:PE X e ta)(hb:attributeBase e f X.env (eval e X.env)=eval e X.env):PE X (.Attribute e f pos) (Cg X.K ta f):=by
 intro ae s σ H Q I h;refine Cf hb (cg (he ae s σ H _ I h) fun u s1 ⟨x,H1,I1,rx,a,C,dx,fs,v,ex,ea,c,n,l,q⟩=>?_);subst ex;obtain rfl:u=Value.ref a:=rx;exact uQ I1 ea c n l fun u' s2 I2 ru=>⟨v,H1,I2,ru,q⟩
theorem mD(ha:PE X o ta)(hv:PE X value tv)(hs:swapsWith value (some (.Attribute o f xq)) pos.line X.env=pure false):PS X (.Assign [.Attribute o f xq] value pos) (Oj X.K ta tv f):=by
 intro ae s σ H D I h;refine plainObj_wpAny_Assign_Attribute (cg (hv ae s σ H _ I h) fun u s1 ⟨y,H1,I1,ry,q⟩=>cg (ha ae s1 σ H1 _ I1 q) fun ov s2 ⟨x,H2,I2,rx,a,C,dx,fs,ex,ea,c,n,l,q2⟩=>?_) hs;subst ex;obtain rfl:ov=Value.ref a:=rx;exact uS I2 ea c n l ry fun s3 I3=>⟨σ,_,I3,q2⟩
end
section
variable {X:Cx} {ae:List (Addr×Obj)} {σ:St} {H:Hp} {s:Shared} {A:Around} {E:Value->Shared->Prop} {Q:Value->Shared->Prop} {c:Value} {b:Bool}
inductive kg (K:PySem.W.Frag) (H:Hp):V->Value->Prop where
 |bH:kg K H .bH (.type "NoneType")
 |bl (x:Bool):kg K H (.bl x) (.type "bool")
 |int (i:Int):kg K H (.int i) (.type "int")
 |str (x:Str):kg K H (.str x) (.type "str")
 |yX (x:UInt64):kg K H (.yX x) (.type "float")
 |lst {a:Addr} {xs:List V} (e:H a=some (.lst xs)):kg K H (.ref a) (.type "list")
 |lh {a:Addr} {o:Obj} {xs:List V} (e:H a=some (.lh o (.lst xs))):kg K H (.ref a) (.type "list")
 |tup {a:Addr} {xs:List V} (e:H a=some (.tup xs)):kg K H (.ref a) (.type "tuple")
 |dK {a:Addr} {jq:List (nY×V)} (e:H a=some (.dK jq)):kg K H (.ref a) (.type "dict")
 |dT {a:Addr} {jq:List (List nY×V)} (e:H a=some (.dT jq)):kg K H (.ref a) (.type "dict")
 |ins {a C dx:Addr} {fs:List (Str×V)} (e:H a=some (.ins C dx fs)) (cl:xy K C) (ha:PySem.W.findIn K (.ref C) "__class__"=some (some (.builtin "object.__class__")))
   (hn:PySem.W.specialIn K (.builtin "object.__class__") "__get__"=some (some (.builtin "getset_descriptor.__get__"))) (FK:PySem.W.takesIn K (.builtin "object.__class__")=some true)
   (hm:PySem.W.mroIn K C (.type "object")=some true):kg K H (.ref a) (.ref C)
theorem oM(I:av X ae σ H s)(rx:bq x u)(ty:kg X.K H x t)(e:PySem.W.kitOne X.K t c=some b)(h:∀tk,Q (.bool b) { s with toks:=tk }):
  wpAny (model X.prog X.w) A (call (.builtin "isinstance") [u,c]) Q E s:=by
 cases ty with
 |bH=>cases (show u=Value.none from rx);exact fN PySem.W.kitx_none I.iN True.intro e (fun z=>nomatch z) h
 |bl y=>cases (show u=Value.bool y from rx);exact fN PySem.W.kitx_bool I.iN True.intro e (fun z=>nomatch z) h
 |int i=>obtain⟨t,q⟩:=(show ∃t,u=Value.int i t from rx);cases q;exact fN PySem.W.kitx_int I.iN True.intro e (fun z=>nomatch z) h
 |str y=>obtain⟨t,q⟩:=(show ∃t,u=Value.str y t from rx);cases q;exact fN PySem.W.kitx_str I.iN True.intro e (fun z=>nomatch z) h
 |yX y=>obtain⟨t,q⟩:=(show ∃t,u=Value.float y t from rx);cases q;exact fN PySem.W.kitx_float I.iN True.intro e (fun z=>nomatch z) h
 |@lst a xs ea=>
  cases (show u=Value.ref a from rx);obtain⟨_,_,n,_,h1⟩:=(show bX X.prog X.w H s.heap a (.lst xs) from I.aW a _ ea)
  exact fN PySem.W.kitx_list I.iN ⟨_,h1,rfl⟩ e (fun z=>nomatch z) h
 |@lh a ob xs ea=>
  cases (show u=Value.ref a from rx);obtain⟨_,_,_,n,_,h1⟩:=(show bX X.prog X.w H s.heap a (.lh ob (.lst xs)) from I.aW a _ ea)
  exact fN PySem.W.kitx_list I.iN ⟨_,h1,rfl⟩ e (fun z=>nomatch z) h
 |@tup a xs ea=>
  cases (show u=Value.ref a from rx);obtain⟨_,_,_,p⟩:=(show bX X.prog X.w H s.heap a (.tup xs) from I.aW a _ ea)
  obtain⟨o,h1,h2,_⟩:=p;exact fN PySem.W.kitx_tuple I.iN ⟨o,h1,h2⟩ e (fun z=>nomatch z) h
 |@dK a jq ea=>
  cases (show u=Value.ref a from rx);obtain⟨_,_,vs,_,p⟩:=(show bX X.prog X.w H s.heap a (.dK jq) from I.aW a _ ea)
  obtain⟨o,es,ep,h1,h2,_⟩:=p;exact fN PySem.W.kitx_dict I.iN ⟨o,h1,h2.1⟩ e (fun z=>nomatch z) h
 |@dT a jq ea=>
  cases (show u=Value.ref a from rx);obtain⟨_,_,xs,_,o,es,ep,h1,h2,_⟩:=(show bX X.prog X.w H s.heap a (.dT jq) from I.aW a _ ea)
  exact fN PySem.W.kitx_dict I.iN ⟨o,h1,h2.1⟩ e (fun z=>nomatch z) h
 |@ins a C dx fs ea cl ha hn FK hm=>
  cases (show u=Value.ref a from rx);obtain⟨mA,O,_⟩:=lE I.aW ea;obtain⟨od,J,_⟩:=O.look;exact fN (PySem.W.kitx_own (cl.get _) cl.hd ha hn FK hm) I.iN J e (fun z=>nomatch z) h
end
structure bQ(k:Nat)(A:Around):Prop where
 hd:A.handled=none
 dp:A.depth+3*k+5<recursionLimit
 un:A.units+16*k+200<cLine
 gd:A.guards=some []
theorem bQ.mono(r:bQ k A)(h:j<=k):bQ j A:=⟨r.hd,by have:=r.dp;lia,by have:=r.un;lia,r.gd⟩
theorem bQ.deeper(r:bQ (k+1) A)(env:Env):bQ k (A.deeper env):=
 ⟨r.hd,by have:=r.dp;show A.depth+1+3*k+5<_;lia,by have:=r.un;show A.units+3+16*k+200<_;lia,r.gd⟩
theorem uT{A:Around}{C:Addr}{us:List Value}{kw:List (Str×Value)}:(A.under (.builtin "type.__call__" ⟨.ref C::us,kw⟩)).depth=A.depth+1:=by
 first|rfl|simp[Around.under,Code.weight,Code.isCreation,Code.isGuard,Code.isCaller,Code.frames,Code.isFrame,guardIds]
theorem uU{A:Around}{C:Addr}{us:List Value}{kw:List (Str×Value)}:(A.under (.builtin "type.__call__" ⟨.ref C::us,kw⟩)).units=A.units+1:=by
 first|rfl|simp[Around.under,Code.cUnits,Code.frames,Code.isFrame]
theorem bQ.make(r:bQ (k+1) A)(C:Addr)(us:List Value)(kw:List (Str×Value)):bQ k (A.under (.builtin "type.__call__" ⟨.ref C::us,kw⟩)):=
 ⟨r.hd,by have:=r.dp;rw[uT];lia,by have:=r.un;rw[uU];lia,r.gd⟩
theorem bQ.depth(r:bQ k A):A.depth<recursionLimit:=by have:=r.dp;lia
theorem bQ.u(r:bQ k A)(h:n<=200:=by decide):A.units+n<cLine:=by have:=r.un;lia
def eA:TA:=fun _ H Q=>Q [] H
def aQ(ta:TE)(tr:TA):TA:=fun σ H Q=>ta σ H fun x H1=>tr σ H1 fun xs H2=>Q (x::xs) H2
section
variable {X:Cx} {e:Expr} {es:List Expr} {te:TE} {t:TA} {pos:Pos}
theorem ag:PA X [] eA:=fun _ _ _ _ H Q I h=>Calls.spliced_nil ⟨[],H,I,.nil,h⟩
theorem aa(ha:PE X e te)(hr:PA X es t)(hs:starEach (e::es) X.env=(false,eval e X.env)::starEach es X.env:=by rfl):PA X (e::es) (aQ te t):=by
 intro pos ae s σ H Q I h;rw[hs];show wpAny _ _ (spliced ((false,eval e X.env)::backTo pos (starEach es X.env))) _ _ s;refine Calls.spliced_cons (cg (ha ae s σ H _ I h) fun u s1 ⟨x,H1,I1,r1,q1⟩=>?_);exact cg (hr pos ae s1 σ H1 _ I1 q1) fun us s2 ⟨xs,H2,I2,r2,q2⟩=>⟨x::xs,H2,I2,.cons r1 r2,q2⟩
def uV(t:TA):TE:=fun σ H Q=>t σ H fun xs H1=>xs.length<=sizeLine/\∀p,H1 p=none->Q (.ref p) (upd H1 p (.tup xs))
def Ju(t:TA):TE:=fun σ H Q=>t σ H fun xs H1=>xs.length<=sizeLine/\∀p,H1 p=none->Q (.ref p) (upd H1 p (.lst xs))
theorem hZ{x1}(h:PA X es t):PE X (.Tuple es x1 pos) (uV t):=by
 intro ae s σ H Q I hq;refine wpAny_Tuple_spliced (cg (h pos ae s σ H _ I hq) fun us s1 ⟨xs,H1,I1,r,z,q⟩=>⟨by rw[<-r.length];exact z,?_⟩);have hf:H1 s1.heap.objs.size=none:=I1.aW.fresh (aG _);refine⟨.ref s1.heap.objs.size,upd H1 s1.heap.objs.size (.tup xs),I1.laid (t':=s1.toks) (fun b u e=>bJ _ e) (aG _) ?_,rfl,q _ hf⟩;exact⟨z,us,r,⟨_,ci _ rfl,rfl,_,rfl,rfl⟩⟩
theorem fD(h:PA X es t):PE X (.List es pos) (Ju t):=by
 intro ae s σ H Q I hq;refine wpAny_List_spliced (cg (h pos ae s σ H _ I hq) fun us s1 ⟨xs,H1,I1,r,z,q⟩=>⟨by rw[<-r.length];exact z,?_⟩);have hf:H1 s1.heap.objs.size=none:=I1.aW.fresh (aG _);refine⟨.ref s1.heap.objs.size,upd H1 s1.heap.objs.size (.lst xs),I1.laid (t':=s1.toks) (fun b u e=>bJ _ e) (aG _) ?_,rfl,q _ hf⟩;exact⟨z,us,0,r,ci _ rfl⟩
end
abbrev Sp:=List V->Hp->VK->XK->Prop
abbrev qZ:=List Env->Hp->Shared->XK->Value->Shared->Prop
structure rE(P:Program)(w:World)(K:PySem.W.Frag)(mg:Str->Option Value)(base:Heap)(A:Around)(outer:List Env)(s:Shared)(H:Hp):Prop where
 frames:A.frames=some outer
 mod:Mod K mg base
 bs:∀b o,base.get? b=some o->s.heap.get? b=some o/\H b=none
 tf:base.objs.size<=s.heap.objs.size
 ge:s.heap.FunFrames base outer
 xo:∀b∈fS outer,H b=none
 aW:gZ P w H s.heap
 bare:AllBare s.gens
def CE(outer:List Env)(P:Program)(w:World)(H:Hp)(s:Shared)(Q:VK)(u:Value)(s':Shared):Prop:=
 ∃v H',s'.os=s.os/\AllBare s'.gens/\Un (fS outer) [] H H' s.heap s'.heap/\gZ P w H' s'.heap/\bq v u/\Q v H'
def CR(CX:qZ)(outer:List Env)(P:Program)(w:World)(H:Hp)(s:Shared)(Q:VK)(E:XK)(r:Result)(s':Shared):Prop:=
 match r with
 |.ok (.ret u)=>CE outer P w H s Q u s'
 |.ok _=>False
 |.error e=>CX outer H s E e s'
structure a9(P:Program)(w:World)(K:PySem.W.Frag)(mg:Str->Option Value)(base:Heap)(CX:qZ)(k:Nat)(f:Addr)(fd:FuncData)(ps:List Str)(sp:Sp):Prop where
 len:∀vs H Q E,sp vs H Q E->vs.length=ps.length
 run:∀ (A:Around) (outer:List Env) (s:Shared) (H:Hp) (args:Args) (us:List Value) (vs:List V) (Q:VK) (E:XK),bQ k A->rE P w K mg base A outer s H->BindsTo s fd args (ps.zip us)->aK vs us->sp vs H Q E->
  codeAny (model P w) A (.call (.ref f) args) (CR CX outer P w H s Q E) s
theorem rE.make{P:Program}{w:World}{K:PySem.W.Frag}{mg:Str->Option Value}{base:Heap}{A:Around}{outer:List Env}{s:Shared}{H:Hp}(e:rE P w K mg base A outer s H)(C:Addr)(us:List Value)(kw:List (Str×Value)):
  rE P w K mg base (A.under (.builtin "type.__call__" ⟨.ref C::us,kw⟩)) outer s H:=⟨by first|exact e.frames|(simpa [Around.under,Code.envs,Code.isFrame,pushEnvs] using e.frames),e.mod,e.bs,e.tf,e.ge,e.xo,e.aW,e.bare⟩
section
variable {X:Cx} {ae:List (Addr×Obj)} {σ:St} {H:Hp} {s s':Shared}
theorem av.FL(I:av X ae σ H s):rE X.prog X.w X.K X.mg X.base X.A X.stack s H:=
 ⟨I.ok.frames,I.ok.mod,I.bs,bp I.ok.tf I.sz,I.stack,I.fm,I.aW,I.bare⟩
theorem av.after(I:av X ae σ H s)(h:CE X.stack X.prog X.w H s Q u s'):EP X ae σ Q u s':=by
 obtain⟨v,H',os,bare,un,aW,r,q⟩:=h;obtain⟨hh,g,d,t,Te⟩:=s';obtain rfl:Te=s.os:=os;exact⟨v,H',I.call (h':=hh) (g':=g) (d':=d) (t':=t) (ch:=[]) un aW bare (fun b z=>absurd z (by simp)),r,q⟩
end
def gG(sp:Sp)(n8:List V)(E:XK)(t:TA):TE:=fun σ H Q=>t σ H fun vs H1=>sp (vs++n8) H1 Q E
def zq(C:Addr)(m:Str)(sp:Sp)(n8:List V)(E:XK)(ta:TE)(t:TA):TE:=fun σ H Q=>ta σ H fun x H1=>∃a dx fs,x=.ref a/\H1 a=some (.ins C dx fs)/\fs.lookup m=none/\
 t σ H1 fun vs H2=>sp (x::(vs++n8)) H2 Q E
def Ev(C:Addr)(sp:Sp)(n8:List V)(E:XK)(t:TA):TE:=fun σ H Q=>t σ H fun vs H1=>∀x dx,H1 x=none->H1 dx=none->dx≠x->
 sp (.ref x::(vs++n8)) (upd (upd H1 dx (.own x)) x (.ins C dx [])) (fun v H2=>v=.bH/\Q (.ref x) H2) E
def fV(K:PySem.W.Frag)(fd:FuncData)(ps:List Str)(ds:List Value):Prop:=
 ∀ (s:Shared) (us:List Value),K.In s.heap->(us++ds).length=ps.length->BindsTo s fd ⟨us,[]⟩ (ps.zip (us++ds))
theorem fV.all{K:PySem.W.Frag}{fd:FuncData}{ps:List Str}(h:∀us:List Value,us.length=ps.length->bindArgs fd ⟨us,[]⟩=pure (ps.zip us)):fV K fd ps []:=fun s us _ hl=>by
 rw[jX] at hl |-;exact .of_eq (h us hl)
def gh(CX:qZ)(X:Cx)(E:XK):Prop:=∀ (ae:List (Addr×Obj)) (σ:St) (H:Hp) (s:Shared) (e:Value) (s':Shared),av X ae σ H s->CX X.stack H s E e s'->X.xe e s'
section
variable {X:Cx} {CX:qZ} {k:Nat} {f C:Addr} {fd:FuncData} {ps:List Str} {sp:Sp} {n8:List V} {ds:List Value} {E:XK} {x m:Str} {p pos p_:Pos} {e o:Expr} {es:List Expr} {ta:TE} {t:TA}
theorem zu(F:a9 X.prog X.w X.K X.mg X.base CX k f fd ps sp)(hr:bQ k X.A)(hb:fV X.K fd ps ds)(hd:aK n8 ds)(hx:gh CX X E)(I:av X ae σ H s)(r:aK vs us)(h:sp (vs++n8) H Q E):wpAny (model X.prog X.w) X.A (call (.ref f) us) (EP X ae σ Q) X.xe s:=by
 have r2:aK (vs++n8) (us++ds):=r.append hd;have hl:(us++ds).length=ps.length:=by rw[<-r2.length];exact F.len _ _ _ _ h
 refine gX (iW (F.run X.A X.stack s H ⟨us,[]⟩ (us++ds) (vs++n8) Q E hr I.FL (hb s us I.iN hl) r2 h) fun r s' hq=>?_);cases r with
 |error e=>exact hx ae σ H s e s' I hq
 |ok fl=>
  cases fl with
  |ret u=>exact I.after hq
  |next=>exact False.elim hq
  |brk=>exact False.elim hq
  |cont=>exact False.elim hq
theorem v7(F:a9 X.prog X.w X.K X.mg X.base CX k f fd ps sp)(hr:bQ k X.A)(hg:Gl X x)(hm:X.mg x=some (.ref f))(hk:PySem.W.keepIn X.K (.ref f)=true)(hb:fV X.K fd ps ds)(hd:aK n8 ds)(hx:gh CX X E)(ha:PA X (e::es) t)(n9:(x==("__debug__":Str))=false:=by decide)(he:starEach (e::es) X.env=(false,eval e X.env)::starEach es X.env:=by rfl)(tq:(backTo pos (starEach es X.env)).any (·.1)=false:=by rfl):
  PE X (.Call (.Name x p) (e::es) [] pos) (gG sp n8 E t):=by
 intro ae s σ H Q I h;refine kP (ix I hg hm ?_ n9);refine pL (h₀:=X.base) I.ok.mod.Ek hk (cg (ha pos ae s σ H _ I h) fun us s1 ⟨vs,H1,I1,r,q⟩=>⟨I1.iN,?_⟩) he tq;exact zu F hr hb hd hx I1 r q
theorem cS(he:PE X o ta)(c:xy X.K C)(hm:FH X.K C m f)(F:a9 X.prog X.w X.K X.mg X.base CX k f fd ps sp)(hr:bQ k X.A)(hb:fV X.K fd ps ds)(hd:aK n8 ds)(hx:gh CX X E)(ha:PA X (e::es) t)(hU:starEach (e::es) X.env=(false,eval e X.env)::starEach es X.env:=by rfl)(tq:(backTo pos (starEach es X.env)).any (·.1)=false:=by rfl)(ht:eval (.Call (.Attribute o m p_) (e::es) [] pos) X.env=(do
   let ov <- eval o X.env
   standAt p_.atName
   let (f,first) <- holding [ov] (getMethod ov m pl)
   callWith pos f first (backTo pos (starEach (e::es) X.env)) (backToKw pos (keywordEach [] X.env))):=by rfl):
  PE X (.Call (.Attribute o m p_) (e::es) [] pos) (zq C m sp n8 E ta t):=by
 intro ae s σ H Q I h;refine PySem.W.methodCall_KW (pl:=pl) (cg (he ae s σ H _ I h) fun u s1 ⟨x,H1,I1,rx,a,dx,fs,ex,ea,l,q⟩=>?_) ht;subst ex;obtain rfl:u=Value.ref a:=rx;refine uR I1 ea c hm l ?_;refine pL (first:=[.ref a]) (h₀:=X.base) I.ok.mod.Ek hm.kp (cg (ha pos ae s1 σ H1 _ I1 q) fun us s2 ⟨vs,H2,I2,r,q2⟩=>⟨I2.iN,?_⟩) hU tq;exact zu (us:=.ref a::us) (vs:=.ref a::vs) F hr hb hd hx I2 (.cons rfl r) q2
structure Mk(K:PySem.W.Frag)(C f:Addr):Prop where
 makes:PySem.W.makesIn K C=true
 init:PySem.W.findIn K (.ref C) "__init__"=some (some (.ref f))
 fn:PySem.W.isFn K (.ref f)=true
 kp:PySem.W.keepIn K (.ref C)=true
theorem zw(M:Mk X.K C f)(F:a9 X.prog X.w X.K X.mg X.base CX k f fd ps sp)(hr:bQ (k+1) X.A)(hb:fV X.K fd ps ds)(hd:aK n8 ds)(hx:gh CX X E)(I:av X ae σ H s)(r:aK vs us)(h:∀x dx,H x=none->H dx=none->dx≠x->sp (.ref x::(vs++n8)) (upd (upd H dx (.own x)) x (.ins C dx [])) (fun v H2=>v=.bH/\Q (.ref x) H2) E):
  wpAny (model X.prog X.w) X.A (call (.ref C) us) (EP X ae σ Q) X.xe s:=by
 have hq:=h (s.heap.objs.size+1) s.heap.objs.size (I.aW.fresh (p7 _)) (I.aW.fresh (aG _)) (bf (kQ _));have I2:=av.made (C:=C) I;have r2:aK (V.ref (s.heap.objs.size+1)::(vs++n8)) (Value.ref (s.heap.objs.size+1)::(us++ds)):=.cons rfl (r.append hd);have hl:(Value.ref (s.heap.objs.size+1)::us++ds).length=ps.length:=by
  have e:=r2.length;rw[F.len _ _ _ _ hq] at e;exact e.symm
 refine gX (zo (f:=f) I.iN M.makes M.init (eQ.mp M.fn) (iW (F.run _ X.stack _ _ ⟨Value.ref (s.heap.objs.size+1)::us,[]⟩ (Value.ref (s.heap.objs.size+1)::(us++ds)) _ _ E (hr.make C us [])
  (I2.FL.make C us []) (hb _ (Value.ref (s.heap.objs.size+1)::us) I2.iN hl) r2 hq) fun r s' Ch=>?_))
 cases r with
 |error e=>exact hx ae σ _ _ e s' I2 Ch
 |ok fl=>
  cases fl with
  |ret u=>
   obtain⟨v,H',I3,rv,ev,q3⟩:=I2.after Ch;subst ev;exact⟨rv,⟨V.ref (s.heap.objs.size+1),H',I3,rfl,q3⟩⟩
  |next=>exact False.elim Ch
  |brk=>exact False.elim Ch
  |cont=>exact False.elim Ch
theorem qa(M:Mk X.K C f)(F:a9 X.prog X.w X.K X.mg X.base CX k f fd ps sp)(hr:bQ (k+1) X.A)(hg:Gl X x)(hm:X.mg x=some (.ref C))(hb:fV X.K fd ps ds)(hd:aK n8 ds)(hx:gh CX X E)(ha:PA X (e::es) t)(n9:(x==("__debug__":Str))=false:=by decide)(he:starEach (e::es) X.env=(false,eval e X.env)::starEach es X.env:=by rfl)(tq:(backTo pos (starEach es X.env)).any (·.1)=false:=by rfl):
  PE X (.Call (.Name x p) (e::es) [] pos) (Ev C sp n8 E t):=by
 intro ae s σ H Q I h;refine kP (ix I hg hm ?_ n9);refine pL (h₀:=X.base) I.ok.mod.Ek M.kp (cg (ha pos ae s σ H _ I h) fun us s1 ⟨vs,H1,I1,r,q⟩=>⟨I1.iN,?_⟩) he tq;exact zw M F hr hb hd hx I1 r q
end
def PK(X:Cx)(zx:List Keyword)(t:TA):Prop:=
 ∀ (pos:Pos) (ae:List (Addr×Obj)) (s:Shared) (σ:St) (H:Hp) (Q:List V->Hp->Prop),av X ae σ H s->t σ H Q->wpAny (model X.prog X.w) X.A (evalAll ((backToKw pos (keywordEach zx X.env)).map (·.2))) (AP X ae σ Q) X.xe s
section
variable {X:Cx} {CX:qZ} {k:Nat} {f C:Addr} {fd:FuncData} {ps ks:List Str} {sp:Sp} {E:XK} {x m:Str} {p pos p_ Ol:Pos} {e o:Expr} {es:List Expr} {zx:List Keyword} {te ta:TE} {t tk:TA} {nm:Option Str}
theorem zy:PK X [] eA:=fun _ _ _ _ H Q I h=>wpAny_evalAll_nil ⟨[],H,I,.nil,h⟩
theorem v8(ha:PE X e te)(hr:PK X zx t):PK X (⟨nm,e,Ol⟩::zx) (aQ te t):=by
 intro pos ae s σ H Q I h;show wpAny _ _ (evalAll ((do let v <- eval e X.env;standAt pos;pure v)::(backToKw pos (keywordEach zx X.env)).map (·.2))) _ _ s;refine wpAny_evalAll_cons (aq (cg (ha ae s σ H _ I h) fun u s1 ⟨x,H1,I1,r1,q1⟩=>aq (ml (wpAny_pure ?_))));exact cg (hr pos ae s1 σ H1 _ I1 q1) fun us s2 ⟨xs,H2,I2,r2,q2⟩=>⟨x::xs,H2,I2,.cons r1 r2,q2⟩
variable {g:List Value->List Value->List Value} {gV:List V->List V->List V}
end
structure aE(N P:List Str)(sc:Scope):Prop where
 kind:sc.kind=.function
 co:sc.isCoroutine=false
 gen:sc.isGenerator=false
 nd:N.Nodup
 pre:N.take P.length=P
 par:∀x∈P,sc.names.lookup x=some .local\/sc.names.lookup x=some .cell
 FM:∀y∈sc.names,y.2≠.free
theorem oN{kindOf:Str->Option NameKind}{x:Str}:∀ {binds:List (Str×Value)} {m:Str->Option Value},(∀v,(x,v)∉binds)->bindL kindOf binds m x=m x
 |[],_,_=>rfl
 |(n,v)::r,m,h=>by
  unfold bindL;rw[oN fun w hw=>h w (bS _ hw)];split
  .have:x≠n:=by rintro rfl;exact h v bU
   simp[this]
  .rfl
theorem oO{kindOf:Str->Option NameKind}{x:Str}:∀ {binds:List (Str×Value)} {m:Str->Option Value},(∀v,(x,v)∉binds)->bindC kindOf binds m x=m x
 |[],_,_=>rfl
 |(n,v)::r,m,h=>by
  unfold bindC;rw[oO fun w hw=>h w (bS _ hw)];split
  .rfl
  .have:x≠n:=by rintro rfl;exact h v bU
   simp[this]
theorem oP{kindOf:Str->Option NameKind}{x:Str}{v:Value}:∀ {P:List Str} {vs:List Value} {i:Nat} {m:Str->Option Value},P.Nodup->P[i]?=some x->vs[i]?=some v->kindOf x=some .local->
  bindL kindOf (P.zip vs) m x=some v
 |[],_,_,_,_,h,_,_=>by simp at h
 |_::_,[],_,_,_,_,h,_=>by simp at h
 |p::P,w::vs,0,m,nd,h1,h2,hk=>by
  simp at h1 h2;subst h1;subst h2;show bindL kindOf ((p,w)::P.zip vs) m p=_;unfold bindL;rw[oN fun v hv=>(fQ.mp nd).1 (jW hv).1,ao hk];simp
 |p::P,w::vs,i+1,m,nd,h1,h2,hk=>by
  show bindL kindOf ((p,w)::P.zip vs) m x=_;unfold bindL;exact oP (i:=i) (fQ.mp nd).2 (by simpa using h1) (by simpa using h2) hk
theorem oQ{kindOf:Str->Option NameKind}{x:Str}{v:Value}:∀ {P:List Str} {vs:List Value} {i:Nat} {m:Str->Option Value},P.Nodup->P[i]?=some x->vs[i]?=some v->kindOf x≠some .local->
  bindC kindOf (P.zip vs) m x=some v
 |[],_,_,_,_,h,_,_=>by simp at h
 |_::_,[],_,_,_,_,h,_=>by simp at h
 |p::P,w::vs,0,m,nd,h1,h2,hk=>by
  simp at h1 h2;subst h1;subst h2;show bindC kindOf ((p,w)::P.zip vs) m p=_;unfold bindC;rw[oO fun v hv=>(fQ.mp nd).1 (jW hv).1,am hk];simp
 |p::P,w::vs,i+1,m,nd,h1,h2,hk=>by
  show bindC kindOf ((p,w)::P.zip vs) m x=_;unfold bindC;exact oQ (i:=i) (fQ.mp nd).2 (by simpa using h1) (by simpa using h2) hk
def start(N:List Str)(vs:List V):St:=vs.map some++List.replicate (N.length-vs.length) none
def gJ(CX:qZ)(P:Program)(w:World)(K:PySem.W.Frag)(mg:Str->Option Value)(base:Heap)(N:List Str)(qual:Str)(scope:Scope)(f:Addr)(cd:Value)(A:Around)(outer:List Env)(s:Shared)(H:Hp)(E:XK):Cx where
 prog:=P
 w:=w
 K:=K
 mg:=mg
 base:=base
 A:=A.deeper (envOfC qual scope s.heap.objs.size f cd)
 N:=N
 s₀:=s
 H₀:=H
 env:=envOfC qual scope s.heap.objs.size f cd
 outer:=outer
 stack:=envOfC qual scope s.heap.objs.size f cd::outer
 ex:=[]
 calm:=true
 fn:=fun _=>true
 pn:=[]
 xe:=fun e s'=>wpAny (model P w) (A.deeper (envOfC qual scope s.heap.objs.size f cd)) (leaving (envOfC qual scope s.heap.objs.size f cd) e) (fun _ n_=>CX outer H s E e n_) (fun e' n_=>CX outer H s E e' n_) s'
theorem rF{sc:Scope}{n:Nat}{x:Str}(h:sc.names.lookup x=some .cell):∃c,(cellsFrom n sc.names []).lookup x=some c:=by
 have q:=PySem.W.cellsFrom_some sc.names n [] (.inl h);exact tQ.mp q
theorem xz{CX:qZ}{P:Program}{w:World}{K:PySem.W.Frag}{mg:Str->Option Value}{base:Heap}{N ps:List Str}{qual:Str}{scope:Scope}{f:Addr}{cd:Value}{A:Around}{outer:List Env}{s s1:Shared}{H:Hp}{E:XK}{us:List Value}{vs:List V}(S:aE N ps scope)(hd:A.handled=none)(e0:rE P w K mg base A outer s H)(hl:vs.length=ps.length)(r:aK vs us)(x:InCallC s s.heap.objs.size (bindL (envOfC qual scope s.heap.objs.size f cd).kindOf (ps.zip us) fun _=>none) (cellsFrom (s.heap.objs.size+1) scope.names []) (bindC (envOfC qual scope s.heap.objs.size f cd).kindOf (ps.zip us) fun _=>none) s1):
  av (gJ CX P w K mg base N qual scope f cd A outer s H E) [] (start N vs) H s1:=by
 have tq:ps.length<=N.length:=by have:=congrArg List.length S.pre;rw[jT] at this;lia
 obtain⟨h1,tk,rfl,hk⟩:=x.done;have Ir:∀b:Addr,b∉(gJ CX P w K mg base N qual scope f cd A outer s H E).ex:=fun b z=>absurd (show b∈([]:List Addr) from z) (by simp);refine⟨⟨e0.mod,S.kind,rfl,rfl,aG _,fun y z c h1 h2=>?_,fun y hy=>?_,fun y c _ h=>?_,fun _=>hd,uq e0.frames,.inr ⟨rfl,rfl⟩,fun b z=>absurd z (Ir b),e0.bs,e0.tf,fun b _ _=>Ir b,fun b z=>absurd z (Ir b),e0.ge,e0.xo⟩,
  rfl,e0.bare,Un.kept hk,⟨_,x.toInCall.ns,fun i y v h1 h2 h3=>?_⟩,fun y c h=>⟨_,x.cell y c h⟩,e0.aW.fresh (aG _),fun y c h=>?_,fun p hp=>absurd (show p∈([]:List (Addr×Obj)) from hp) (by simp),e0.aW.kept hk,?_⟩
 .exact name_of_addr x.apart (fc h1) (fc h2)
 .have hy:scope.names.lookup y=some .cell\/scope.names.lookup y=some .free:=hy;rcases hy with hy|hy
  .exact rF hy
  .exact absurd rfl (S.FM _ (fc hy))
 .exact jp (x.above y c (fc h))
 .have hi:i<vs.length:=by
   unfold start at h2;by_cases hi:i<vs.length
   .exact hi
   .rw[pD (by simpa using hi)] at h2;rw[List.getElem?_replicate] at h2;split at h2 <;> cases h2
  have ha:vs[i]?=some v:=by
   unfold start at h2;rw[oz (by simpa using hi),bw] at h2;cases e:vs[i]? with
   |none=>rw[e] at h2;cases h2
   |some a=>rw[e] at h2;cases h2;rfl
  obtain⟨u,hu,rv⟩:=r.get ha;have hp:ps[i]?=some y:=by
   rw[<-S.pre,yV (by lia)];exact h1
  have Tf:ps.Nodup:=by rw[<-S.pre];exact S.nd.sublist (List.take_sublist _ _)
  refine⟨u,rv,?_⟩;rcases S.par y (cX hp) with k|k
  .exact .inl ⟨k,oP Tf hp hu k⟩
  .obtain⟨c,e⟩:=rF (n:=s.heap.objs.size+1) k;refine .inr ⟨.inl k,c,e,?_⟩;have q:=x.cell y c e;rw[oQ Tf hp hu (by show scope.names.lookup y≠_;rw[k];decide)] at q;exact q
 .exact e0.aW.fresh (jp (x.above y c (fc h)))
 .unfold start;show _=N.length;rw[fL,aT,ji];lia
theorem zz{CX:qZ}{P:Program}{w:World}{K:PySem.W.Frag}{mg:Str->Option Value}{base:Heap}{k:Nat}{f:Addr}{name qual:Str}{params:Arguments}{body:List Stmt}{scope:Scope}{dV kV jg pm dg ct oc:Value}{an od:Option Addr}{q0:Array (Option Value)}{N ps:List Str}{sp:Sp}(lk:K.lookup f=some ⟨oc,od,.func (PySem.W.fnOf name qual params body scope dV kV jg pm an dg ct),q0⟩)(nW:PySem.W.codeIn K dg qual=true)(S:aE N ps scope)(len:∀vs H Q E,sp vs H Q E->vs.length=ps.length)(mE:∀ (A:Around) (outer:List Env) (s:Shared) (H:Hp) (vs:List V) (Q:VK) (E:XK),bQ k (A.deeper (envOfC qual scope s.heap.objs.size f dg))->sp vs H Q E->
   ∃t,oE (gJ CX P w K mg base N qual scope f dg A outer s H E) body t/\t { nx:=fun _ H'=>Q .bH H',rt:=Q } (start N vs) H):
  a9 P w K mg base CX (k+1) f (PySem.W.fnOf name qual params body scope dV kV jg pm an dg ct) ps sp:=by
 refine⟨len,fun A outer s H args us vs Q E hr e0 hb r yB=>?_⟩;have hl:=len _ _ _ _ yB;have KX:K.In s.heap:=e0.mod.Ek.keeps fun b o e=>(e0.bs b o e).1;have Vf:s.heap.NoLimit:=e0.mod.nolimit.keeps fun b o e=>(e0.bs b o e).1;have Jv:∀y∈ps.zip us,scope.names.lookup y.1=some .local\/(scope.names.lookup y.1=some .cell/\((cellsFrom (s.heap.objs.size+1) scope.names []).lookup y.1).isSome=true):=fun ⟨n,v⟩ hy=>by
  rcases S.par n (jW hy).1 with q|q
  .exact .inl q
  .exact .inr ⟨q,PySem.W.cellsFrom_some _ _ _ (.inl q)⟩
 refine codeAny_call_function hr.depth (KX _ _ lk) rfl S.co S.gen rfl (PySem.W.codeRec_of KX nW) (hb _ _ _ _ ?_);refine wpAny_newFunctionEnv_cells S.kind Jv fun env he s1 x=>?_;subst he;refine⟨Vf.keeps x.toInCall.keep,codeAny_func ?_⟩;obtain⟨t,ht,hq⟩:=mE A outer s H vs Q E (hr.deeper _) yB;have I:av (gJ CX P w K mg base N qual scope f dg A outer s H E) [] (start N vs) H s1:=xz S hr.hd e0 hl r x;refine fj (ht [] s1 (start N vs) H _ I hq) (fun fl s' hs=>?_) fun e s' hs=>hs;have eT:∀ {σ':St} {H':Hp} {v:V} {u:Value},av (gJ CX P w K mg base N qual scope f dg A outer s H E) [] σ' H' s'->bq v u->Q v H'->CE outer P w H s Q u s':=
  fun {σ' H' v u} J rv q=>⟨v,H',J.os,J.bare,J.base,J.aW,rv,q⟩
 cases fl with
 |ret u=>
  obtain⟨v,σ',H',J,rv,q⟩:=hs;exact eT J rv q
 |next=>
  obtain⟨σ',H',J,q⟩:=hs;exact eT (v:=V.bH) (u:=Value.none) J rfl q
 |brk=>
  obtain⟨_,_,_,q⟩:=hs;exact False.elim q
 |cont=>
  obtain⟨_,_,_,q⟩:=hs;exact False.elim q
section
variable {X:Cx} {x:Str} {p pos:Pos} {e:Expr} {es:List Expr} {t:TA} {id T:String} {r:List V->Hp->VK->Prop}
def Iu(r:List V->Hp->VK->Prop)(t:TA):TE:=fun σ H Q=>t σ H fun vs H1=>r vs H1 Q
theorem au(hc:dE X (.builtin id) r)(hg:Gl X x)(hm:X.mg x=none)(hv:bootBuiltins x=some (.builtin id))(ha:PA X (e::es) t)(hn:x≠"__name__":=by decide)(n9:(x==("__debug__":Str))=false:=by decide)(he:starEach (e::es) X.env=(false,eval e X.env)::starEach es X.env:=by rfl)(tq:(backTo pos (starEach es X.env)).any (·.1)=false:=by rfl):PE X (.Call (.Name x p) (e::es) [] pos) (Iu r t):=by
 intro ae s σ H Q I h;refine kP (iZ I hg hm hv ?_ hn n9);exact PyProof.Rows.callWith_builtin1 (cg (ha pos ae s σ H _ I h) fun us s1 ⟨vs,H1,I1,r1,q1⟩=>hc ae s1 σ H1 vs us Q I1 r1 q1) he tq
theorem dw(hc:dE X (.type T) r)(hg:Gl X x)(hm:X.mg x=none)(hv:bootBuiltins x=some (.type T))(ha:PA X (e::es) t)(hn:x≠"__name__":=by decide)(n9:(x==("__debug__":Str))=false:=by decide)(he:starEach (e::es) X.env=(false,eval e X.env)::starEach es X.env:=by rfl)(tq:(backTo pos (starEach es X.env)).any (·.1)=false:=by rfl):PE X (.Call (.Name x p) (e::es) [] pos) (Iu r t):=by
 intro ae s σ H Q I h;refine kP (iZ I hg hm hv ?_ hn n9);exact vT (cg (ha pos ae s σ H _ I h) fun us s1 ⟨vs,H1,I1,r1,q1⟩=>hc ae s1 σ H1 vs us Q I1 r1 q1) he tq
end
end L2
namespace HT
open PySem PyProof.Rows
section
open PySem.SeqAt
open PySem.AutoSeq1 (wpAny_loadPart')
open PySem.MeetsSeq PySem.MeetsSeq2 PySem.MeetsSeq3
end
section
variable {prog:Program} {w:World} {A:Around} {E:Value->Shared->Prop} {s:Shared}
def dL(n d:Nat):Option Int->Nat
 |none=>d
 |some v=>if v<0 then (v+(n:Int)).toNat else min v.toNat n
theorem FN(n d:Nat)(hd:d<=n)(o:Option Int):dL n d o<=n:=by
 cases o with
 |none=>exact hd
 |some v=>
  show (if v<0 then (v+(n:Int)).toNat else min v.toNat n)<=n;by_cases hv:v<0
  .rw[ao hv];lia
  .rw[am hv];exact Nat.min_le_right _ _
theorem v9(v:Int)(n d:Nat):(if v<0 then max (v+(n:Int)) 0 else min v (n:Int))=((dL n d (some v):Nat):Int):=by
 show (if v<0 then max (v+(n:Int)) 0 else min v (n:Int))=(((if v<0 then (v+(n:Int)).toNat else min v.toNat n):Nat):Int);by_cases hv:v<0
 .simp only[ao hv];lia
 .simp only[am hv];lia
theorem uW(lo hi:Option Int)(n:Nat):Builtin.Slice.sliceAdjust lo hi 1 (n:Int)=(((dL n 0 lo:Nat):Int),((dL n n hi:Nat):Int)):=by
 have h1:¬ ((1:Int)<0):=by lia
 unfold Builtin.Slice.sliceAdjust;simp only[h1,eh];refine Prod.ext ?_ ?_
 .cases lo with
  |none=>rfl
  |some v=>exact v9 v n 0
 .cases hi with
  |none=>rfl
  |some v=>exact v9 v n n
theorem uX(i j:Nat):Builtin.Slice.slicePlaces (i:Int) (j:Int) 1=j-i:=by
 unfold Builtin.Slice.slicePlaces;have h1:(1:Int) > 0:=by lia
 simp only[h1,if_true,Int.ediv_one];split <;> lia
theorem mF(p:IsPart v o)(h:Q o s):wpAny (model prog w) A (Builtin.Slice.slicePartIndex v) Q E s:=by
 cases p with
 |none=>exact slicePart_none h
 |int i t=>exact slicePart_int h
theorem fW{sl:Addr}{vl vu:Value}{lo hi:Option Int}{n:Nat}{Q:Int×Int×Nat->Shared->Prop}(hs:s.heap.IsSliceOf sl vl vu .none)(pl:IsPart vl lo)(pu:IsPart vu hi)(h:Q (((dL n 0 lo:Nat):Int),1,dL n n hi-dL n 0 lo) s):wpAny (model prog w) A (Builtin.Slice.sliceApplied (.ref sl) (pure (n:Int))) Q E s:=by
 obtain⟨os,BM,M7,Jw⟩:=id hs;unfold Builtin.Slice.sliceApplied Builtin.Slice.sliceFields;refine aq (aq (gW BM Jw (x:=vl) rfl (aq (gW BM Jw (x:=vu) rfl (aq (gW BM Jw (x:=.none) rfl (wpAny_pure ?_)))))));refine aq (slicePart_none ?_);show wpAny _ _ (if ((1:Int)==0)=true then _ else _) _ _ s;rw[am (by decide)];refine aq (mF pl (aq (mF pu (aq (wpAny_pure ?_)))));show wpAny _ _ (match Builtin.Slice.sliceAdjust lo hi 1 (n:Int) with|(lo,hi)=>pure (lo,(1:Int),Builtin.Slice.slicePlaces lo hi 1)) _ _ s;rw[uW lo hi n];show wpAny _ _ (pure (((dL n 0 lo:Nat):Int),(1:Int),Builtin.Slice.slicePlaces ((dL n 0 lo:Nat):Int) ((dL n n hi:Nat):Int) 1)) _ _ s;rw[uX];exact wpAny_pure h
theorem zA(xs:Array Value)(i k:Nat):((List.range k).filterMap fun (m:Nat)=>xs[((i:Int)+(m:Int)*1).toNat]?).toArray=((xs.toList.drop i).take k).toArray:=by
 have e:(fun (m:Nat)=>xs[((i:Int)+(m:Int)*1).toNat]?)=fun m=>xs[i+m]?:=by
  funext m;have:((i:Int)+(m:Int)*1).toNat=i+m:=by lia
  rw[this]
 rw[e];have:=pick_run xs i k;rw[List.filterMap_map] at this;have e2:((fun x=>xs[x]?) ∘ fun x=>i+x)=fun m=>xs[i+m]?:=rfl;rw[e2] at this;rw[this]
theorem jw{t sl:Addr}{aH:Array Value}{vl vu:Value}{lo hi:Option Int}{Q:Value->Shared->Prop}(ht:IsTup s.heap t aH)(hs:s.heap.IsSliceOf sl vl vu .none)(pl:IsPart vl lo)(pu:IsPart vu hi)(hw:¬ (dL aH.size 0 lo=0/\dL aH.size aH.size hi=aH.size))(h:Q (.ref s.heap.objs.size) { s with heap:=s.heap.push { cls:=.type "tuple",data:=.seq ((aH.toList.drop (dL aH.size 0 lo)).take (dL aH.size aH.size hi-dL aH.size 0 lo)).toArray } })(fq:aH.size<=sizeLine):wpAny (model prog w) A (getItem (.ref t) (.ref sl)) Q E s:=by
 have v_:sizeOk (.seq ((aH.toList.drop (dL aH.size 0 lo)).take (dL aH.size aH.size hi-dL aH.size 0 lo)).toArray):=by
  show ((aH.toList.drop (dL aH.size 0 lo)).take (dL aH.size aH.size hi-dL aH.size 0 lo)).toArray.size<=sizeLine;rw[bT,jT,l6,iI];lia
 have hj:dL aH.size aH.size hi<=aH.size:=FN _ _ (aG _) hi;obtain⟨os,BM,M7,Jw⟩:=id hs;have Om:s.TypeIs (.ref sl) "slice":=⟨os,BM,M7⟩
 unfold getItem;try with_reducible refine gB ?_
 first|refine aq (wpAny_pure ?_)|skip
 refine aq (wpAny_sequenceKey ht.typeIs (by decide) ?_);refine aq (rm (name:=Str.ofString "__getitem__") ht.typeIs oy
  (jY oy ht.typeIs entry_tuple_getitem ?_ (args_tuple_getitem _ _)))
 show wpAny _ _ (Builtin.Tuple.tupleItemsOf (.ref t) >>= _) _ _ s;refine aq (tupleItemsOf_ ht ?_);refine aq (wpAny_typeOf Om ?_);rw[ao (by decide)];refine aq (fW hs pl pu ?_);have xA:¬ ((((dL aH.size 0 lo:Nat):Int)==0&&(1:Int)==1&&(dL aH.size aH.size hi-dL aH.size 0 lo)==aH.size)=true):=by
  intro q;rw[fg,fg] at q;have q1:((dL aH.size 0 lo:Nat):Int)=0:=eq_of_beq q.1.1;have q2:dL aH.size aH.size hi-dL aH.size 0 lo=aH.size:=eq_of_beq q.2;exact hw ⟨by lia,by lia⟩
 show wpAny _ _ (if (((dL aH.size 0 lo:Nat):Int)==0&&(1:Int)==1&&(dL aH.size aH.size hi-dL aH.size 0 lo)==aH.size)=true then _ else _) _ _ s;rw[am xA,zA];first
  |exact aq (m:=Builtin.Tuple.tupleExact _) (lW (wpAny_pure ⟨_,rfl,wpAny_pure h⟩) v_)
  |exact aq (m:=Builtin.Tuple.tupleExact _) (lW (aq (wpAny_pure (wpAny_pure ⟨_,rfl,wpAny_pure h⟩))) v_)
  |exact aq (aq (m:=Builtin.Tuple.tupleExact _) (lW (wpAny_pure (wpAny_pure ⟨_,rfl,wpAny_pure h⟩)) v_))
  |exact aq (aq (m:=Builtin.Tuple.tupleExact _) (lW (wpAny_pure ⟨_,rfl,wpAny_pure h⟩) v_))
end
end HT
namespace L2
open PySem PySem.Spec PyProof.Rows
abbrev TO:=St->Hp->(Option Int->Hp->Prop)->Prop
def PO(X:Cx)(e:Option Expr)(t:TO):Prop:=
 ∀ (ae:List (Addr×Obj)) (s:Shared) (σ:St) (H:Hp) (Q:Option Int->Hp->Prop),av X ae σ H s->t σ H Q->
  wpAny (model X.prog X.w) X.A (evalPart e X.env) (fun u s'=>∃o H',av X ae σ H' s'/\IsPart u o/\Q o H') X.xe s
def Cj:TO:=fun _ H Q=>Q none H
def Jx(t:TE):TO:=fun σ H Q=>t σ H fun x H1=>∃i,x=.int i/\Q (some i) H1
section
variable {X:Cx} {e:Expr} {te:TE} {lo hi:Option Expr} {tl th:TO} {pos p2:Pos}
theorem wa:PO X none Cj:=by
 intro ae s σ H Q I h;rw[evalPart_none];exact wpAny_pure ⟨none,H,I,.none,h⟩
theorem wb(h:PE X e te):PO X (some e) (Jx te):=by
 intro ae s σ H Q I hw;rw[evalPart_some];refine cg (h ae s σ H _ I hw) fun u s1 ⟨x,H1,I1,r1,q1⟩=>?_;obtain⟨i,rfl,q⟩:=q1;obtain⟨t,rfl⟩:=r1;exact⟨some i,H1,I1,.int i t,q⟩
def On(X:Cx)(r:V->Option Int->Option Int->Hp->VK->Prop):Prop:=
 ∀ (ae:List (Addr×Obj)) (s:Shared) (σ:St) (H:Hp) (x:V) (v vl vu:Value) (lo hi:Option Int) (sl:Addr) (Q:VK),av X ae σ H s->bq x v->s.heap.IsSliceOf sl vl vu .none->IsPart vl lo->IsPart vu hi->r x lo hi H Q->
  ∃T id,typeLookup (.type T) "__getitem__"=pure (some (.builtin id))/\s.TypeIs v T/\wpAny (model X.prog X.w) X.A (getItem v (.ref sl)) (EP X ae σ Q) X.xe s
def Vg(r:V->Option Int->Option Int->Hp->VK->Prop)(te:TE)(tl th:TO):TE:=fun σ H Q=>te σ H fun x H1=>tl σ H1 fun l H2=>th σ H2 fun u H3=>r x l u H3 Q
theorem rG(hr:On X r)(he:PE X e te)(hl:PO X lo tl)(hu:PO X hi th):PE X (.Subscript e (.Slice lo hi none p2) pos) (Vg r te tl th):=by
 intro ae s σ H Q I h;refine Subscript_ (cg (he ae s σ H _ I h) fun v s1 ⟨x,H1,I1,r1,q1⟩=>?_);refine wpAny_Slice (cg (hl ae s1 σ H1 _ I1 q1) fun vl s2 ⟨l,H2,I2,pl,q2⟩=>cg (hu ae s2 σ H2 _ I2 q2) fun vu s3 ⟨u,H3,I3,pu,q3⟩=>?_);rw[evalPart_none];refine wpAny_pure ?_;have I4:av X ae σ H3 { s3 with heap:=s3.heap.push { cls:=.type "slice",data:=.fields #[vl,vu,.none] } }:=I3.kept (t':=s3.toks) fun b ob q=>bJ _ q;obtain⟨T,id,hT,ht,hg⟩:=hr ae { s3 with heap:=s3.heap.push { cls:=.type "slice",data:=.fields #[vl,vu,.none] } } σ H3 x v vl vu l u s3.heap.objs.size Q I4 r1 (Heap.IsSliceOf.new ..) pl pu q3;show wpAny (model X.prog X.w) X.A (subscriptTail e (.Slice lo hi none p2) v (.ref s3.heap.objs.size)) (EP X ae σ Q) X.xe { s3 with heap:=s3.heap.push { cls:=.type "slice",data:=.fields #[vl,vu,.none] } };exact tail_any (ops:=[.ref s3.heap.objs.size,v]) ht hT hg (by with_unfolding_all rfl)
def mH(xs:List V)(lo hi:Option Int):List V:=(xs.drop (HT.dL xs.length 0 lo)).take (HT.dL xs.length xs.length hi-HT.dL xs.length 0 lo)
theorem rH(xs:List V)(lo hi:Option Int):(mH xs lo hi).length<=xs.length:=by
 unfold mH;rw[jT,l6];lia
def Oo(K:PySem.W.Frag):V->Option Int->Option Int->Hp->VK->Prop:=fun x lo hi H Q=>∃a xs,x=.ref a/\cQ K H a xs/\
 ¬ (HT.dL xs.length 0 lo=0/\HT.dL xs.length xs.length hi=xs.length)/\∀p,H p=none->Q (.ref p) (upd H p (.tup (mH xs lo hi)))
theorem FO:On X (Oo X.K):=by
 intro ae s σ H x v vl vu lo hi sl Q I rx hs pl pu h;obtain⟨a,xs,rfl,hx,hw,q⟩:=h;cases rx;obtain⟨its,r,ht,hz⟩:=I.tuple hx;have dC:its.toArray.size=xs.length:=by rw[bT];exact r.length.symm
 refine⟨"tuple",_,oy.lookup,ht.typeIs,?_⟩;refine HT.jw ht hs pl pu (by rw[dC];exact hw) ?_ (by rw[dC];exact hz);rw[dC];refine⟨.ref s.heap.objs.size,_,I.laid (t':=s.toks) (o:=.tup (mH xs lo hi)) (fun b ob q=>bJ _ q) (aG _) ?_,rfl,q _ (I.aW.fresh (aG _))⟩;exact⟨bp (rH xs lo hi) hz,_,(r.drop (HT.dL xs.length 0 lo)).take (HT.dL xs.length xs.length hi-HT.dL xs.length 0 lo),gY.new _ _⟩
theorem aK.lF(r:aK xs us):us=[]↔xs=[]:=by
 cases r with
 |nil=>simp
 |cons _ _=>simp
end
def Ck(n:Nat)(i:Int):Option Nat:=if 0<=i then (if i<n then some i.toNat else none) else if -(n:Int)<=i then some (i+n).toNat else none
def BN{α:Type}(xs:List α)(i:Int):Option α:=(Ck xs.length i).bind fun j=>xs[j]?
theorem wc(h:Ck n i=some j):seqIndex? i n=some j/\j<n/\-(n:Int)<=i/\i<n:=by
 unfold Ck at h;by_cases h0:0<=i
 .rw[ao h0] at h;by_cases h1:i<n
  .rw[ao h1] at h;have e:i.toNat=j:=bh h;exact⟨by rw[seqIndex_of h0 h1,e],by lia,by lia,h1⟩
  .rw[am h1] at h;cases h
 .rw[am h0] at h;by_cases h1:-(n:Int)<=i
  .rw[ao h1] at h;have e:(i+n).toNat=j:=bh h;exact⟨by rw[seqIndex_neg (by lia) h1,e],by lia,h1,by lia⟩
  .rw[am h1] at h;cases h
theorem wd(h:BN xs i=some v):∃j,seqIndex? i xs.length=some j/\xs[j]?=some v/\j<xs.length/\-(xs.length:Int)<=i/\i<xs.length:=by
 unfold BN at h;cases e:Ck xs.length i with
 |none=>rw[e] at h;cases h
 |some j=>
  rw[e] at h;obtain⟨h1,h2,h3,h4⟩:=wc e;exact⟨j,h1,h,h2,h3,h4⟩
theorem aO{α:Type}{xs:List α}{j:Nat}{v:α}(h:xs[j]?=some v):BN xs (j:Int)=some v:=by
 have hj:j<xs.length:=(dD.mp h).1;have e:Ck xs.length (j:Int)=some j:=by
  unfold Ck;rw[ao (by lia),ao (by lia)];simp
 unfold BN;rw[e];exact h
def Cm(b:Expr):Prop:=∀o i,subscripted b false o i=operate [o,i] (getItem o i)
def Op(X:Cx)(r:R2):Prop:=
 ∀ (value slice:Expr) (ae:List (Addr×Obj)) (s:Shared) (σ:St) (H:Hp) (x y:V) (v u:Value) (Q:VK),av X ae σ H s->bq x v->bq y u->r x y H Q->
  subscripted slice false v u=operate [v,u] (getItem v u)->wpAny (model X.prog X.w) X.A (subscriptTail value slice v u) (EP X ae σ Q) X.xe s
def Vh(X:Cx)(id:String)(r:V->List V->Hp->VK->Prop):Prop:=
 ∀ (ae:List (Addr×Obj)) (s:Shared) (σ:St) (H:Hp) (x:V) (xs:List V) (v:Value) (us:List Value) (Q:VK),av X ae σ H s->bq x v->aK xs us->r x xs H Q->
  wpAny (model X.prog X.w) X.A (call (.builtin id) (v::us)) (EP X ae σ Q) X.xe s
section
variable {X:Cx} {a b:Expr} {ta tb:TE} {pos:Pos}
theorem bY(hr:Op X r)(ha:PE X a ta)(hb:PE X b tb)(hs:Cm b):PE X (.Subscript a b pos) (kU r ta tb):=by
 intro ae s σ H Q I h;exact Subscript_ (Fz ha hb I h fun v u s2 x y H2 I2 rx ry q=>hr a b ae s2 σ H2 x y v u Q I2 rx ry q (hs _ _))
def Cn(K:PySem.W.Frag):R2:=fun x y H Q=>∃p xs i v,x=.ref p/\y=.int i/\bD K H p xs/\BN xs i=some v/\Q v H
def Co(K:PySem.W.Frag):R2:=fun x y H Q=>∃p xs i v,x=.ref p/\y=.int i/\cQ K H p xs/\BN xs i=some v/\Q v H
theorem bv:Op X (Cn X.K):=by
 intro value slice ae s σ H x y v u Q I rx ry h hs;obtain⟨p,xs,i,z,rfl,rfl,hq,he,q⟩:=h;cases rx;obtain⟨t,rfl⟩:=ry;obtain⟨its,r,pl,hz⟩:=I.list hq;obtain⟨j,h1,h2,h3,h4,h5⟩:=wd he;obtain⟨w,ew,uY⟩:=r.get h2;have hl:=r.length;have hn:=p9;have eT:EP X ae σ Q w s:=⟨z,H,I,uY,q⟩
 by_cases h0:0<=i
 .have hj:i.toNat=j:=by
   rw[seqIndex_of h0 h5] at h1;exact bh h1
  exact item_listR pl.isList h0 (by lia) (by rw[hj];simpa using ew) eT hs
 .have hj:(i+(its.toArray.size:Int)).toNat=j:=by
   rw[seqIndex_neg (by lia) h4] at h1;rw[bT,<-hl];exact bh h1
  exact subscriptTail_builtinR (x:=w) pl.isList.typeIs slot_list_getitem.lookup
   (wpAny_getItem_list_neg (Q:=fun r s'=>r=w/\EP X ae σ Q r s') pl.isList (by lia) (by rw[bT] <;> lia) (by lia) (by rw[hj];simpa using ew) ⟨rfl,eT⟩) hs
theorem h_:Op X (Co X.K):=by
 intro value slice ae s σ H x y v u Q I rx ry h hs;obtain⟨p,xs,i,z,rfl,rfl,hq,he,q⟩:=h;cases rx;obtain⟨t,rfl⟩:=ry;obtain⟨its,r,pl,hz⟩:=I.tuple hq;obtain⟨j,h1,h2,h3,h4,h5⟩:=wd he;obtain⟨w,ew,uY⟩:=r.get h2;have hl:=r.length;have hn:=p9;have eT:EP X ae σ Q w s:=⟨z,H,I,uY,q⟩
 exact subscriptTail_builtinR (x:=w) pl.typeIs slot_tuple_getitem.lookup
  (getItem_tuple (j:=j) (Q:=fun r s'=>r=w/\EP X ae σ Q r s') pl (by lia) (by lia) (by rw[bT,<-hl];exact h1) (by simpa using ew) ⟨rfl,eT⟩) hs
theorem uZ(its:List Value)(n j:Nat)(u:Value):Obj.mapSeq (·.setIfInBounds j u) { cls:=.type "list",data:=.seq its.toArray n }={ cls:=.type "list",data:=.seq (its.set j u).toArray n }:=by
 simp[Obj.mapSeq]
theorem av.lst(I:av X ae σ H s)(h:H p=some (.lst xs)):
  ∃ (its:List Value) (n:Nat),aK xs its/\s.heap.get? p=some { cls:=.type "list",data:=.seq its.toArray n }/\xs.length<=sizeLine:=by
 obtain⟨z,its,n,r,e⟩:=I.aW p _ h;exact⟨its,n,r,e,z⟩
theorem av.FP{ae:List (Addr×Obj)}{σ:St}{H:Hp}{s:Shared}{p:Addr}{xs ys:List V}{its its':List Value}{n n':Nat}{f:Obj->Obj}(I:av X ae σ H s)(h:H p=some (.lst xs))(ho:s.heap.get? p=some { cls:=.type "list",data:=.seq its.toArray n })(hf:f { cls:=.type "list",data:=.seq its.toArray n }={ cls:=.type "list",data:=.seq its'.toArray n' })(r:aK ys its')(hz:ys.length<=sizeLine)(t:Nat):
  av X ae σ (upd H p (.lst ys)) { s with heap:=s.heap.update p f,toks:=t }:=by
 have e:(s.heap.update p f).get? p=some { cls:=.type "list",data:=.seq its'.toArray n' }:=by
  rw[uf f ho (by rw[hf] <;> rfl),hf]
 refine I.write (x:=p) (e:=p) (by rw[h];trivial) (.inl rfl) (fun b u hb q=>(ue _ _ (ei hb)).trans q) ⟨_,e⟩ ?_;exact⟨hz,its',n',r,e⟩
def Jy:V->V->V->Hp->(Hp->Prop)->Prop:=fun o i v H Q=>∃p xs k j,o=.ref p/\i=.int k/\H p=some (.lst xs)/\Ck xs.length k=some j/\Q (upd H p (.lst (xs.set j v)))
theorem fX:Jl X Jy:=by
 intro ae s σ H o i v ov iv u Q I ro ri rv h;obtain⟨p,xs,k,j,rfl,rfl,hp,hj,q⟩:=h;cases ro;obtain⟨t,rfl⟩:=ri;obtain⟨its,n,r,ho,hz⟩:=I.lst hp;obtain⟨h1,h2,h3,h4⟩:=wc hj;have hl:=r.length;have hn:=p9;have I':av X ae σ (upd H p (.lst (xs.set j v))) { s with heap:=s.heap.update p (Obj.mapSeq (·.setIfInBounds j u)) }:=
  I.FP hp ho (uZ its n j u) (r.set rv j) (by rw[l_];exact hz) s.toks
 by_cases h0:0<=k
 .have hk:k.toNat=j:=by
   rw[seqIndex_of h0 h4] at h1;exact bh h1
  exact PySem.W.ki_setAt ho h0 (by lia) (by rw[bT,<-hl];exact h4) (by rw[hk];exact⟨_,I',q⟩)
 .have hk:(k+(its.toArray.size:Int)).toNat=j:=by
   rw[seqIndex_neg (by lia) h3] at h1;rw[bT,<-hl];exact bh h1
  exact PySem.W.ki_setBack ho (by lia) (by rw[bT,<-hl];exact h3) (by lia) (by rw[hk];exact⟨_,I',q⟩)
def fY:V->Bool
 |.bH=>true
 |.bl _=>true
 |.int _=>true
 |.str _=>true
 |_=>false
def we:V->V->Bool
 |.bH,.bH=>true
 |.bl a,.bl b=>a==b
 |.bl a,.int b=>(if a then 1 else 0)==b
 |.int a,.bl b=>a==(if b then 1 else 0)
 |.int a,.int b=>a==b
 |.str a,.str b=>a==b
 |_,_=>false
theorem zB(ry:bq y u)(rx:bq x v)(fy:fY y=true)(fx:fY x=true):SeqAt.EqAt A s u v (we y x):=by
 cases y with
 |bH=>
  cases ry;cases x with
  |bH=>cases rx;exact SeqAt.EqAt.same _
  |bl b=>cases rx;exact SeqAt.EqAt.none_bool b
  |int b=>obtain⟨t,rfl⟩:=rx;exact SeqAt.EqAt.none_int b t
  |str b=>obtain⟨t,rfl⟩:=rx;exact SeqAt.EqAt.none_str b t
  |_=>exact absurd (show false=true from fx) bV
 |bl a=>
  cases ry;cases x with
  |bH=>cases rx;exact SeqAt.EqAt.bool_none a
  |bl b=>cases rx;exact SeqAt.EqAt.bool_bool a b
  |int b=>obtain⟨t,rfl⟩:=rx;exact SeqAt.EqAt.bool_int a b t
  |str b=>obtain⟨t,rfl⟩:=rx;exact SeqAt.EqAt.bool_str a b t
  |_=>exact absurd (show false=true from fx) bV
 |int a=>
  obtain⟨t',rfl⟩:=ry;cases x with
  |bH=>cases rx;exact SeqAt.EqAt.int_none a t'
  |bl b=>cases rx;exact SeqAt.EqAt.int_bool a t' b
  |int b=>obtain⟨t,rfl⟩:=rx;exact SeqAt.EqAt.int_int a t' b t
  |str b=>obtain⟨t,rfl⟩:=rx;exact SeqAt.EqAt.int_str a t' b t
  |_=>exact absurd (show false=true from fx) bV
 |str a=>
  obtain⟨t',rfl⟩:=ry;cases x with
  |bH=>cases rx;exact SeqAt.EqAt.str_none a t'
  |bl b=>cases rx;exact SeqAt.EqAt.str_bool a t' b
  |int b=>obtain⟨t,rfl⟩:=rx;exact SeqAt.EqAt.str_int a t' b t
  |str b=>obtain⟨t,rfl⟩:=rx;exact SeqAt.EqAt.str_str a t' b t
  |_=>exact absurd (show false=true from fx) bV
 |_=>exact absurd (show false=true from fy) bV
def u0(x:V)(u:Value):Bool:=match u with
 |.none=>we .bH x
 |.bool b=>we (.bl b) x
 |.int i _=>we (.int i) x
 |.str z _=>we (.str z) x
 |_=>false
theorem zC(r:bq y u)(f:fY y=true):u0 x u=we y x:=by
 cases y with
 |bH=>cases r;rfl
 |bl b=>cases r;rfl
 |int i=>obtain⟨t,rfl⟩:=r;rfl
 |str z=>obtain⟨t,rfl⟩:=r;rfl
 |_=>exact absurd (show false=true from f) bV
theorem jx:∀ {xs:List V} {us:List Value},aK xs us->xs.all fY=true->us.any (u0 x)=xs.any fun y=>we y x
 |_,_,.nil,_=>rfl
 |y::xs,u::us,.cons r t,f=>by
  rw[mh,fg] at f;rw[jZ,jZ,zC r f.1,jx t f.2]
theorem ic(rx:bq x v)(fx:fY x=true):∀ {xs:List V} {us:List Value},aK xs us->xs.all fY=true->∀u∈us,SeqAt.EqAt A s u v (u0 x u)
 |_,_,.nil,_=>fun u hu=>by cases hu
 |y::xs,u::us,.cons r t,f=>fun u' hu=>by
  rw[mh,fg] at f;rcases aR.mp hu with rfl|hu
  .rw[zC r f.1];exact zB r rx f.1 fx
  .exact ic rx fx t f.2 u' hu
def BO(x:V)(xs:List V):Bool:=xs.any fun y=>we y x
def Oq(K:PySem.W.Frag)(Os:Bool):R2:=fun x y H Q=>∃p xs,y=.ref p/\(bD K H p xs\/cQ K H p xs)/\fY x=true/\xs.all fY=true/\Q (.bl (if Os then !BO x xs else BO x xs)) H
theorem xB:j9 X (compareOp .In) (Oq X.K false):=by
 intro ae s σ H x y v u Q I rx ry h;obtain⟨p,xs,rfl,hq,fx,fs,q⟩:=h;cases ry;rcases hq with hq|hq
 .obtain⟨its,r,pl,hz⟩:=I.list hq;refine SeqAt.in_listAt (u0 x) pl.isList (fun w hw=>ic rx fx r fs w (by simpa using hw)) ⟨.bl _,H,I,rfl,?_⟩;rw[show its.toArray.any (u0 x)=its.any (u0 x) by simp,jx r fs];exact q
 .obtain⟨its,r,pl,hz⟩:=I.tuple hq;refine SeqAt.in_tupleAt (u0 x) pl (fun w hw=>ic rx fx r fs w (by simpa using hw)) ⟨.bl _,H,I,rfl,?_⟩;rw[show its.toArray.any (u0 x)=its.any (u0 x) by simp,jx r fs];exact q
theorem qb:j9 X (compareOp .NotIn) (Oq X.K true):=by
 intro ae s σ H x y v u Q I rx ry h;obtain⟨p,xs,rfl,hq,fx,fs,q⟩:=h;cases ry;rcases hq with hq|hq
 .obtain⟨its,r,pl,hz⟩:=I.list hq;refine SeqAt.notIn_listAt (u0 x) pl.isList (fun w hw=>ic rx fx r fs w (by simpa using hw)) ⟨.bl _,H,I,rfl,?_⟩;rw[show its.toArray.any (u0 x)=its.any (u0 x) by simp,jx r fs];exact q
 .obtain⟨its,r,pl,hz⟩:=I.tuple hq;refine SeqAt.notIn_tupleAt (u0 x) pl (fun w hw=>ic rx fx r fs w (by simpa using hw)) ⟨.bl _,H,I,rfl,?_⟩;rw[show its.toArray.any (u0 x)=its.any (u0 x) by simp,jx r fs];exact q
theorem aP:dE X (.builtin "len") (fun xs H Q=>∃p ys,xs=[.ref p]/\(bD X.K H p ys\/cQ X.K H p ys)/\Q (.int ys.length) H):=by
 intro ae s σ H xs us Q I r h;obtain⟨p,ys,rfl,hq,q⟩:=h;obtain⟨u,rfl,rx⟩:=v6 r;cases rx;have hn:=p9;rcases hq with hq|hq
 .obtain⟨its,r',pl,hz⟩:=I.list hq;have dC:=r'.length;exact Calls.call_len_list pl.isList (by simp only[bT] <;> lia) ⟨.int ys.length,H,I.tok _,⟨s.toks+1,by rw[bT,dC]⟩,q⟩
 .obtain⟨its,r',pl,hz⟩:=I.tuple hq;have dC:=r'.length;exact len_tuple pl (by simp only[bT] <;> lia) ⟨.int ys.length,H,I.tok _,⟨s.toks+1,by rw[bT,dC]⟩,q⟩
theorem jy:dE X (.type "list") (fun xs H Q=>∃p ys,xs=[.ref p]/\(bD X.K H p ys\/cQ X.K H p ys)/\∀l,H l=none->Q (.ref l) (upd H l (.lst ys))):=by
 intro ae s σ H xs us Q I r h;obtain⟨p,ys,rfl,hq,q⟩:=h;obtain⟨u,rfl,rx⟩:=v6 r;cases rx;have eT:∀ (its:List Value),aK ys its->ys.length<=sizeLine->∀ (h':Heap) (c':Nat),(∀b o',s.heap.get? b=some o'->h'.get? b=some o')->
   h'.get? s.heap.objs.size=some { cls:=.type "list",dict:=none,data:=.seq its.toArray c',slots:=#[] }->EP X ae σ Q (.ref s.heap.objs.size) { s with heap:=h' }:=fun its r' hz h' c' kp e=>
  ⟨.ref s.heap.objs.size,_,I.laid (t':=s.toks) kp (aG _) (show bX X.prog X.w _ h' _ (.lst ys) from ⟨hz,its,c',r',e⟩),rfl,q _ (I.aW.fresh (aG _))⟩
 rcases hq with hq|hq
 .obtain⟨its,r',pl,hz⟩:=I.list hq;have dC:=r'.length;obtain⟨o,ho,hc,n,hd⟩:=pl.isList;exact call_list_seq p (.inl rfl) ho hc hd (fun h' c' kp e=>eT its r' hz h' c' kp e) (by simp only[bT] <;> lia)
 .obtain⟨its,r',pl,hz⟩:=I.tuple hq;have dC:=r'.length;obtain⟨o,ho,hc,n,hd⟩:=pl;exact call_list_seq p (.inr rfl) ho hc hd (fun h' c' kp e=>eT its r' hz h' c' kp e) (by simp only[bT] <;> lia)
theorem dY:dE X (.type "tuple") (fun xs H Q=>∃p ys,xs=[.ref p]/\((bD X.K H p ys/\∀l,H l=none->Q (.ref l) (upd H l (.tup ys)))\/(cQ X.K H p ys/\Q (.ref p) H))):=by
 intro ae s σ H xs us Q I r h;obtain⟨p,ys,rfl,h⟩:=h;obtain⟨u,rfl,rx⟩:=v6 r;cases rx;rcases h with ⟨hq,q⟩|⟨hq,q⟩
 .obtain⟨its,r',pl,hz⟩:=I.list hq;have dC:=r'.length;refine call_tuple_list pl.isList (fun h' kp=>?_) (by simp only[bT] <;> lia);have I1:av X ae σ H { s with heap:=h' }:=I.kept (t':=s.toks) kp;have I2:av X ae σ (upd H h'.objs.size (.tup ys)) { s with heap:=h'.push { cls:=.type "tuple",data:=.seq its.toArray } }:=
   I1.laid (t':=s.toks) (fun b o e=>bJ _ e) (aG _) (show bX X.prog X.w _ _ _ (.tup ys) from ⟨hz,its,r',gY.new _ _⟩)
  exact⟨.ref h'.objs.size,_,I2,rfl,q _ (I1.aW.fresh (aG _))⟩
 .obtain⟨its,r',pl,hz⟩:=I.tuple hq;exact call_tuple_same pl ⟨.ref p,H,I,rfl,q⟩
def Tg(K:PySem.W.Frag)(T:String)(x:V)(H:Hp):Prop:=match x with
 |.str _=>T="str"
 |.int _=>T="int"
 |.ref p=>(T="list"/\∃xs,bD K H p xs)\/(T="tuple"/\∃o,K.lookup p=some o/\o.cls=.type "tuple"/\o.dict=none)\/
   (T="dict"/\((∃jq,H p=some (.dK jq))\/∃jq,H p=some (.dT jq)))\/(T="set"/\∃S n,H p=some (.set S n))
 |_=>False
theorem FQ(I:av X ae σ H s)(r:bq x v)(ty:Tg X.K T x H):
  s.TypeIs v T/\∀a,v=.ref a->∃ob,s.heap.get? a=some ob/\ob.dict=none:=by
 cases x with
 |str z=>
  obtain⟨t,rfl⟩:=r;cases (show T="str" from ty);exact⟨typeIs_str s z t,fun _ e=>nomatch e⟩
 |int i=>
  obtain⟨t,rfl⟩:=r;cases (show T="int" from ty);exact⟨typeIs_int s i t,fun _ e=>nomatch e⟩
 |ref p=>
  cases r;rcases ty with ⟨rfl,xs,hq⟩|⟨rfl,o,hk,hc,hd⟩|⟨rfl,hk⟩|⟨rfl,S,n,hk⟩
  .obtain⟨its,_,pl,_⟩:=I.list hq;refine⟨pl.isList.typeIs,fun a e=>?_⟩;cases e;obtain⟨o,n,e,c,hd,_⟩:=pl;exact⟨o,e,hd⟩
  .refine⟨⟨o,I.iN p o hk,hc⟩,fun a e=>?_⟩;cases e;exact⟨o,I.iN _ o hk,hd⟩
  .have z:∃o,s.heap.get? p=some o/\o.ExactDict:=by
    rcases hk with ⟨jq,hk⟩|⟨jq,hk⟩
    .obtain⟨_,_,_,_,o,_,_,e,ex,_⟩:=I.aW p _ hk;exact⟨o,e,ex⟩
    .obtain⟨_,_,_,_,o,_,_,e,ex,_⟩:=I.aW p _ hk;exact⟨o,e,ex⟩
   obtain⟨o,e,ex⟩:=z;refine⟨⟨o,e,ex.1⟩,fun a e2=>?_⟩;cases e2;exact⟨o,e,ex.2.1⟩
  .obtain⟨o,_,_,_,e,ex,_⟩:=I.aW p _ hk;refine⟨⟨o,e,ex.1⟩,fun a e2=>?_⟩;cases e2;exact⟨o,e,ex.2.1⟩
 |_=>exact False.elim ty
def Vi(K:PySem.W.Frag)(T:String)(r:V->List V->Hp->VK->Prop)(to:TE)(t:TA):TE:=fun σ H Q=>to σ H fun x H1=>Tg K T x H1/\t σ H1 fun xs H2=>r x xs H2 Q
variable {o e:Expr} {es:List Expr} {to:TE} {t:TA} {name:Str} {p_ ll:Pos} {T id:String} {r:V->List V->Hp->VK->Prop}
theorem Jz(pa:PlainAttrs T)(slot:Slot T name id)(Vj:typeOf (.builtin id)=pure (.type "method_descriptor"))(hm:Vh X id r)(ho:PE X o to)(ha:PA X (e::es) t)(JA:attributeBase o name X.env (eval o X.env)=eval o X.env:=by rfl)(Ot:((backTo ll (starEach (e::es) X.env)).all (fun x=>!x.1)&&(backToKw ll (keywordEach [] X.env)).all (fun x=>x.1.isSome)
   && decide ((e::es).length+([]:List Keyword).length+(if ([]:List Keyword).isEmpty then 0 else 1)<30))=true:=by rfl)(JB:(p_.endLine==ll.line)=true:=by rfl)(hs:starEach (e::es) X.env=(false,eval e X.env)::starEach es X.env:=by rfl)(u3:(backTo ll (starEach es X.env)).any (·.1)=false:=by rfl):
  PE X (.Call (.Attribute o name p_) (e::es) [] ll) (Vi X.K T r to t):=by
 intro ae s σ H Q I h;refine wpAny_Call_method_late JA Ot JB rfl (cg (ho ae s σ H _ I h) fun v s1 ⟨x,H1,I1,r1,ty,q1⟩=>?_);obtain⟨h1,h2⟩:=FQ I1 r1 ty;refine⟨T,id,pa,slot,Vj,h1,h2,?_⟩;have hA:=ha ll ae s1 σ H1 _ I1 q1;rw[hs] at hA |-;refine Calls.callWith_builtin (by show (false||(backTo ll (starEach es X.env)).any (·.1))=false;rw[u3] <;> rfl) (Calls.evalArgs_plain ?_);exact cg hA fun us s2 ⟨vs,H2,I2,r2,q2⟩=>hm ae s2 σ H2 x vs v us Q I2 r1 r2 q2
end
def Vk(X:Cx)(id:String)(r:V->List V->Hp->VK->Prop):Prop:=
 ∀ (ae:List (Addr×Obj)) (s:Shared) (σ:St) (H:Hp) (x:V) (xs:List V) (v:Value) (us:List Value) (Q:VK),av X ae σ H s->bq x v->aK xs us->r x xs H Q->
  wpAny (model X.prog X.w) X.A (call (.builtin id) (v::us)) (EP X ae σ Q) X.xe s
theorem aK.one{x:V}{us:List Value}(h:aK [x] us):∃u,us=[u]/\bq x u:=by
 cases h with
 |cons r h=>cases h;exact⟨_,rfl,r⟩
theorem aK.two{x y:V}{us:List Value}(h:aK [x,y] us):∃u v,us=[u,v]/\bq x u/\bq y v:=by
 cases h with
 |cons r h=>
  cases h with
  |cons q h=>cases h;exact⟨_,_,rfl,r,q⟩
section
variable {X:Cx} {ae:List (Addr×Obj)} {σ:St} {H:Hp} {s:Shared} {l b:Addr} {xs ys zs:List V}
theorem av.Ou{its its':List Value}{n:Nat}{f:Array Value->Array Value}{t':Nat}(I:av X ae σ H s)(hH:H l=some (.lst xs))(e:s.heap.get? l=some { cls:=.type "list",data:=.seq its.toArray n })(hf:f its.toArray=its'.toArray)(hv:aK ys its')(hz:ys.length<=sizeLine):
  av X ae σ (upd H l (.lst ys)) { s with heap:=s.heap.update l (Obj.mapSeq f),toks:=t' }:=by
 have q:=PySem.IsL.update e f;rw[hf] at q;refine I.write (x:=l) (e:=l) (by rw[hH];exact trivial) (.inl rfl) (fun b' u hb hu=>(ue s.heap (Obj.mapSeq f) (ei hb)).trans hu) ⟨_,q⟩ ?_;exact⟨hz,its',_,hv,q⟩
theorem av.JC(I:av X ae σ H s)(hv:aK ys its)(hz:ys.length<=sizeLine):
  av X ae σ (upd H s.heap.objs.size (.lst ys)) { s with heap:=s.heap.push { cls:=.type "list",data:=.seq its.toArray },toks:=t' }:=
 I.laid (fun _ _ q=>bJ _ q) (aG _) ⟨hz,its,0,hv,ci _ rfl⟩
theorem av.fresh(I:av X ae σ H s):H s.heap.objs.size=none:=I.aW.fresh (aG _)
theorem av.Cp(I:av X ae σ H s)(hH:H l=some (.lst xs)):xs.length<=sizeLine/\∃ (its:List Value) (n:Nat),aK xs its/\xs.length=its.length/\s.heap.get? l=some { cls:=.type "list",data:=.seq its.toArray n }:=by
 obtain⟨z,its,n,r,e⟩:=I.aW l _ hH;exact⟨z,its,n,r,r.length,e⟩
end
section
variable {X:Cx}
def Cq:V->List V->Hp->VK->Prop:=fun x vs H Q=>∃l xs y,x=.ref l/\vs=[y]/\H l=some (.lst xs)/\xs.length<sizeLine/\Q .bH (upd H l (.lst (xs++[y])))
theorem oR:Vk X "list.append" Cq:=by
 intro ae s σ H x vs v us Q I rx rv h;obtain⟨l,xs,y,rfl,rfl,hH,hz,q⟩:=h;cases rx;obtain⟨u,rfl,ru⟩:=rv.one;obtain⟨z,its,n,r,hl,e⟩:=I.Cp hH;refine call_meets F.slot_list_append ⟨_,e,rfl⟩ F.entry_list_append (F.args_list_append_2 _ _) (PySem.list_append l its.toArray n u (by rw[bT];lia)) ⟨e,?_⟩;refine⟨.bH,_,I.Ou (its':=its++[u]) hH e (by simp) (r.append (.cons ru .nil)) ?_,rfl,q⟩;rw[fL,List.length_singleton];lia
def Ov:R2:=fun x y H Q=>∃l b xs zs,x=.ref l/\y=.ref b/\H l=some (.lst xs)/\H b=some (.lst zs)/\xs.length+zs.length<=sizeLine/\∀p,H p=none->Q (.ref p) (upd H p (.lst (xs++zs)))
theorem zD:j9 X (binaryOp .Add) Ov:=by
 intro ae s σ H x y v u Q I rx ry h;obtain⟨l,b,xs,zs,rfl,rfl,hH,hB,hz,q⟩:=h;cases rx;cases ry;obtain⟨z,its,n,r,hl,e⟩:=I.Cp hH;obtain⟨z2,og,n2,r2,Ow,e2⟩:=I.Cp hB;refine PySem.P.add_list e e2 ?_ (by rw[bT,bT];lia);have ea:its.toArray++og.toArray=(its++og).toArray:=by simp
 rw[ea];exact⟨.ref _,_,I.JC (t':=s.toks) (r.append r2) (by rw[fL];lia),rfl,q _ I.fresh⟩
end
section
variable {prog:Program} {w:World} {A:Around} {E:Value->Shared->Prop} {s:Shared}
end
section
variable {X:Cx}
end
end L2
namespace Th
open PySem PySem.W PySem.Calls PyProof.Rows
theorem lm:∀ (ns:List Int) (vs:List Value),WellAll P h vs (ns.map WData.int)->IntsAre vs ns:=by
 intro ns;induction ns with
 |nil=>
  intro vs w;rw[List.map_nil] at w;cases w;exact .nil
 |cons n ns ih=>
  intro vs w;rw[jo] at w;cases w with
  |cons a b=>
   cases a;exact .cons _ _ (ih _ b)
theorem xC{l:OpenLaw}{n:Nat}(hn:l.most=some n){P:Params}{h:Heap}{args:List WData}{zE:List Value}(Cr:l.row.toRowW.claim.pre args=true)(Oy:WellAll P h zE args):
  ∃a vs ns,zE=[Value.ref a]/\args=[WData.list (ns.map WData.int)]/\h.get? a=some { cls:=.type "list",data:=.seq vs.toArray }/\IntsAre vs ns/\ns.length<=n:=by
 have Ti:WShape.hasAll [] args [.list .int]=true:=(pre_splitW Cr).1;have hc:l.pre.holds [] { args:=args }=true:=(pre_splitW Cr).2;obtain⟨d,r,rfl,h1,h2⟩:=hasAllW_cons Ti;obtain rfl:=hasAllW_nil h2;obtain⟨xs,rfl,h3⟩:=hasW_list h1;obtain⟨ns,rfl⟩:=items_int h3;have dC:ns.length<=n:=by
  unfold OpenLaw.pre at hc;have h4:(WTm.not (.lt (.lit (.int (n:Int))) (.len (.arg 0)))).holds [] { args:=[.list (ns.map .int)] }=true:=by
   have h4:=(holds_andW hc).1;rw[hn] at h4;exact h4
  have h5:=condW_of h4 (w_not (w_lt w_lit (w_len_list (w_arg rfl))));rw[aT] at h5;refine Nat.le_of_not_lt fun q=>?_;have q':(n:Int)<((ns.length:Nat):Int):=by lia
  first
   |(rw[decide_eq_true q'] at h5;exact absurd h5 (by decide))
   |(simp at h5;lia)
 cases Oy with
 |cons w1 w2=>
  cases w2;cases w1 with
  |list ho rJ=>exact⟨_,_,ns,rfl,rfl,ho,lm ns _ rJ,dC⟩
theorem xD(l:OpenLaw)(args:List WData):l.row.toRowW.claim.post args (.bool true) args=true:=
 postW_of (r:=l.row.toRowW) (X:=(true==true))
  (show WShape.has [] (.bool true) .bool=true by first|rfl|decide|simp[WShape.has,WShape.arms,WShape.armsAll])
  (show (WTm.eq .res (.lit (.bool true))).value [] { args:=args,res:=some (.bool true),after:=args }=some (.bool (true==true)) from w_eq_bool (w_res rfl) w_lit) rfl
theorem rK{l:OpenLaw}{n:Nat}{q:Program}{oT:List Str}{XP:(Str->Option Value)->Heap->Prop}{YP:World->Heap->Prop}{d:DefRec}(hn:l.most=some n)(JD:d.params.defaults=[])(call:∀ (w:World) (s₀ s₁:Shared) (mg mb:Str->Option Value) (fa:Addr) (o:Obj) (pm cd jg:Value) (a:Addr) (vs:List Value) (ns:List Int),
   Ground q oT [] XP w s₀ mg mb s₁.heap->YP w s₁.heap->
   s₁.heap.get? fa=some o->o.data=.func (docDef d.name d.params d.body d.scope pm cd jg)->s₁.heap.CodeRec cd d.name->mg d.name=some (.ref fa)->
   s₁.heap.get? a=some { cls:=.type "list",data:=.seq vs.toArray }->IntsAre vs ns->ns.length<=n->s₁.gens=#[]->
   codeAny (model l.prog w) callerA (.call (.ref fa) ⟨[.ref a],[]⟩) (fun r s'=>r=.ok (.ret (.bool true))/\OldK s₁.heap s'.heap/\s'.os=s₁.os/\AllBare s'.gens) s₁):
  WalkO q oT XP YP l.row.toRowW d [] (fun f vs=>PySem.call f vs):=by
 intro w s₀ s₁ mg mb G Y fa o pm cd jg dV kV ho hd nW hD JE hg args zE as Cr Vl Yg Oy M8;obtain rfl:dV=.none:=Dflts.none hD JD;obtain rfl:kV=.none:=Dflts.noKw hD;obtain⟨a,vs,ns,rfl,rfl,FR,zF,dC⟩:=xC hn Cr Oy;refine enter_call (iW (call w s₀ s₁ mg mb fa o pm cd jg a vs ns G Y ho (fd_plain hd) nW JE FR zF dC hg) fun r s' hq=>?_);obtain⟨rfl,h2,h3,h4⟩:=hq;exact⟨.inl ⟨.bool true,.bool true,[],rfl,fun _=>rfl,.bool true,xD l _,fun _=>⟨List.Pairwise.nil,fun _ hm=>(nomatch hm)⟩⟩,h2,h3,h4⟩
section
variable {prog:Program} {w:World} {A:Around} {E:Value->Shared->Prop} {s:Shared} {K:Frag}
end
end Th
namespace L2
open PySem PySem.Spec PyProof.Rows
theorem oU:∀ {vs:List Value} {ns:List Int},IntsAre vs ns->aK (ns.map V.int) vs
 |_,_,.nil=>.nil
 |_,_,.cons n t h=>.cons ⟨t,rfl⟩ (oU h)
def eL(s:Stmt)(j:Nat):Stmt:=match s with
 |.ClassDef _ _ _ body _ _ _ _ _ _ _=>body.getD j (.Pass ⟨0,0,0,0⟩)
 |_=>.Pass ⟨0,0,0,0⟩
def b9(s:Stmt):Arguments:=match s with
 |.FunctionDef _ a _ _ _ _ _ _ _ _=>a
 |_=>{ posonlyargs:=[],args:=[],vararg:=none,kwonlyargs:=[],kw_defaults:=[],kwarg:=none,defaults:=[] }
def aX(s:Stmt):List Stmt:=match s with
 |.FunctionDef _ _ b _ _ _ _ _ _ _=>b
 |_=>[]
def al(s:Stmt):Scope:=match s with
 |.FunctionDef _ _ _ _ _ _ sc _ _ _=>sc
 |_=>{ kind:=.function,names:=[],isGenerator:=false,isCoroutine:=false }
abbrev be:qZ:=fun _ _ _ _ _ _=>False
abbrev E0:XK:=fun _ _ _=>False
theorem aM:gh be X E0:=fun _ _ _ _ _ _ _ h=>h.elim
structure fJ(K:PySem.W.Frag)(x qual:Str)(st:Stmt)(f:Addr)(fd:FuncData):Prop where
 ex:∃ (oc:Value) (od:Option Addr) (kV jg pm:Value) (an:Option Addr) (dg ct:Value) (q0:Array (Option Value)),
  fd=PySem.W.fnOf x qual (b9 st) (aX st) (al st) .none kV jg pm an dg ct/\K.lookup f=some ⟨oc,od,.func fd,q0⟩/\PySem.W.codeIn K dg qual=true
 kp:PySem.W.keepIn K (.ref f)=true
section
variable {P:Program} {w:World} {K:PySem.W.Frag} {mg:Str->Option Value} {base:Heap}
theorem fJ.ok{x qual:Str}{st:Stmt}{f:Addr}{fd:FuncData}{N ps:List Str}{k:Nat}{sp:Sp}(F:fJ K x qual st f fd)(S:aE N ps (al st))(len:∀vs H Q E,sp vs H Q E->vs.length=ps.length)(mE:∀ (dg:Value) (A:Around) (outer:List Env) (s:Shared) (H:Hp) (vs:List V) (Q:VK) (E:XK),bQ k (A.deeper (envOfC qual (al st) s.heap.objs.size f dg))->sp vs H Q E->
   ∃t,oE (gJ be P w K mg base N qual (al st) f dg A outer s H E).BL (aX st) t/\t { nx:=fun _ H'=>Q .bH H',rt:=Q } (start N vs) H):a9 P w K mg base be (k+1) f fd ps sp:=by
 obtain⟨oc,od,kV,jg,pm,an,dg,ct,q0,rfl,lk,nW⟩:=F.ex;refine zz lk nW S len fun A outer s H vs Q E hr yB=>?_;obtain⟨t,h,q⟩:=mE dg A outer s H vs Q E hr yB;exact⟨t,h.BL,q⟩
theorem fJ.binds{x qual:Str}{st:Stmt}{f:Addr}{fd:FuncData}{ps:List Str}(F:fJ K x qual st f fd)(h:∀ (kV jg pm:Value) (an:Option Addr) (dg ct:Value) (us:List Value),us.length=ps.length->bindArgs (PySem.W.fnOf x qual (b9 st) (aX st) (al st) .none kV jg pm an dg ct) ⟨us,[]⟩=pure (ps.zip us)):fV K fd ps []:=by
 obtain⟨oc,od,kV,jg,pm,an,dg,ct,q0,rfl,lk,nW⟩:=F.ex;exact .all (h kV jg pm an dg ct)
theorem qc{x qual:Str}{st:Stmt}{f:Addr}{oc:Value}{od an:Option Addr}{q0:Array (Option Value)}{kV jg pm dg ct:Value}(l:K.lookup f=some ⟨oc,od,.func (PySem.W.fnOf x qual (b9 st) (aX st) (al st) .none kV jg pm an dg ct),q0⟩)(c:PySem.W.codeIn K dg qual=true)(k:PySem.W.keepIn K (.ref f)=true):fJ K x qual st f (PySem.W.fnOf x qual (b9 st) (aX st) (al st) .none kV jg pm an dg ct):=⟨⟨oc,od,kV,jg,pm,an,dg,ct,q0,rfl,l,c⟩,k⟩
end
section
variable {X:Cx}
theorem pv(i:Nat)(hN:X.N[i]?=some x:=by rfl)(hv:Io X.env.scope x:=by first|exact Or.inl rfl|exact Or.inr (Or.inl rfl)|exact Or.inr (Or.inr rfl))(hd:(x==("__debug__":Str))=false:=by decide)(nW:(x==("__classdict__":Str))=false:=by decide):PE X (.Name x pos) (bb i):=Fp hN hv hd nW
end
theorem fZ{A B:Prop}(h:B):if false=true then A else B:=by
 rw[am bV];exact h
theorem rL{A B:Prop}(h:A):if true=true then A else B:=by
 rw[ao rfl];exact h
theorem oh{c A B:Prop}[Decidable c](h1:c->A)(h2:¬ c->B):if c then A else B:=by
 by_cases h:c
 .rw[ao h];exact h1 h
 .rw[am h];exact h2 h
def aF(H H':Hp):Prop:=∀b o,H b=some o->H' b=some o
theorem aF.refl(H:Hp):aF H H:=fun _ _ h=>h
theorem aF.trans(a:aF H H1)(b:aF H1 H2):aF H H2:=fun c o h=>b c o (a c o h)
theorem aF.free(e:aF H H')(h:H' l=Option.none):H l=Option.none:=by
 cases q:H l with
 |none=>rfl
 |some o=>
  rw[e l o q] at h;cases h
def tu(src:List (Option Nat))(σ:St):St:=src.map fun o=>match o with|some j=>σ.getD j none|none=>none
theorem wf{src:List (Option Nat)}{σ:St}{i:Nat}{v:V}(h:(tu src σ)[i]?=some (some v)):∃j,src[i]?=some (some j)/\σ[j]?=some (some v):=by
 unfold tu at h;rw[bw] at h;cases e:src[i]? with
 |none=>rw[e] at h;cases h
 |some o=>
  rw[e] at h;cases o with
  |none=>cases h
  |some j=>
   refine⟨j,rfl,?_⟩;have h':σ.getD j none=some v:=bh h;rw[dS] at h';cases e2:σ[j]? with
   |none=>rw[e2] at h';cases h'
   |some o=>rw[e2] at h';rw[show o=some v from h']
structure cI(NB:List Str)(src:List (Option Nat))(scope:Scope)(X:Cx):Prop where
 kind:scope.kind=.function
 nd:NB.Nodup
 len:src.length=NB.length
 cells:∀y∈scope.names,y.2=.cell->scope.names.lookup y.1=some .cell
 names:∀y∈scope.names,y.2=.local->scope.names.lookup y.1=some .local
 free:∀y∈scope.names,y.2=.free->X.env.scope.names.lookup y.1=some .cell\/X.env.scope.names.lookup y.1=some .free
 src:∀ (i:Nat) (x:Str) (j:Nat),NB[i]?=some x->src[i]?=some (some j)->X.N[j]?=some x/\scope.names.lookup x=some .free
def qd(scope:Scope)(x:Str):Bool:=match scope.names.lookup x with
 |some .cell=>true
 |_=>false
theorem rM:qd scope x=true↔scope.names.lookup x=some .cell:=by
 unfold qd;split
 .rename_i h;exact⟨fun _=>h,fun _=>rfl⟩
 .rename_i h;exact⟨fun z=>(by cases z),fun z=>absurd z h⟩
def wg(X:Cx)(NB:List Str)(scope:Scope)(cl:List (Str×Addr))(C:Addr)(s₃:Shared)(H₃:Hp)(fp:List Addr):Cx:=
 { X with N:=NB,s₀:=s₃,H₀:=H₃,env:=compEnvC scope cl C X.env,outer:=X.stack,stack:=X.stack,ex:=fp,fn:=qd scope,pn:=[],xe:=fun _ _=>False }
theorem i7:∀ (names:List (Str×NameKind)) (dj:List (Str×Addr)),(∀y∈names,y.2=NameKind.free->∃c,env.cells.lookup y.1=some c)->(∀x c,dj.lookup x=some c->env.cells.lookup x=some c)->
  ∃cl,(forIn names dj fun x r=>(if (x.2==NameKind.free)=true then (do let a <- cellOf env x.1;pure (ForInStep.yield ((x.1,a)::r))) else pure (ForInStep.yield r):Sem (ForInStep (List (Str×Addr)))))=(pure cl:Sem (List (Str×Addr)))/\
   (∀x c,cl.lookup x=some c->env.cells.lookup x=some c)/\(∀x c,dj.lookup x=some c->∃c',cl.lookup x=some c')/\∀x,(x,NameKind.free)∈names->∃c,cl.lookup x=some c
 |[],dj,_,ha=>⟨dj,by rw[List.forIn_nil],ha,fun x c h=>⟨c,h⟩,fun x h=>nomatch h⟩
 |(n,k)::r,dj,hf,ha=>by
  by_cases hk:k=NameKind.free
  .subst hk;obtain⟨c,hc⟩:=hf (n,NameKind.free) bU rfl;have Oz:∀x c',((n,c)::dj).lookup x=some c'->env.cells.lookup x=some c':=fun x c' h=>by
    rw[cV] at h;cases hx:x==n with
    |true=>
     rw[hx] at h;cases h;have:x=n:=by simpa using hx
     rw[this];exact hc
    |false=>rw[hx] at h;exact ha x c' h
   obtain⟨cl,e1,e2,e3,e4⟩:=i7 r ((n,c)::dj) (fun y hy=>hf y (bS _ hy)) Oz;refine⟨cl,?_,e2,fun x c' h=>?_,fun x h=>?_⟩
   .rw[List.forIn_cons];have ec:cellOf env n=pure c:=by unfold cellOf;rw[hc]
    have e0:(if ((n,NameKind.free).2==NameKind.free)=true then (do let a <- cellOf env (n,NameKind.free).1;pure (ForInStep.yield (((n,NameKind.free).1,a)::dj))) else pure (ForInStep.yield dj):Sem (ForInStep (List (Str×Addr))))=pure (ForInStep.yield ((n,c)::dj)):=by
     rw[ao (show (NameKind.free==NameKind.free)=true by decide)];show cellOf env n >>= _=_;rw[ec];rfl
    rw[e0];exact e1
   .cases hx:x==n with
    |true=>exact e3 x c (by rw[cV,hx])
    |false=>exact e3 x c' (by rw[cV,hx];exact h)
   .rcases aR.mp h with h|h
    .cases h;exact e3 n c (by rw[cV];simp)
    .exact e4 x h
  .obtain⟨cl,e1,e2,e3,e4⟩:=i7 r dj (fun y hy=>hf y (bS _ hy)) ha;refine⟨cl,?_,e2,e3,fun x h=>?_⟩
   .rw[List.forIn_cons];have hb:(k==NameKind.free)=false:=by simpa using hk
    have e0:(if ((n,k).2==NameKind.free)=true then (do let a <- cellOf env (n,k).1;pure (ForInStep.yield (((n,k).1,a)::dj))) else pure (ForInStep.yield dj):Sem (ForInStep (List (Str×Addr))))=pure (ForInStep.yield dj):=by
     rw[am (by show ¬ (k==NameKind.free)=true;rw[hb];decide)]
    rw[e0];exact e1
   .rcases aR.mp h with h|h
    .cases h;exact absurd rfl hk
    .exact e4 x h
theorem gj(ok:X.Ok)(S:cI NB src scope X):
  ∃cl,closureFor scope X.env=pure cl/\(∀x c,cl.lookup x=some c->X.env.cells.lookup x=some c)/\∀x,(x,NameKind.free)∈scope.names->∃c,cl.lookup x=some c:=by
 obtain⟨cl,e1,e2,_,e4⟩:=i7 (env:=X.env) scope.names [] (fun y hy hk=>ok.has y.1 (S.free y hy hk)) (fun x c h=>nomatch h);refine⟨cl,?_,e2,e4⟩;unfold closureFor;simp only[bind_pure];exact e1
theorem qe(h:scope.names.lookup x=some .free):(relabel scope env).names.lookup x=some .cell\/(relabel scope env).names.lookup x=some .free:=by
 have go:∀names:List (Str×NameKind),names.lookup x=some .free->
   (names.map fun (n,k)=>if (k==NameKind.free&&env.scope.kind==.function&&env.kindOf n==some .cell) then (n,NameKind.cell) else (n,k)).lookup x=some .cell\/
   (names.map fun (n,k)=>if (k==NameKind.free&&env.scope.kind==.function&&env.kindOf n==some .cell) then (n,NameKind.cell) else (n,k)).lookup x=some .free:=by
  intro names;induction names with
  |nil=>intro h;simp at h
  |cons y r ih=>
   intro h;obtain⟨n,k⟩:=y;rw[cV] at h;rw[jo];cases hx:x==n with
   |true=>
    rw[hx] at h;cases h;by_cases hc:(NameKind.free==NameKind.free&&env.scope.kind==.function&&env.kindOf n==some .cell)=true
    .left;show List.lookup x ((if _ then _ else _)::_)=_;rw[ao hc,cV,hx]
    .right;show List.lookup x ((if _ then _ else _)::_)=_;rw[am hc,cV,hx]
   |false=>
    rw[hx] at h;by_cases hc:(k==NameKind.free&&env.scope.kind==.function&&env.kindOf n==some .cell)=true
    .show List.lookup x ((if _ then _ else _)::_)=_\/List.lookup x ((if _ then _ else _)::_)=_;rw[ao hc,cV,hx];exact ih h
    .show List.lookup x ((if _ then _ else _)::_)=_\/List.lookup x ((if _ then _ else _)::_)=_;rw[am hc,cV,hx];exact ih h
 exact go scope.names h
theorem jz(h:(relabel scope env).names.lookup x=some k)(hk:k=.cell\/k=.free):(x,NameKind.free)∈scope.names\/(x,NameKind.cell)∈scope.names:=by
 have m:=fc h;obtain⟨⟨n,k'⟩,hm,e⟩:=ck.mp m;by_cases q:(k'==NameKind.free&&env.scope.kind==.function&&env.kindOf n==some .cell)=true
 .have e':(n,NameKind.cell)=(x,k):=by simpa [q] using e
  have k1:k'=NameKind.free:=by
   simp only[fg,eQ] at q;exact q.1.1
  cases e';left;rw[<-k1];exact hm
 .have e':(n,k')=(x,k):=by simpa [q] using e
  cases e';rcases hk with z|z
  .subst z;exact .inr hm
  .subst z;exact .inl hm
theorem kh:∀ (names:List (Str×NameKind)) (h:Heap) (dj:List (Str×Addr)) (x:Str) (c:Addr),(cellsFrom h.objs.size names dj).lookup x=some c->dj.lookup x=some c\/(h.objs.size<=c/\(pushCells h names).IsCell c none)
 |[],_,_,_,_,e=>.inl e
 |(name,kind)::r,h,dj,x,c,e=>by
  unfold cellsFrom at e;unfold pushCells;split at e
  .rename_i hk;rw[ao hk];have fq:(h.push { cls:=.type "cell",data:=.cell none }).objs.size=h.objs.size+1:=kT ..;rw[<-fq] at e;rcases kh r _ _ x c e with z|⟨z1,z2⟩
   .rw[cV] at z;cases hx:x==name with
    |true=>
     rw[hx] at z;cases z;exact .inr ⟨aG _,_,pushCells_keeps r _ _ _ (ci _ rfl),rfl⟩
    |false=>rw[hx] at z;exact .inl z
   .exact .inr ⟨by lia,z2⟩
  .rename_i hk;rw[am hk];exact kh r h dj x c e
theorem oW:∀ (names:List (Str×NameKind)) (n:Nat) (dj:List (Str×Addr)) (x:Str),(x,NameKind.cell)∈names->∃c,n<=c/\(cellsFrom n names dj).lookup x=some c:=by
 have up:∀ (names:List (Str×NameKind)) (n m:Nat) (dj:List (Str×Addr)) (x:Str) (c:Addr),dj.lookup x=some c->m<=c->m<=n->∃c',m<=c'/\(cellsFrom n names dj).lookup x=some c':=by
  intro names;induction names with
  |nil=>intro n m dj x c e h _;exact⟨c,h,e⟩
  |cons y r ih=>
   intro n m dj x c e h hm;obtain⟨name,kind⟩:=y;unfold cellsFrom;split
   .cases hx:x==name with
    |true=>exact ih (n+1) m _ x n (by rw[cV,hx]) hm (by lia)
    |false=>exact ih (n+1) m _ x c (by rw[cV,hx];exact e) h (by lia)
   .exact ih n m dj x c e h hm
 intro names;induction names with
 |nil=>intro n dj x h;cases h
 |cons y r ih=>
  intro n dj x h;obtain⟨name,kind⟩:=y;unfold cellsFrom;rcases aR.mp h with z|z
  .cases z;rw[ao (by decide)];exact up r (n+1) n _ x n (by rw[cV];simp) (aG _) (by lia)
  .split
   .obtain⟨c,h1,h2⟩:=ih (n+1) ((name,n)::dj) x z;exact⟨c,by lia,h2⟩
   .exact ih n dj x z
theorem iz:∀ (names:List (Str×NameKind)) (n:Nat) (dj:List (Str×Addr)) (x:Str) (c:Addr),dj.lookup x=some c->(x,NameKind.cell)∉names->(cellsFrom n names dj).lookup x=some c
 |[],_,_,_,_,e,_=>e
 |(name,kind)::r,n,dj,x,c,e,h=>by
  have hr:(x,NameKind.cell)∉r:=fun z=>h (bS _ z);unfold cellsFrom;split
  .rename_i hk;have jQ:(x==name)=false:=by
    cases hx:x==name with
    |false=>rfl
    |true=>
     have e1:x=name:=by simpa using hx
     have e2:kind=.cell:=by simpa using hk
     exact absurd (by rw[e1,e2];exact bU) h
   exact iz r (n+1) _ x c (by rw[cV,jQ];exact e) hr
  .exact iz r n dj x c e hr
theorem kj:∀ (names:List (Str×NameKind)) (n:Nat) (dj:List (Str×Addr)),(∀x y c,dj.lookup x=some c->dj.lookup y=some c->x=y)->(∀x c,dj.lookup x=some c->c<n)->∀x y c,(cellsFrom n names dj).lookup x=some c->(cellsFrom n names dj).lookup y=some c->x=y
 |[],_,_,hi,_=>hi
 |(name,kind)::r,n,dj,hi,hl=>by
  unfold cellsFrom;split
  .refine kj r (n+1) _ (fun x y c h1 h2=>?_) (fun x c h=>?_)
   .rw[cV] at h1 h2;cases hx:x==name <;> cases hy:y==name <;> rw[hx] at h1 <;> rw[hy] at h2
    .exact hi x y c h1 h2
    .cases h2;exact absurd (hl x _ h1) (fh _)
    .cases h1;exact absurd (hl y _ h2) (fh _)
    .have e1:x=name:=by simpa using hx
     have e2:y=name:=by simpa using hy
     rw[e1,e2]
   .rw[cV] at h;cases hx:x==name <;> rw[hx] at h
    .exact cZ (hl x c h)
    .cases h;exact kQ _
  .exact kj r n dj hi hl
section
variable {X:Cx} {ae:List (Addr×Obj)} {σ:St} {H:Hp} {s:Shared} {NB:List Str} {src:List (Option Nat)} {scope:Scope} {cl:List (Str×Addr)} {fp:List Addr} {h₁:Heap} {t₁:Nat}
theorem Cs(I:av X ae σ H s)(S:cI NB src scope X)(c1:∀x c,cl.lookup x=some c->X.env.cells.lookup x=some c)(c2:∀x,(x,NameKind.free)∈scope.names->∃c,cl.lookup x=some c)(hf:∀b∈fp,eK X ae H b)(Ct:∀b∈fp,b<s.heap.objs.size){m:Str->Option Value}(hn:h₁.Ns s.heap.objs.size m)(hk:∀b o,s.heap.get? b=some o->h₁.get? b=some o)(xE:∀x c,(cellsFrom (s.heap.objs.size+1) scope.names cl).lookup x=some c->cl.lookup x=some c\/(s.heap.objs.size<c/\h₁.IsCell c none)):
  av (wg X NB scope (cellsFrom (s.heap.objs.size+1) scope.names cl) s.heap.objs.size s H fp) [] (tu src σ) H { s with heap:=h₁,toks:=t₁ }:=by
 have vV:∀b∈fS X.stack,b∈X.env.locals::X.fs:=I.mv;have i8:∀x c,cl.lookup x=some c->∃v,s.heap.IsCell c v:=fun x c e=>I.cell x c (c1 x c e);have OA:∀x c,cl.lookup x=some c->c<s.heap.objs.size:=fun x c e=>by obtain⟨v,o,ho,_⟩:=i8 x c e;exact bg ho
 refine⟨⟨I.ok.mod,S.kind,I.ok.glob,I.ok.blt,aG _,kj _ _ _ (fun x y c e1 e2=>I.ok.inj x y c (c1 x c e1) (c1 y c e2)) (fun x c e=>cZ (OA x c e)),fun x hx=>?_,fun x c z e=>?_,I.ok.hd,I.ok.frames,.inl rfl,fun b hb=>⟨?_,fun x c e=>?_⟩,I.bs,bp I.ok.tf I.sz,fun b o e hb=>?_,fun b hb=>?_,I.stack,I.fm⟩,
  rfl,I.bare,Un.kept hk,⟨m,hn,fun i x v e1 e2 e3=>?_⟩,fun x c e=>?_,I.aW.fresh (aG _),fun x c e=>?_,fun p hp=>absurd (show p∈([]:List (Addr×Obj)) from hp) (by simp),I.aW.kept hk,?_⟩
 .have Cu:(x,NameKind.free)∈scope.names\/(x,NameKind.cell)∈scope.names:=by
   rcases hx with hx|hx
   .exact jz hx (.inl rfl)
   .exact jz hx (.inr rfl)
  by_cases hc:(x,NameKind.cell)∈scope.names
  .obtain⟨c,_,e⟩:=oW scope.names (s.heap.objs.size+1) cl x hc;exact⟨c,e⟩
  .rcases Cu with z|z
   .obtain⟨c,e⟩:=c2 x z;exact⟨c,iz _ _ _ _ _ e hc⟩
   .exact absurd z hc
 .have hm:=fc (rM.mp z);obtain⟨c',h1,h2⟩:=oW scope.names (s.heap.objs.size+1) cl x hm;have e':(cellsFrom (s.heap.objs.size+1) scope.names cl).lookup x=some c:=e;rw[h2] at e';cases e';exact Nat.le_of_succ_le h1
 .exact bf (Ct b hb)
 .rcases xE x c e with z|⟨z,_⟩
  .exact(hf b hb).2.2.2.2.1 x c (c1 x c z)
  .exact iM (pZ (Ct b hb) z)
 .rcases(hf b hb).2.2.2.1 with z|z
  .exact I.ok.fT b o e z
  .exact absurd (bK (bg e) (bp I.ok.tf z)) (fh _)
 .intro z;rcases aR.mp (vV b z) with e|e
  .exact(hf b hb).2.1 e
  .exact(hf b hb).2.2.1 e
 .obtain⟨j,hj,hv⟩:=wf e2;obtain⟨hN,hF⟩:=S.src i x j e1 hj;obtain⟨m0,Vm,M9⟩:=I.loc;have u4:=fc hF;have kx:=S.free _ u4 rfl;have Jm:Io X.env.scope x:=by
   rcases kx with z|z
   .exact .inr (.inl z)
   .exact .inr (.inr z)
  obtain⟨u,r,l⟩:=M9 j x v hN hv Jm;refine⟨u,r,.inr ⟨qe hF,?_⟩⟩;obtain⟨c,hc⟩:=c2 x u4;have Vn:(x,NameKind.cell)∉scope.names:=fun z=>by
   have:=S.cells _ z rfl;rw[hF] at this;cases this
  refine⟨c,iz _ _ _ _ _ hc Vn,?_⟩;rcases l with ⟨BP,_⟩|⟨_,c',e,z⟩
  .have zG:X.env.scope.names.lookup x=some .local:=BP;rcases kx with z|z <;> (rw[z] at zG;cases zG)
  .rw[c1 x c hc] at e;cases e;obtain⟨o,ho,hd⟩:=z;exact⟨o,hk _ _ ho,hd⟩
 .rcases xE x c e with z|⟨_,z⟩
  .obtain⟨v,o,ho,hd⟩:=i8 x c z;exact⟨v,o,hk _ _ ho,hd⟩
  .exact⟨none,z⟩
 .rcases xE x c e with z|⟨z,_⟩
  .exact I.dR x c (c1 x c z)
  .exact I.aW.fresh (jp z)
 .show (tu src σ).length=NB.length;unfold tu;rw[aT];exact S.len
theorem av.JF(I:av X ae σ H s)(J:av (wg X NB scope cl C s H fp) [] σB H' s')(hf:∀b∈fp,eK X ae H b):av X ae σ H' s':=by
 refine I.vY (ch:=fp) J.os J.base J.aW J.bare fun b hb=>?_;obtain⟨_,f1,_,f3,f4,f5⟩:=hf b hb;exact⟨f3,f1,f4,f5⟩
end
def Iv(X:Cx)(wj:List Expr)(t:TT):Prop:=
 ∀ (ae:List (Addr×Obj)) (s:Shared) (σ:St) (H:Hp) (Q:Bool->Hp->Prop),av X ae σ H s->t σ H Q->
  wpAny (model X.prog X.w) X.A (forIn wj true fun c r=>if r=true then do let ok <- isTrue c X.env (eval c X.env);pure (ForInStep.yield ok) else pure (ForInStep.yield r)) (TP X ae σ Q) X.xe s
def OB:TT:=fun _ H Q=>Q true H
theorem cq:Iv X [] OB:=fun _ _ _ H _ I h=>wpAny_tests_nil ⟨H,I,h⟩
theorem iA(h:PT X c t):Iv X [c] t:=fun ae s σ H Q I q=>wpAny_tests_one (h ae s σ H Q I q)
def iO(J:It)(g:TG)(tt:TT)(te:TE)(D:Addr)(eT:Hp->Prop)(σB:St)(H1:Hp):Prop:=
 ∃W:Nat->Nat->St->Hp->Prop,(∃m,W 0 m σB H1)/\∀i m σ H,W i m σ H->(J.stop i H/\eT H)\/(J.go i H/\∀x H',J.Iq i H x H'->g x σ H' fun σ2 H2=>tt σ2 H2 fun b H3=>
  if b=true then te σ2 H3 fun v H4=>∃ys,H4 D=some (.lst ys)/\ys.length<sizeLine/\∃m',m'<m/\W (i+1) m' σ2 (upd H4 D (.lst (ys++[v]))) else ∃m',m'<m/\W (i+1) m' σ2 H3)
theorem xF(hx:B.xe=fun _ _=>False)(hc:B.calm=true)(T:rB B.prog B.w B.K tg J fp it tn)(hg:PG B tg g)(ht:Iv B wj tt)(he:PE B yC te)(I:av B [] σB H1 s)(st:tn 0 s.heap)(hf:∀b∈fp,eK B [] H1 b)(hw:iO J g tt te D eT σB H1)(hR:∀σ' H' s',av B [] σ' H' s'->eT H'->R (.ok .next) s'):
  codeAny (model B.prog B.w) B.A (.compLoop (.ListComp yC [⟨tg,gI,wj,0⟩] scope pos) 0 (.ref it) (.ref D) B.env) R s:=by
 obtain⟨W,⟨m0,w0⟩,zc⟩:=hw;have uM:∀ {H':Hp},(∀b∈fp,H' b=none)->∀b∈fp,eK B [] H' b:=fun hn b hb=>⟨hn b hb,(hf b hb).2⟩
 refine codeAny_loop rfl (fun n s'=>∃i σ' H',av B [] σ' H' s'/\tn i s'.heap/\(∀b∈fp,H' b=none)/\W i n σ' H') ?_ m0 ⟨0,σB,H1,I,st,fun b hb=>(hf b hb).1,w0⟩;rintro n s3 ⟨i,σ3,H3,I3,uN,Fy,w3⟩;show wpAny _ B.A ((compTurn (.ListComp yC [⟨tg,gI,wj,0⟩] scope pos) 0 (.ref it) (.ref D) B.env).onRaise (fun x=>do noteFrame x B.env;theTreesLotGoes x)) _ _ s3;refine wpAny_noted ?_;rw[compTurn_list];have nx:∀ {α:Type} {t:Sem α} {Q:α->Shared->Prop} {E':Value->Shared->Prop} {s:Shared},wpAny (model B.prog B.w) B.A t Q B.xe s->wpAny (model B.prog B.w) B.A t Q E' s:=fun h=>
  fj h (fun _ _ q=>q) fun _ _ z=>by rw[hx] at z;exact z.elim
 rcases zc i n σ3 H3 w3 with ⟨stop,qn⟩|⟨go,step⟩
 .refine aq (ml (aq (cg (T.done B rfl rfl rfl hc i [] s3 σ3 H3 _ I3 (uM Fy) uN stop) fun r s4 ⟨hr,I4⟩=>?_)));subst hr;exact wpAny_pure (hR σ3 H3 s4 I4 qn)
 .refine aq (ml (aq (cg (T.item B rfl rfl rfl hc i [] s3 σ3 H3 _ I3 (uM Fy) uN go) fun r s4 ⟨u,hr,h4⟩=>?_)));subst hr;refine aq (cg h4 fun _ s5 ⟨x,H5,I5,r5,y5,qY,Og⟩=>?_);have Oh:=I5.pinned (uM Og) (T.obj _ _ qY);refine aq (nx (cg (hg _ s5 σ3 H5 x u _ Oh r5 (step x H5 y5)) fun _ s6 ⟨σ6,H6,I6,q6⟩=>?_));have back:∀ {σ7:St} {H7:Hp} {s7:Shared} {m':Nat},av B ([]++mz fp s5.heap) σ7 H7 s7->m'<n->W (i+1) m' σ7 H7->∃m,m<n/\∃i σ' H',av B [] σ' H' s7/\tn i s7.heap/\(∀b∈fp,H' b=none)/\W i m σ' H':=fun {σ7 H7 s7 m'} I7 hm w7=>by
   refine⟨m',hm,i+1,σ7,H7,I7.ju,T.keep _ _ _ qY fun b hb o e=>(I7.pin (b,o) (cU _ (cU _ (gg hb e)))).1,fun b hb=>?_,w7⟩;obtain⟨o,e,d⟩:=T.obj _ _ qY b hb;exact(I7.pin (b,o) (cU _ (cU _ (gg hb e)))).2.1
  refine aq (nx (cg (ht _ s6 σ6 H6 _ I6 q6) fun ok s7 ⟨H7,I7,q7⟩=>?_));cases ok with
  |false=>
   rw[am bV] at q7;obtain⟨m',hm,w7⟩:=q7;exact wpAny_pure ⟨rfl,back I7 hm w7⟩
  |true=>
   rw[ao rfl] at q7;refine aq (aq (nx (cg (he _ s7 σ6 H7 _ I7 q7) fun v s8 ⟨y,H8,I8,r8,ys,hD,hl,m',hm,w8⟩=>?_)));refine aq (nx (cg (oR _ s8 σ6 H8 (.ref D) [y] (.ref D) [v] (fun _ H9=>H9=upd H8 D (.lst (ys++[y]))) I8 rfl (.cons r8 .nil) ⟨D,ys,y,rfl,rfl,hD,hl,rfl⟩) fun _ s9 ⟨_,H9,I9,_,e9⟩=>?_));subst e9;exact wpAny_pure (wpAny_pure ⟨rfl,back I9 hm w8⟩)
theorem qf(hQ:Q { scope:=scope,locals:=s.heap.objs.size,globals:=globals,cells:=cellsFrom (s.heap.objs.size+1) scope.names cl,qual:=qual,func:=none,code:=outer.code,frame:=outer.frame,builtins:=outer.builtins }
   { s with heap:=pushCells (s.heap.push { cls:=.type "dict",data:=.dict #[] }) scope.names }):
  wpAny M A (newFunctionEnv scope globals cl [] qual none .none (some outer)) Q E s:=by
 simp only[newFunctionEnv,Option.isSome_some,if_true];refine aq (wpAny_alloc ?_);refine aq (wpAny_layCells _ (fun name kind cells=>by cases Vo:kind==NameKind.cell <;> simp[Vo]) _ _ _ _ ?_);rw[show ({ s with heap:=s.heap.push { cls:=.type "dict",data:=.dict #[] } }:Shared).heap.objs.size=s.heap.objs.size+1 from kT ..];refine aq ?_;rw[List.forIn_nil];exact wpAny_pure (wpAny_pure hQ)
section
variable {X:Cx} {yC tg gI:Expr} {wj:List Expr} {scope:Scope} {pos:Pos} {wi:TI} {g:TG} {tt:TT} {te:TE} {NB:List Str} {src:List (Option Nat)}
def Ew(src:List (Option Nat))(wi:TI)(g:TG)(tt:TT)(te:TE):TE:=fun σ H Q=>wi σ H fun J H1=>∀D,H1 D=none->iO J g tt te D (fun H'=>Q (.ref D) H') (tu src σ) (upd H1 D (.lst []))
theorem mJ{ae:List (Addr×Obj)}{σ:St}{H2:Hp}{s2:Shared}{J:It}{fp:List Addr}{it:Addr}{tn:Nat->Heap->Prop}{cl:List (Str×Addr)}{eT:Addr->Hp->Prop}{E':Value->Shared->Prop}{RR:Value->Addr->Result->Shared->Prop}(S:cI NB src scope X)(hc:X.calm=true)(c1:∀x c,cl.lookup x=some c->X.env.cells.lookup x=some c)(c2:∀x,(x,NameKind.free)∈scope.names->∃c,cl.lookup x=some c)(hg:∀cl C s₃ H₃ fp,PG (wg X NB scope cl C s₃ H₃ fp) tg g)(ht:∀cl C s₃ H₃ fp,Iv (wg X NB scope cl C s₃ H₃ fp) wj tt)(he:∀cl C s₃ H₃ fp,PE (wg X NB scope cl C s₃ H₃ fp) yC te)(I2:av X ae σ H2 s2)(T:rB X.prog X.w X.K tg J fp it tn)(qX:tn 0 s2.heap)(f2:∀b∈fp,eK X ae H2 b)(hw:∀D,H2 D=none->iO J g tt te D (eT D) (tu src σ) (upd H2 D (.lst [])))(hR:∀D C H' s',eK X ae H' C->av X ae σ H' s'->(∃m,s'.heap.Ns C m)->eT D H'->RR (.ref D) C (.ok .next) s'):
  wpAny (model X.prog X.w) X.A (newList []) (fun dj s₃=>wpAny (model X.prog X.w) X.A (newFunctionEnv scope X.env.globals cl [] X.env.qual none .none (some X.env)) (fun JG s₄=>
   codeAny (model X.prog X.w) X.A (.compStart (.ListComp yC [⟨tg,gI,wj,0⟩] scope pos) 0 (.ref it) dj { JG with scope:=relabel scope X.env }) (RR dj JG.locals) s₄) E' s₃) E' s2:=by
 refine lW (qf ?_);have I3:=I2.JC (ys:=[]) (its:=[]) (t':=s2.toks) .nil (cu _);have hD:H2 s2.heap.objs.size=none:=I2.fresh;have fo:∀b∈fp,b<s2.heap.objs.size:=fun b hb=>by obtain⟨o,e,_⟩:=T.obj _ _ qX b hb;exact bg e
 have up:∀ {b:Addr},b∈fp->upd H2 s2.heap.objs.size (.lst []) b=H2 b:=fun {b} hb=>ah (bf (fo b hb));have f3:∀b∈fp,eK X ae (upd H2 s2.heap.objs.size (.lst [])) b:=fun b hb=>⟨by rw[up hb];exact(f2 b hb).1,(f2 b hb).2⟩
 have fq:(s2.heap.push { cls:=.type "list",data:=.seq ([]:List Value).toArray }).objs.size=s2.heap.objs.size+1:=by rw[kT]
 generalize Vp:({ s2 with heap:=s2.heap.push { cls:=.type "list",data:=.seq ([]:List Value).toArray } }:Shared)=s3 at I3 |-;have Tj:s3.heap=s2.heap.push { cls:=.type "list",data:=.seq ([]:List Value).toArray }:=by rw[<-Vp]
 have Tk:∀b∈fp,b<s3.heap.objs.size:=fun b hb=>by rw[Tj,fq];exact cZ (fo b hb)
 have JI:(s3.heap.push { cls:=.type "dict",data:=.dict #[] }).objs.size=s3.heap.objs.size+1:=kT ..;have xE:∀x c,(cellsFrom (s3.heap.objs.size+1) scope.names cl).lookup x=some c->cl.lookup x=some c\/(s3.heap.objs.size<c/\(pushCells (s3.heap.push { cls:=.type "dict",data:=.dict #[] }) scope.names).IsCell c none):=fun x c e=>by
  rw[<-JI] at e;rcases kh _ _ _ _ _ e with z|⟨z1,z2⟩
  .exact .inl z
  .exact .inr ⟨by rw[JI] at z1;exact z1,z2⟩
 have JJ:=(Heap.Ns.new s3.heap (.type "dict")).keeps (pushCells_keeps scope.names _);have keep:∀b o,s3.heap.get? b=some o->(pushCells (s3.heap.push { cls:=.type "dict",data:=.dict #[] }) scope.names).get? b=some o:=fun b o e=>pushCells_keeps _ _ b o (bJ _ e);generalize Yh:pushCells (s3.heap.push { cls:=.type "dict",data:=.dict #[] }) scope.names=h₁ at xE JJ keep |-;have IB:av (wg X NB scope (cellsFrom (s3.heap.objs.size+1) scope.names cl) s3.heap.objs.size s3 (upd H2 s2.heap.objs.size (.lst [])) fp) [] (tu src σ) (upd H2 s2.heap.objs.size (.lst [])) { s3 with heap:=h₁,toks:=s3.toks }:=
  Cs I3 S c1 c2 f3 Tk JJ keep xE
 have Tl:tn 0 h₁:=T.keep 0 s2.heap h₁ qX fun b hb o e=>keep b o (by rw[Tj];exact bJ _ e);have fB:∀b∈fp,eK (wg X NB scope (cellsFrom (s3.heap.objs.size+1) scope.names cl) s3.heap.objs.size s3 (upd H2 s2.heap.objs.size (.lst [])) fp) [] (upd H2 s2.heap.objs.size (.lst [])) b:=fun b hb=>by
  refine⟨(f3 b hb).1,bf (Tk b hb),fun z=>?_,.inl hb,fun x c e=>(IB.ok.Ip b hb).2 x c e,fun p hp=>absurd (show p∈([]:List (Addr×Obj)) from hp) (by simp)⟩;rcases aR.mp (I3.mv b z) with e|e
  .exact(f3 b hb).2.1 e
  .exact(f3 b hb).2.2.1 e
 have loop:codeAny (model X.prog X.w) X.A (.compLoop (.ListComp yC [⟨tg,gI,wj,0⟩] scope pos) 0 (.ref it) (.ref s2.heap.objs.size) (compEnvC scope (cellsFrom (s3.heap.objs.size+1) scope.names cl) s3.heap.objs.size X.env)) (RR (.ref s2.heap.objs.size) s3.heap.objs.size)
   { s3 with heap:=h₁,toks:=s3.toks }:=by
  refine xF (B:=wg X NB scope (cellsFrom (s3.heap.objs.size+1) scope.names cl) s3.heap.objs.size s3 (upd H2 s2.heap.objs.size (.lst [])) fp) rfl hc T (hg _ _ _ _ _) (ht _ _ _ _ _) (he _ _ _ _ _) IB Tl fB (hw _ hD) fun σ' H' s' J' q=>?_;obtain⟨m,hm,_⟩:=J'.loc;exact hR _ _ H' s' (I3.rA (aG _) J'.free) (I3.JF J' f3) ⟨m,hm⟩ q
 exact codeAny_compStart_list loop (T.self _ 0 _ _ _ Tl loop)
theorem cA(S:cI NB src scope X)(hc:X.calm=true)(hi:PI X tg gI wi)(hg:∀cl C s₃ H₃ fp,PG (wg X NB scope cl C s₃ H₃ fp) tg g)(ht:∀cl C s₃ H₃ fp,Iv (wg X NB scope cl C s₃ H₃ fp) wj tt)(he:∀cl C s₃ H₃ fp,PE (wg X NB scope cl C s₃ H₃ fp) yC te)(hs:∀x,foldedSetIterable gI X.env x=pure x:=by intro _;rfl):PE X (.ListComp yC [⟨tg,gI,wj,0⟩] scope pos) (Ew src wi g tt te):=by
 intro ae s σ H Q I h;obtain⟨cl,zH,c1,c2⟩:=gj I.ok S;rw[eval_ListComp];refine wpAny_comprehension_free (use:=none) (cl:=cl) rfl hs zH S.kind S.names (cg (hi ae s σ H _ I h) fun v s1 h1=>cg h1 fun M4 s2 h2=>?_);obtain⟨it,fp,tn,J,H2,e,I2,T,qX,f2,hw⟩:=h2;subst e;refine mJ (RR:=fun dj C=>compPost (model X.prog X.w) X.A X.xe none (EP X ae σ Q) dj C) S hc c1 c2 hg ht he I2 T qX f2 hw fun D C H' s' fC I' hm q=>?_;obtain⟨m,hm⟩:=hm;refine⟨m,hm,fun h' sb=>⟨.ref D,H',?_,rfl,q⟩⟩;obtain⟨g0,g1,_,g3,g4,g5⟩:=fC;exact I'.turned (t':=s'.toks) (fun b o hb e=>(sb.2 b hb).trans e) g0 g1 g3 g4 g5
theorem dk{i:Nat}{y:Str}{py JK:Pos}(S:cI NB src scope X)(hc:X.calm=true)(hi:PI X tg gI wi)(hg:∀cl C s₃ H₃ fp,PG (wg X NB scope cl C s₃ H₃ fp) tg g)(ht:∀cl C s₃ H₃ fp,Iv (wg X NB scope cl C s₃ H₃ fp) wj tt)(he:∀cl C s₃ H₃ fp,PE (wg X NB scope cl C s₃ H₃ fp) yC te)(hN:X.N.Nodup)(Vq:X.N[i]?=some y)(hy:X.env.scope.names.lookup y=some .local)(Vr:swapsWith (.ListComp yC [⟨tg,gI,wj,0⟩] scope pos) (some (.Name y py)) JK.line X.env=pure true)(hs:∀x,foldedSetIterable gI X.env x=pure x:=by intro _;rfl):
  PS X (.Assign [.Name y py] (.ListComp yC [⟨tg,gI,wj,0⟩] scope pos) JK) (xp (Ew src wi g tt te) (bA i)):=by
 intro ae s σ H D0 I h;obtain⟨cl,zH,c1,c2⟩:=gj I.ok S;rw[exec_Assign_Name_used _ _ _ _ Vr];refine aq (ml (aq ?_));show wpAny _ X.A (do let _ <- comprehension (.ListComp yC [⟨tg,gI,wj,0⟩] scope pos) scope X.env _ (newList []) false (eval gI X.env) (some (assign (.Name y py) X.env))) _ _ s;refine aq (fj (wpAny_comprehension_free (use:=some (assign (.Name y py) X.env)) (Q:=fun _ s'=>SP X ae D0 .next s') (cl:=cl) rfl hs zH S.kind S.names
  (cg (hi ae s σ H _ I h) fun v s1 h1=>cg h1 fun M4 s2 h2=>?_)) (fun _ s' hq=>wpAny_pure (wpAny_pure hq)) fun _ _ e=>e)
 obtain⟨it,fp,tn,J,H2,e,I2,T,qX,f2,hw⟩:=h2;subst e;refine mJ (RR:=fun dj C=>compPost (model X.prog X.w) X.A X.xe (some (assign (.Name y py) X.env)) (fun _ s'=>SP X ae D0 .next s') dj C) S hc c1 c2 hg ht he I2 T qX f2 hw fun D C H' s' fC I' hm q=>?_;obtain⟨m,hm⟩:=hm;obtain⟨g0,g1,_,g3,g4,g5⟩:=fC;show wpAny _ X.A (assign (.Name y py) X.env (.ref D)) _ _ _;refine wpAny_assign_Name (iw I' hN Vq (.inl hy) (v:=.ref D) rfl (fun n_ Vs sb=>?_) (.inr hy));obtain⟨a,sb,ha⟩:=sb;have jQ:C≠a:=by
  rcases ha with z|z
  .rw[z];exact g1
  .exact fun z'=>g4 y a z z'.symm
 refine⟨m,hm.sameBut sb jQ,fun h' Vt=>⟨_,H',Vs.turned (t':=n_.toks) (fun b o hb e=>(Vt.2 b hb).trans e) g0 g1 g3 g4 g5,q⟩⟩
end
structure rN(P:Program)(w:World)(outer:List Env)(H:Hp)(s:Shared)(B:Heap)(p:Addr)(C a0:Value)(H':Hp)(s':Shared):Prop where
 os:s'.os=s.os
 bare:AllBare s'.gens
 aW:gZ P w H' B
 keep:∀b o,s.heap.get? b=some o->H b=none->b∉fS outer->B.get? b=some o/\H' b=none
 frame:∀b o,s.heap.get? b=some o->H b=none->b∈fS outer->(∃sl,s'.heap.get? b=some { o with slots:=sl })/\H' b=none
 there:∀b o,s.heap.get? b=some o->H b≠none->∃o',B.get? b=some o'
 d7:∀b xs,H b=some (.tup xs)->H' b=some (.tup xs)
 eJ:∀b o u,H b=some (.lh o u)->H' b=some (.lh o u)
 eS:∀b ps,H b=some (.de ps)->∃more,H' b=some (.de (ps++more))
 fl:Heap.FlyingW B outer p C a0 s'.heap
def jh(P:Program)(w:World):qZ:=fun outer H s E e s'=>∃p C a0 B H',e=.ref p/\rN P w outer H s B p C a0 H' s'/\E C none H'
section
variable {P:Program} {w:World} {K:PySem.W.Frag} {mg:Str->Option Value} {base:Heap} {N:List Str} {qual:Str} {scope:Scope} {f:Addr} {cd:Value} {A:Around} {outer:List Env} {s:Shared} {H:Hp} {E:XK}
abbrev OC(h:Heap)(l:List Env):Heap:=PySem.W.hideAll h (fS l)
theorem Cv{l:List Env}{H1:Hp}{h:Heap}(ok:gZ P w H1 h)(nf:∀b∈fS l,H1 b=none):gZ P w H1 (OC h l):=fun a o e=>by
 refine(ok a o e).iE (fun b u hb q=>pJ _ q fun z=>?_) (fun _ q=>q) fun _ _ q=>q;have n:=nf b z;rcases hb with rfl|hb
 .rw[n] at e;cases e
 .rw[n] at hb;cases hb
theorem rO{ae:List (Addr×Obj)}{σ:St}{H1:Hp}{s1:Shared}{h':Heap}{e:Addr}{C:Value}{vs:List Value}(I:av (gJ (jh P w) P w K mg base N qual scope f cd A outer s H E) ae σ H1 s1)(hx:Heap.MadeExcOf s1.heap h' e C vs)(q:E C none H1):
  (gJ (jh P w) P w K mg base N qual scope f cd A outer s H E).xe (.ref e) { s1 with heap:=h' }:=by
 have vV:fS (envOfC qual scope s.heap.objs.size f cd::outer)=s.heap.objs.size::fS outer:=rfl;have OD:=I.stack;refine wpAny_leaves_madeW (base:=OC s1.heap (envOfC qual scope s.heap.objs.size f cd::outer)) (h:=s1.heap) (L:=s.heap.objs.size) I.ok.frames rfl (fun b o z=>PySem.W.of_hideAll _ z)
  (PySem.W.funFrames_hide OD fun env he b hb=>lU.mpr ⟨env,he,hb⟩) hx fun h2 t x1 x2 x3 x4=>?_
 have Vu:∀b o,s1.heap.get? b=some o->b∉fS outer->b<s.heap.objs.size->(OC s1.heap (envOfC qual scope s.heap.objs.size f cd::outer)).get? b=some o:=fun b o z hb dB=>
  pJ _ z fun m=>by
   rw[vV] at m;rcases aR.mp m with z'|z'
   .exact absurd dB (by rw[z'];exact fh _)
   .exact hb z'
 refine⟨e,C,.ref t,_,H1,rfl,⟨I.os,I.bare,Cv I.aW I.fm,fun b o z n hb=>⟨Vu b o (I.base.keep b o z n hb (by intro m;exact absurd (show b∈([]:List Addr) from m) (by simp))) hb (bg z),I.base.free b o z n (by intro m;exact absurd (show b∈([]:List Addr) from m) (by simp))⟩,
  fun b o z n hb=>⟨?_,I.base.free b o z n (by intro m;exact absurd (show b∈([]:List Addr) from m) (by simp))⟩,fun b o z n=>?_,I.base.d7,I.base.eJ,I.base.eS,x1⟩,q⟩
 .obtain⟨sl,z1⟩:=I.base.slot b o z n hb (by intro m;exact absurd (show b∈([]:List Addr) from m) (by simp));obtain⟨_,o',nV,nd⟩:=I.ok.ge.mem hb;have e':o'=o:=bh (nV.symm.trans z);subst e';obtain⟨Cw,z2⟩:=x4 b _ (hx.keeps _ _ z1) nd;exact⟨Cw,z2⟩
 .have OE:b∉fS (envOfC qual scope s.heap.objs.size f cd::outer):=fun m=>by
   rw[vV] at m;rcases aR.mp m with z'|z'
   .exact absurd (bg z) (by rw[z'];exact fh _)
   .exact n (I.ok.xo b z')
  obtain⟨o',z1⟩:=I.base.there b o z (by intro m;exact absurd (show b∈([]:List Addr) from m) (by simp));exact⟨o',pJ _ z1 OE⟩
theorem Ex{E':XK}(hE:∀C d H',E' C d H'->E C d H'):gh (jh P w) (gJ (jh P w) P w K mg base N qual scope f cd A outer s H E) E':=by
 intro ae σ H1 s1 e s' I h;obtain⟨p,C,a0,B,H',rfl,F,q⟩:=h;have vV:fS (envOfC qual scope s.heap.objs.size f cd::outer)=s.heap.objs.size::fS outer:=rfl;have fT:∀b:Addr,b∉(gJ (jh P w) P w K mg base N qual scope f cd A outer s H E).ex:=fun b m=>absurd (show b∈([]:List Addr) from m) (by simp);have JM:∀b o,s.heap.get? b=some o->b∉fS outer->b∉fS (gJ (jh P w) P w K mg base N qual scope f cd A outer s H E).stack:=fun b o z hb m=>by
  have m':b∈s.heap.objs.size::fS outer:=m;rcases aR.mp m' with z'|z'
  .exact absurd (bg z) (by rw[z'];exact fh _)
  .exact hb z'
 show wpAny _ _ (leaving (envOfC qual scope s.heap.objs.size f cd) (.ref p)) _ _ s';refine wpAny_leaves_onW (outer:=outer) (L:=s.heap.objs.size) I.ok.frames rfl F.fl fun h2 x1 x2=>?_;refine⟨p,C,a0,B,H',rfl,⟨F.os.trans I.os,F.bare,F.aW,fun b o z n hb=>?_,fun b o z n hb=>?_,fun b o z n=>?_,fun b xs z=>F.d7 b xs (I.base.d7 b xs z),fun b o u z=>F.eJ b o u (I.base.eJ b o u z),fun b ps z=>?_,x1⟩,hE _ _ _ q⟩
 .exact F.keep b o (I.base.keep b o z n hb (fT b)) (I.base.free b o z n (fT b)) (JM b o z hb)
 .obtain⟨sl,z1⟩:=I.base.slot b o z n hb (fT b);have iP:b∈fS (gJ (jh P w) P w K mg base N qual scope f cd A outer s H E).stack:=bS _ hb;obtain⟨⟨Cw,z2⟩,n2⟩:=F.frame b _ z1 (I.base.free b o z n (fT b)) iP;obtain⟨_,o',nV,nd⟩:=I.ok.ge.mem hb;have e':o'=o:=bh (nV.symm.trans z);subst e';obtain⟨OF,z3⟩:=x2 b _ z2 nd;exact⟨⟨OF,z3⟩,n2⟩
 .obtain⟨o',z1⟩:=I.base.there b o z (fT b);have xA:b∉fS outer:=fun m=>n (I.ok.xo b m);cases n1:H1 b with
  |none=>exact⟨o',(F.keep b o' z1 n1 (JM b o z xA)).1⟩
  |some u=>exact F.there b o' z1 (by rw[n1];intro z';cases z')
 .obtain⟨m1,z1⟩:=I.base.eS b ps z;obtain⟨m2,z2⟩:=F.eS b _ z1;exact⟨m1++m2,by rw[z2,uh]⟩
end
open PySem PySem.Spec PyProof.Rows PySem.W
abbrev Vv:List Value:=[.type "ValueError",.type "Exception",.type "BaseException",.type "object"]
structure jA(K:PySem.W.Frag)(C:Addr):Prop where
 ex:PySem.W.excIn K C Vv "ValueError.__new__"=true
 kp:PySem.W.keepIn K (.ref C)=true
 ga:PySem.W.findIn K (.ref C) "__getattribute__"=some (some (.builtin "BaseException.__getattribute__"))
 gt:PySem.W.findIn K (.ref C) "__getattr__"=some none
 cl:PySem.W.findIn K (.ref C) "__class__"=some (some (.builtin "object.__class__"))
 mo:PySem.W.mroIn K C (.type "object")=some true
 mb:PySem.W.mroIn K C (.type "BaseException")=some true
 ty:(PySem.W.clsIn K C).isSome=true
theorem rP{K:PySem.W.Frag}{h:Heap}{C:Addr}{Tn:List Value}{Ey:String}(X:K.In h)(q:PySem.W.excIn K C Tn Ey=true):
  ∃bm N nm qn bs hdct sn sub ab col dd k0 k1 k2 k3 k5 mN,h.get? C=some (excClassObj nm qn C N bs bm hdct sn sub ab col dd k0 k1 k2 k3 k5 Ey)/\h.Ns N mN/\mN "__init__"=none/\OwnTail h Tn bm:=by
 unfold PySem.W.excIn at q;split at q
 .rename_i dd cd sl ho;split at q
  .rename_i C' bm k0 k1 k2 k3 n k5 hm hs;simp only[fg,eQ,Bool.not_eq_true'] at q;obtain⟨⟨⟨⟨⟨rfl,rfl⟩,JN⟩,ht⟩,aW⟩,JO⟩:=q;obtain⟨nm,bs,mro,ns,qn,hd,sn,sub,ab,col,Yi⟩:=cd;dsimp only at hm JN aW JO;subst hm JN;have Iw:sl=#[k0,k1,k2,k3,some (.builtin n),k5]:=by
    obtain⟨l⟩:=sl;simp only at hs;rw[hs]
   subst Iw;exact⟨bm,ns,nm,qn,bs,hd,sn,sub,ab,col,dd,k0,k1,k2,k3,k5,_,X _ _ ho,.of_isNs (isNs_of_in X aW),nsMap_none_of_in X aW JO,tail_of_in X ht⟩
  .cases q
 .cases q
def Ez(p:Addr)(C:Value)(h:Heap):Prop:=∃o,h.get? p=some o/\o.cls=C
abbrev oj(p:Addr)(C:Value):HO:=.ext (Ez p C)
theorem Ez.ok{P:Program}{w:World}{H:Hp}{h:Heap}{p:Addr}{C:Value}(x:Ez p C h):bX P w H h p (oj p C):=
 ⟨x,(let ⟨o,e,_⟩:=x;⟨o,e⟩),fun h1 h2 ⟨o,e,r⟩ k=>⟨o,k o e,r⟩⟩
theorem bX.get(x:bX P w H h a o):∃u,h.get? a=some u:=by
 cases o with
 |lst xs=>obtain⟨_,_,_,_,e⟩:=x;exact⟨_,e⟩
 |tup xs=>obtain⟨_,_,_,ob,e,_⟩:=x;exact⟨_,e⟩
 |dK jq=>obtain⟨_,_,_,_,o,_,_,e,_⟩:=x;exact⟨_,e⟩
 |dT jq=>obtain⟨_,_,_,_,o,_,_,e,_⟩:=x;exact⟨_,e⟩
 |set S n=>obtain⟨o,_,_,_,e,_⟩:=x;exact⟨_,e⟩
 |ins C dx fs=>obtain⟨_,_,_,e,_⟩:=x;exact⟨_,e⟩
 |own y=>exact x
 |xd fs=>obtain⟨_,⟨_,_,_,e,_⟩,_⟩:=x;exact⟨_,e⟩
 |MV lo hi=>obtain⟨_,_,_,e⟩:=x;exact⟨_,e⟩
 |lh ob u=>obtain⟨e,_⟩:=x;exact⟨_,e⟩
 |de ps=>exact⟨_,(show h.get? a=some _ from x)⟩
 |met f y=>exact⟨_,(show h.get? a=some _ from x)⟩
 |ext φ=>exact x.2.1
theorem gZ.mK(x:gZ P w H h)(e:h.get? a=none):H a=none:=by
 cases q:H a with
 |none=>rfl
 |some u=>obtain⟨o,z⟩:=(x a u q).get;rw[e] at z;cases z
theorem av.EA(I:av X ae σ H s)(k:∀b u,s.heap.get? b=some u->h'.get? b=some u)(hp:s.heap.get? a=none)(new:bX X.prog X.w (upd H a o) h' a o):
  av X ae σ (upd H a o) { s with heap:=h',toks:=t' }:=by
 have hn:=I.aW.mK hp;have ne:∀b u,s.heap.get? b=some u->b≠a:=fun b u e z=>by rw[z,hp] at e;cases e
 refine I.un ⟨fun b u e _ _ _=>k b u e,fun b u e _ _ _=>⟨u.slots,k b u e⟩,fun b u e n _=>by rw[ah (ne b u e)];exact n,fun b u e _=>⟨u,k b u e⟩,fun b xs e=>by rw[ah (ai e hn)];exact e,fun b u v e=>by rw[ah (ai e hn)];exact e,fun b ps e=>⟨#[],by rw[ah (ai e hn),e];simp⟩⟩ fun b u e=>?_;by_cases hb:b=a
 .subst hb;rw[af] at e;cases e;exact new
 .rw[ah hb] at e;exact(I.aW b u e).iE (fun c v _ q=>k c v q) (fun c q=>by rw[ah (ai q hn)];exact q) fun c xs q=>by rw[ah (ai q hn)];exact q
section
variable {prog:Program} {w:World} {A:Around} {E:Value->Shared->Prop} {s:Shared} {K:PySem.W.Frag} {x C:Addr} {ox:Obj}
theorem wm(hx:h.get? x=some ox)(hc:ox.cls=.ref C):PySem.W.Looks M h (typeOf (.ref x)) (.ref C):=hc ▸ (PySem.W.Looks.ld hx).andThen .now
open Builtin Builtin.ObjectAttr Builtin.Getset_descriptor in
theorem u5(X:K.In s.heap)(hx:s.heap.get? x=some ox)(hc:ox.cls=.ref C)(hm:PySem.W.mroIn K C (.type "object")=some true)(h:R (.ok (.ret (.ref C))) s):codeAny (model prog w) A (.call (.builtin "getset_descriptor.__get__") ⟨[.builtin "object.__class__",.ref x,tp],[]⟩) R s:=by
 obtain⟨hh,g,dr,t,os⟩:=s;have L0:=wm (M:=model prog w) hx hc;have L1:=looks_mroIn (M:=model prog w) X hm;refine pK KF.slot_gs.plain KF.entry_gs (KF.slot_gs.check _ _ _ _ _ _ _ _ KF.type_class (KF.args_gs _ _ _) ?_);unfold Builtin.«getset_descriptor.__get__» descrGet;rw[dga_obj];refine aq (wpAny_pure ?_);unfold descrGetter descrCheckInstance descrNameAndClass isInstance;simp only[KF.owner_class];repeat lk
 refine⟨Code.quiet_builtin _ (by decide +kernel),pV KF.entry_class ?_⟩;unfold Builtin.«object.__class__» shownTypeOf;repeat lk
 exact h
theorem rQ{M:Model}{D:Addr}{b:Bool}{Q:Bool->Shared->Prop}{h:Heap}{g d t os}(X:K.In h)(TD:jA K D)(hx:h.get? x=some ox)(hc:ox.cls=.ref C)(sub:PySem.W.subIn K (.ref C) (.ref D)=some b)(hq:Q b ⟨h,g,d,t,os⟩):
  wpAny M A (excMatches (.ref x) (.ref D)) Q E ⟨h,g,d,t,os⟩:=by
 obtain⟨bm,N,nm,qn,bs,hdct,sn,Vw,ab,col,dd,k0,k1,k2,k3,k5,mN,hC,hN,JO,TL⟩:=rP X TD.ex;have Vx:(Value.ref D::bm).contains (.type "BaseException")=true:=by rw[List.contains_cons,TL.hasType tH.hasBase,Bool.or_true]
 have L1:=looks_subIn (M:=M) X sub;have f:=tc_notTuple;unfold excMatches;repeat (first|(with_reducible refine l9 hx ?_;rw[hc])|with_reducible refine l9 hC ?_|with_reducible refine L1.at ?_|(with_reducible refine wpAny_isSubtype_exc hC ?_;rw[Vx])|wp_step)
 cases b
 .repeat (first|exact hq|wp_step)
 .repeat (first|exact hq|wp_step)
theorem xG{g d t os}(T:jA K C)(X:K.In h)(hx:h.get? x=some ox)(hc:ox.cls=.ref C)(hq:Q (.done (.ret (.ref C))) ⟨h,g,d,t,os⟩):
  wpAny (model prog w) A (Builtin.«object.__getattribute__» ⟨[.ref x,.str "__class__" tk],[]⟩) Q E ⟨h,g,d,t,os⟩:=by
 have f5:=F.typeOf_bexc_args;have Yj:(⟨h,g,d,t,os⟩:Shared).TypeIs (.builtin "object.__class__") "getset_descriptor":=yN;have Yk:=yN;have f6:=F.slot_gs_get.lookup;have f7:=F.slot_gs_set.lookup;have L1:=looks_findIn (M:=model prog w) X T.cl;repeat (any_goals (first|assumption|(with_reducible refine l9 hx ?_;rw[hc])|with_reducible refine L1.at ?_|wp_step))
 refine u5 (s:=⟨h,g,d,t,os⟩) X hx hc T.mo ?_;repeat (any_goals (first|assumption|wp_step))
theorem xH{g d t os}(T:jA K C)(X:K.In h)(hx:h.get? x=some ox)(hc:ox.cls=.ref C)(hq:Q () ⟨h,g,d,t,os⟩):
  wpAny M A (checkBuiltinCall "BaseException.__getattribute__" ⟨[.ref x,JP],[]⟩) Q E ⟨h,g,d,t,os⟩:=by
 have hk:builtinKind "BaseException.__getattribute__"=some .slot:=by decide +kernel
 have FS:splitId "BaseException.__getattribute__"=some ("BaseException","__getattribute__"):=by decide +kernel
 have ha:=F.args_bexc_ga (.ref x) JP;have L1:=looks_mroIn (M:=M) X T.mb;simp only[checkBuiltinCall,hk,FS];refine aq ?_
 .unfold isInstance;repeat (first|(with_reducible refine l9 hx ?_;rw[hc])|with_reducible refine L1.at ?_|wp_step)
  exact hq
theorem FT{tk:Tok}{fill Cb:Bool}{Q:Value->Shared->Prop}{h:Heap}{g d t os}(T:jA K C)(X:K.In h)(hx:h.get? x=some ox)(hc:ox.cls=.ref C)(hq:Q (.ref C) ⟨h,g,d,t,os⟩):
  wpAny (model prog w) A (getAttrBy (.ref x) (.str "__class__" tk) fill Cb) Q E ⟨h,g,d,t,os⟩:=by
 have f3:=F.attr_ValueError.ga.bind (.ref x);have Yl:(Cb&&onTheHeap (Value.builtin "BaseException.__getattribute__"))=false:=by cases Cb <;> rfl
 have Vy:(Value.builtin "BaseException.__getattribute__"==Value.builtin "object.__getattribute__")=false:=by decide +kernel
 have Ym:(onTheHeap (Value.ref C)&&Value.builtin "BaseException.__getattribute__"==Value.builtin "object.__getattribute__")=false:=by rw[Vy];rfl
 have L1:=looks_findIn (M:=model prog w) X T.ga;have L2:=looks_findIn (M:=model prog w) X T.gt;repeat (any_goals (first|assumption|(with_reducible refine l9 hx ?_;rw[hc])|with_reducible refine L1.at ?_|with_reducible refine L2.at ?_|wp_step))
 refine pK F.attr_ValueError.ga.plain F.entry_bexc_ga (xH T X hx hc (xG T X hx hc ?_));repeat (any_goals (first|assumption|wp_step))
theorem zI{Q:Option Value->Shared->Prop}{h:Heap}{g d t os}(T:jA K C)(X:K.In h)(hx:h.get? x=some ox)(hc:ox.cls=.ref C)(hq:Q (some (.ref C)) ⟨h,g,d,t+1,os⟩):
  wpAny (model prog w) A (getAttr? (.ref x) "__class__") Q E ⟨h,g,d,t,os⟩:=by
 unfold getAttr?;repeat (any_goals (first|assumption|with_reducible apply FT T X hx hc|wp_step))
theorem mL(T:jA K C):PySem.W.KitX K (.ref x) (.ref C) (Ez x (.ref C)) where
 ty:=fun _ _ _ ⟨o,e,c⟩=>wm e c
 it:=fun _ _ X _=>by
  obtain⟨Vz,Ce⟩:=tQ.mp T.ty;unfold clsIn at Ce;split at Ce
  .rename_i c' d' VA N7 ho;intro A' Q' E' s' k q;unfold isType loadHead;exact aq (wpAny_loadPart (k _ _ (X _ _ ho)) (wpAny_pure q))
  .cases Ce
 ne:=fun h tp dd its n sl X VB=>by
  obtain⟨Vz,Ce⟩:=tQ.mp T.ty;refine Bool.eq_false_iff.mpr fun q=>?_;have e:C=tp:=Value.ref.inj (eQ.mp q);subst e;unfold clsIn at Ce;split at Ce
  .rename_i c' d' VA N7 ho;have z:=(X _ _ ho).symm.trans VB;cases z
  .cases Ce
 ca:=fun {_ _ _ _ _ s} X ⟨o,e,c⟩ k=>by
  obtain⟨h,g,d,t,os⟩:=s;exact zI T X e c k
end
section
variable {X:Cx}
inductive qg (K:PySem.W.Frag) (H:Hp):V->Value->Prop where
 |of {v:V} {t:Value} (h:kg K H v t):qg K H v t
 |exc {p C:Addr} (T:jA K C) (e:H p=some (oj p (.ref C))):qg K H (.ref p) (.ref C)
def JQ(K:PySem.W.Frag):List V->Hp->VK->Prop:=fun xs H Q=>∃x c cv t b,xs=[x,c]/\(c=.ty cv/\PySem.W.kitOne K t (.type cv)=some b)/\qg K H x t/\Q (.bl b) H
theorem eV:dE X (.builtin "isinstance") (JQ X.K):=by
 intro ae s σ H xs us Q I r h;obtain⟨x,c,cv,t,b,rfl,⟨rfl,e⟩,ty,q⟩:=h;obtain⟨u1,u2,rfl,r1,r2⟩:=r.two;obtain rfl:u2=Value.type cv:=r2;cases ty with
 |of ty=>exact oM I r1 ty e fun tk=>⟨.bl b,H,I.tok tk,rfl,q⟩
 |@exc p C T ea=>
  obtain rfl:u1=Value.ref p:=r1;have p1:Ez p (.ref C) s.heap:=(I.aW p _ ea).1;exact fN (mL T) I.iN p1 e (fun z=>nomatch z) fun tk=>⟨.bl b,H,I.tok tk,rfl,q⟩
def zJ(K:PySem.W.Frag):List V->Hp->VK->Prop:=fun xs H Q=>∃x c t b,xs=[x,.ref c]/\PySem.W.kitOne K t (.ref c)=some b/\qg K H x t/\Q (.bl b) H
theorem cx:dE X (.builtin "isinstance") (zJ X.K):=by
 intro ae s σ H xs us Q I r h;obtain⟨x,c,t,b,rfl,e,ty,q⟩:=h;obtain⟨u1,u2,rfl,r1,r2⟩:=r.two;obtain rfl:u2=Value.ref c:=r2;cases ty with
 |of ty=>exact oM I r1 ty e fun tk=>⟨.bl b,H,I.tok tk,rfl,q⟩
 |@exc p C T ea=>
  obtain rfl:u1=Value.ref p:=r1;have p1:Ez p (.ref C) s.heap:=(I.aW p _ ea).1;exact fN (mL T) I.iN p1 e (fun z=>nomatch z) fun tk=>⟨.bl b,H,I.tok tk,rfl,q⟩
end
section
variable {X:Cx} {x:Str} {C:Addr} {np ll pos:Pos} {e:Expr} {es:List Expr} {t:TA}
def FU(q:Hp->Prop)(t:TA):TS:=fun _ σ H=>t σ H fun vs H1=>vs.length<=sizeLine/\q H1
theorem rR{q:Hp->Prop}(hc:X.calm=true)(T:jA X.K C)(hg:Gl X x)(hm:X.mg x=some (.ref C))(ha:PA X (e::es) t)(VC:∀ (ae:List (Addr×Obj)) (σ:St) (H1:Hp) (s1:Shared) (h':Heap) (p:Addr) (vs:List Value),av X ae σ H1 s1->Heap.MadeExcOf s1.heap h' p (.ref C) vs->q H1->X.xe (.ref p) { s1 with heap:=h' })(n9:(x==("__debug__":Str))=false:=by decide)(he:starEach (e::es) X.env=(false,eval e X.env)::starEach es X.env:=by rfl)(tq:(backTo ll (starEach (e::es) X.env)).any (·.1)=false:=by rfl):
  PS X (.Raise (some (.Call (.Name x np) (e::es) [] ll)) none pos) (FU q t):=by
 intro ae s σ H D I h;obtain⟨bm,N,nm,qn,bs,hdct,sn,sub,ab,col,dd,k0,k1,k2,k3,k5,mN,hC,hN,JO,TL⟩:=rP I.ok.mod.Ek T.ex;refine wpAny_Raise_call_subT (C:=C) (nm:=nm) (q:=qn) (N:=N) (bs:=bs) (bm:=bm) (hdct:=hdct) (sn:=sn) (sub:=sub) (ab:=ab) (col:=col) (dd:=dd) (k0:=k0) (k1:=k1) (k2:=k2) (k3:=k3) (k5:=k5)
  tH (mN:=mN) (TL.hasType tH.hasBase) (I.ok.hd hc) tq JO (ix I hg hm ⟨rfl,?_⟩ n9)
 have h1:=ha ll ae s σ H _ I h;rw[he] at h1 |-;exact Calls.evalArgs_plain (fj h1 (fun us s2 ⟨vs,H2,I2,r,hl,z⟩=>⟨rfl,(by show us.length<=sizeLine;rw[<-r.length];exact hl),I2.bk _ _ hC,hN.keeps I2.bk,TL.keeps I2.bk,fun h' p m=>VC ae σ H2 s2 h' p us I2 m z⟩) fun _ _ y=>y)
end
def lG(CX:qZ)(X:Cx)(E:St->XK):Prop:=∀ (ae:List (Addr×Obj)) (σ:St) (H:Hp) (s:Shared) (e:Value) (s':Shared),av X ae σ H s->CX X.stack H s (E σ) e s'->X.xe e s'
section
variable {X:Cx} {CX:qZ} {k:Nat} {f C:Addr} {fd:FuncData} {ps:List Str} {sp:Sp} {n8:List V} {ds:List Value} {E:St->XK} {x m:Str} {p pos p_:Pos} {e o:Expr} {es:List Expr} {ta:TE} {t:TA}
end
section
variable {X:Cx} {CX:qZ} {k:Nat} {f:Addr} {fd:FuncData} {ps:List Str} {sp:Sp} {n8:List V} {ds:List Value} {E:XK} {x:Str} {p pos:Pos} {e:Expr} {es:List Expr} {t:TA}
end
section
variable {P:Program} {w:World} {K:PySem.W.Frag} {mg:Str->Option Value} {base:Heap}
theorem fJ.M_{x qual:Str}{st:Stmt}{f:Addr}{fd:FuncData}{N ps:List Str}{k:Nat}{sp:Sp}(F:fJ K x qual st f fd)(S:aE N ps (al st))(len:∀vs H Q E,sp vs H Q E->vs.length=ps.length)(mE:∀ (dg:Value) (A:Around) (outer:List Env) (s:Shared) (H:Hp) (vs:List V) (Q:VK) (E:XK),bQ k (A.deeper (envOfC qual (al st) s.heap.objs.size f dg))->sp vs H Q E->
   ∃t,oE (gJ (jh P w) P w K mg base N qual (al st) f dg A outer s H E) (aX st) t/\t { nx:=fun _ H'=>Q .bH H',rt:=Q } (start N vs) H):a9 P w K mg base (jh P w) (k+1) f fd ps sp:=by
 obtain⟨oc,od,kV,jg,pm,an,dg,ct,q0,rfl,lk,nW⟩:=F.ex;exact zz lk nW S len fun A outer s H vs Q E hr yB=>mE dg A outer s H vs Q E hr yB
end
abbrev Cx.eB(X:Cx)(pn:List (Addr×Obj))(xe:Value->Shared->Prop):Cx:={ X with pn:=pn,xe:=xe }
abbrev Cx.dF(X:Cx)(pn:List (Addr×Obj))(p:Addr):Cx:={ X with pn:=pn,xe:=fun _ _=>False,calm:=false,A:=X.A.mark (some (.ref p)) }
theorem Cx.Ok.eB{X:Cx}(ok:X.Ok)(pn:List (Addr×Obj))(xe:Value->Shared->Prop):(X.eB pn xe).Ok:=
 ⟨ok.mod,ok.kind,ok.glob,ok.blt,ok.above,ok.inj,ok.has,ok.B6,ok.hd,ok.frames,ok.vV,ok.Ip,ok.bs,ok.tf,ok.fT,ok.uE,ok.ge,ok.xo⟩
theorem Cx.Ok.dF{X:Cx}(ok:X.Ok)(pn:List (Addr×Obj))(p:Addr):(X.dF pn p).Ok:=
 ⟨ok.mod,ok.kind,ok.glob,ok.blt,ok.above,ok.inj,ok.has,ok.B6,fun z=>absurd (show false=true from z) (by decide),ok.frames,ok.vV,ok.Ip,ok.bs,ok.tf,ok.fT,ok.uE,ok.ge,ok.xo⟩
section
variable {X:Cx} {ae:List (Addr×Obj)} {σ:St} {H:Hp} {s:Shared}
theorem av.eB(I:av X ae σ H s)(xe:Value->Shared->Prop):av (X.eB (X.pn++ae) xe) [] σ H s:=
 ⟨I.ok.eB _ _,I.os,I.bare,I.base,I.loc,I.cell,I.free,I.dR,fun p hp=>I.pin p (by simpa using hp),I.aW,I.len⟩
theorem av.jB{pins':List (Addr×Obj)}{xe:Value->Shared->Prop}(ok:X.Ok)(I:av (X.eB (X.pn++ae) xe) pins' σ H s):av X ae σ H s:=
 ⟨ok,I.os,I.bare,I.base,I.loc,I.cell,I.free,I.dR,fun p hp=>I.pin p (fK _ hp),I.aW,I.len⟩
theorem av.u6{pins':List (Addr×Obj)}{p:Addr}(ok:X.Ok)(I:av (X.dF (X.pn++ae) p) pins' σ H s):av X ae σ H s:=
 ⟨ok,I.os,I.bare,I.base,I.loc,I.cell,I.free,I.dR,fun p hp=>I.pin p (fK _ hp),I.aW,I.len⟩
theorem qh{xe:Value->Shared->Prop}{pins':List (Addr×Obj)}{B h6:Heap}{p:Addr}{C a0:Value}{H':Hp}{s':Shared}(ok:X.Ok)(I:av (X.eB (X.pn++ae) xe) pins' σ H s)(F:rN X.prog X.w X.stack H s B p C a0 H' s')(fl:Heap.FlyingW B X.stack p C a0 h6)(sm:s'.heap.UpToSlots h6):
  H' p=none/\av (X.dF (X.pn++ae) p) [] σ (upd H' p (oj p C)) { s' with heap:=h6 }:=by
 have hp:H' p=none:=F.aW.mK fl.2.1;have OE:∀b∈fS X.stack,b≠p:=fun b hb z=>by
  obtain⟨_,o,ho,nd⟩:=fl.2.2.1.mem hb;obtain⟨oe,vs,_,_,_,he,_,hd,_⟩:=fl.2.2.2;rw[z] at ho;have e:o=oe:=bh (ho.symm.trans he);rw[e] at nd;exact nd vs hd
 have ne:∀b o,s.heap.get? b=some o->H b=none->b≠p:=fun b o e n z=>by
  by_cases hb:b∈fS X.stack
  .exact OE b hb z
  .have q:=(F.keep b o e n hb).1;rw[z,fl.2.1] at q;cases q
 have neT:∀ {b:Addr} {u:HO},H' b=some u->b≠p:=fun {b u} e z=>by rw[z,hp] at e;cases e
 have U:Un (fS X.stack) [] H (upd H' p (oj p C)) s.heap h6:={
  keep:=fun b o e n hb _=>fl.1 _ _ (F.keep b o e n hb).1
  slot:=fun b o e n hb _=>by
   obtain⟨⟨sl,q⟩,_⟩:=F.frame b o e n hb;obtain⟨_,o',nV,nd⟩:=F.fl.2.2.1.mem hb;have e':o'={ o with slots:=sl }:=bh (nV.symm.trans q);obtain⟨Cw,q2⟩:=sm b o' nV nd;rw[e'] at q2;exact⟨Cw,q2⟩
  free:=fun b o e n _=>by
   rw[ah (ne b o e n)];by_cases hb:b∈fS X.stack
   .exact(F.frame b o e n hb).2
   .exact(F.keep b o e n hb).2
  there:=fun b o e _=>by
   cases n:H b with
   |none=>
    by_cases hb:b∈fS X.stack
    .obtain⟨_,o',nV,nd⟩:=fl.2.2.1.mem hb;exact⟨o',nV⟩
    .exact⟨o,fl.1 _ _ (F.keep b o e n hb).1⟩
   |some u=>
    obtain⟨o',q⟩:=F.there b o e (by rw[n];intro z;cases z);exact⟨o',fl.1 _ _ q⟩
  d7:=fun b xs e=>by rw[ah (neT (F.d7 b xs e))];exact F.d7 b xs e
  eJ:=fun b o u e=>by rw[ah (neT (F.eJ b o u e))];exact F.eJ b o u e
  eS:=fun b ps e=>by
   obtain⟨m,q⟩:=F.eS b ps e;exact⟨m,by rw[ah (neT q)];exact q⟩ }
 have aW:gZ X.prog X.w (upd H' p (oj p C)) h6:=fun b u e=>by
  by_cases hb:b=p
  .subst hb;rw[af] at e;cases e;obtain⟨o,q,c⟩:=fl.there;exact Ez.ok ⟨o,q,c⟩
  .rw[ah hb] at e;exact(F.aW b u e).iE (fun c v _ q=>fl.1 c v q) (fun c q=>by rw[ah (neT q)];exact q) fun c xs q=>by rw[ah (neT q)];exact q
 have J:=I.vY (s':={ s' with heap:=h6 }) (ch:=[]) F.os U aW F.bare fun b z=>absurd z (by simp);exact⟨hp,⟨ok.dF _ _,J.os,J.bare,J.base,J.loc,J.cell,J.free,J.dR,fun q hq=>J.pin q (fK _ (by simpa using hq)),J.aW,J.len⟩⟩
end
def JR(K:PySem.W.Frag)(Dc:Addr)(i:Nat)(E:St->XK)(tb th:TS):TS:=fun D σ H=>tb D σ H/\∀σ' C H',E σ' C none H'->PySem.W.subIn K C (.ref Dc)=some true/\(∃Cc,C=.ref Cc)/\
 ∀p,H' p=none->th { nx:=fun σ2 H2=>D.nx (σ2.set i none) H2,rt:=D.rt,bk:=fun σ2 H2=>D.bk (σ2.set i none) H2,ct:=fun σ2 H2=>D.ct (σ2.set i none) H2 } (σ'.set i (some (.ref p))) (upd H' p (oj p C))
theorem FV{X:Cx}{body rS:List Stmt}{b₀:Stmt}{x n:Str}{np Cy pos:Pos}{Dc:Addr}{i:Nat}{E:St->XK}{tb th:TS}(TD:jA X.K Dc)(hg:Gl X x)(hm:X.mg x=some (.ref Dc))(hU:X.stack=X.env::X.outer)(OG:X.env.frame=some X.env.locals)(hN:X.N.Nodup)(hi:X.N[i]?=some n)(hn:X.env.scope.names.lookup n=some .local)(hb:∀pn xe,lG (jh X.prog X.w) (X.eB pn xe) E->oE (X.eB pn xe) body tb)(hh:∀pn p,oE (X.dF pn p) (b₀::rS) th)(n9:(x==("__debug__":Str))=false:=by decide):
  PS X (.Try body [.ExceptHandler (some (.Name x np)) (some n) (b₀::rS) Cy] [] [] pos) (JR X.K Dc i E tb th):=by
 intro ae s σ H D I h;obtain⟨h1,h2⟩:=h;refine wpAny_Try_except ?_;have Fo:(X.env.scope.kind==.class||(X.env.scope.kind==.module&&X.env.locals != X.env.globals))=false:=by rw[I.ok.kind];rfl
 refine fj (hb (X.pn++ae) _ ?_ [] s σ H D (I.eB _) h1) (fun f s1 q=>?_) fun e s1 q=>q
 .-- an exception has VD
  intro To σ1 H1 s1 e s' I1 VE;obtain⟨p,C,a0,B,H',rfl,F,q⟩:=VE;obtain⟨OH,⟨Cc,VF⟩,VG⟩:=h2 σ1 C H' q;subst VF;have F':rN X.prog X.w X.stack H1 s1 B p (.ref Cc) a0 H' s':=F;have Tp:=F'.fl;rw[hU] at Tp;refine wpAny_looks_onW (by rw[I.ok.frames,hU]) OG Tp fun h4 JS BQ=>?_;refine wpAny_landsW JS fun h5 OI Na=>?_;have EB:∀b o,X.base.get? b=some o->h5.get? b=some o:=fun b o e=>by
   obtain⟨e1,n1⟩:=I1.bs b o e;refine OI.1 _ _ (F'.keep b o e1 n1 fun z=>?_).1;have:=(I1.stack.mem z).1;rw[e] at this;cases this
  have OJ:X.K.In h5:=I.ok.mod.Ek.keeps EB;obtain⟨oe,VH,En⟩:=OI.there;refine wpAny_handleBy_cons (codeAny_handlers_test (tT I.ok.kind hg (Calls.loadGlobal_global (by rw[I.ok.glob];exact I.ok.mod.glob.keeps EB) hm ?_) n9)) (by intro z;cases z);refine rQ (K:=X.K) OJ TD VH En OH ?_;show codeAny _ _ _ _ _;refine codeAny_handlers_suite_as ?_;refine lands_againW OI fun h6 VI zK=>?_;have OK:Heap.FlyingW B X.stack p (.ref Cc) a0 h6:=by rw[hU];exact VI
  obtain⟨hp,IH⟩:=qh I.ok I1 F' OK ((BQ.trans Na).trans zK);refine iw (X:=X.dF (X.pn++ae) p) IH hN hi (.inl hn) (v:=.ref p) rfl (fun s7 I7 _=>?_) (.inr hn);refine fj (hh _ p [] s7 _ _ _ I7 (VG p hp)) (fun f s8 q8=>?_) fun _ _ z=>z.elim;have Cz:∀ {σ2:St} {H2:Hp} {Q:Unit->Shared->Prop},av (X.dF (X.pn++ae) p) [] σ2 H2 s8->(∀s9,av X ae (σ2.set i none) H2 s9->Q () s9)->
    wpAny (model X.prog X.w) X.A (do bindName X.env n .none;unbindBehindTheSuite X.env n Cy) Q X.xe s8:=fun {σ2 H2 Q} I8 k=>by
   have VJ:av X ae σ2 H2 s8:=I8.u6 I.ok;refine aq (wpAny_bindName (iw VJ hN hi (.inl hn) (v:=.bH) rfl (fun s9 I9 _=>?_) (.inr hn)));obtain⟨m,Tq,Tr⟩:=I9.loc;have hiσ:i<(σ2.set i (some V.bH)).length:=by rw[I9.len];exact(dD.mp hi).1
   have hiσ2:i<σ2.length:=by simpa using hiσ
   obtain⟨u,ru,lk⟩:=Tr i n .bH hi (by rw[kM hiσ2]) (.inl hn);have VL:m n=some u:=by
    rcases lk with ⟨_,z⟩|⟨hk,_⟩
    .exact z
    .have BP:X.env.scope.names.lookup n=some .cell\/X.env.scope.names.lookup n=some .free:=hk;rw[hn] at BP;rcases BP with z|z <;> cases z
   unfold unbindBehindTheSuite;refine wpAny_onRaise (wpAny_unbindName_local hn Tq VL Fo fun h' uu M1 sb=>k _ ?_);obtain⟨oL,_,_,vX,_⟩:=id Tq;have aW:gZ X.prog X.w H2 h':=fun b ob e=>by
    refine(I9.aW b ob e).iE (fun c w' hc q=>(sb.2 c ?_).trans q) (fun _ q=>q) fun _ _ q=>q;rintro rfl;rcases hc with rfl|hc
    .rw[I9.free] at e;cases e
    .rw[I9.free] at hc;cases hc
   have nL:∀b o,X.s₀.heap.get? b=some o->b≠X.env.locals:=fun b o e=>bf (bK (bg e) I9.ok.above);refine⟨I9.ok,I9.os,I9.bare,⟨fun b o e n' hb hx=>(sb.2 b (nL b o e)).trans (I9.base.keep b o e n' hb hx),fun b o e n' hb hx=>?_,I9.base.free,fun b o e hx=>?_,I9.base.d7,I9.base.eJ,I9.base.eS⟩,⟨_,M1,fun j y v e1 e2 e3=>?_⟩,fun y c e=>?_,I9.free,I9.dR,fun q hq=>?_,aW,by simpa using I9.len⟩
   .obtain⟨sl,e1⟩:=I9.base.slot b o e n' hb hx;exact⟨sl,(sb.2 b (nL b o e)).trans e1⟩
   .obtain⟨o',e1⟩:=I9.base.there b o e hx;exact⟨o',(sb.2 b (nL b o e)).trans e1⟩
   .by_cases hj:j=i
    .subst hj;rw[kM hiσ2] at e2;cases e2
    .rw[lS (ei hj)] at e2;obtain⟨u',r',l'⟩:=Tr j y v e1 (by rw[lS (ei hj)];exact e2) e3;refine⟨u',r',?_⟩;rcases l' with ⟨k1,z⟩|⟨k1,c,z1,z2⟩
     .have:y≠n:=fun e=>hj (mw hN e1 (e ▸ hi));exact .inl ⟨k1,by simp[this,z]⟩
     .exact .inr ⟨k1,c,z1,z2.sameBut sb (I9.BI y c z1)⟩
   .obtain⟨w',z⟩:=I9.cell y c e;exact⟨w',z.sameBut sb (I9.BI y c e)⟩
   .obtain⟨e,n',ne,nf,d⟩:=I9.pin q hq;exact⟨(sb.2 q.1 ne).trans e,n',ne,nf,d⟩
  cases f with
  |next=>obtain⟨σ2,H2,I8,q8⟩:=q8;exact Cz I8 fun s9 I9=>⟨_,H2,I9,q8⟩
  |brk=>obtain⟨σ2,H2,I8,q8⟩:=q8;exact Cz I8 fun s9 I9=>⟨_,H2,I9,q8⟩
  |cont=>obtain⟨σ2,H2,I8,q8⟩:=q8;exact Cz I8 fun s9 I9=>⟨_,H2,I9,q8⟩
  |ret u=>obtain⟨v,σ2,H2,I8,r8,q8⟩:=q8;exact Cz I8 fun s9 I9=>⟨v,_,H2,I9,r8,q8⟩
 .cases f with
  |next=>obtain⟨σ2,H2,I8,q8⟩:=q;exact mf ⟨σ2,H2,I8.jB I.ok,q8⟩
  |brk=>obtain⟨σ2,H2,I8,q8⟩:=q;exact⟨σ2,H2,I8.jB I.ok,q8⟩
  |cont=>obtain⟨σ2,H2,I8,q8⟩:=q;exact⟨σ2,H2,I8.jB I.ok,q8⟩
  |ret u=>obtain⟨v,σ2,H2,I8,r8,q8⟩:=q;exact⟨v,σ2,H2,I8.jB I.ok,r8,q8⟩
theorem CA{h:Heap}{a:Addr}{m m':Str->Option Value}(x:h.Ns a m)(y:h.Ns a m'):m=m':=by
 obtain⟨o,es,ep,e,d,_,q⟩:=x;obtain⟨o',tj,M0,e',d',_,q'⟩:=y;rw[e] at e';cases e';rw[d] at d';cases d';funext z;rw[<-q z,q' z]
theorem av.JT{X:Cx}{ae:List (Addr×Obj)}{σ:St}{H:Hp}{s:Shared}{h':Heap}{m:Str->Option Value}{D:Addr}{o:HO}{t':Nat}(I:av X ae σ H s)(F:Fr X.base X.env.locals s.heap m)(F':Fr X.base X.env.locals h' m)(N':News X.base X.env.locals h' (gc X.base s.heap X.env.locals))(hD:s.heap.get? D=none)(new:bX X.prog X.w (upd H D o) h' D o):av X ae σ (upd H D o) { s with heap:=h',toks:=t' }:=by
 have hn:=I.aW.mK hD;have ne:∀b u,s.heap.get? b=some u->b≠D:=fun b u e z=>by rw[z,hD] at e;cases e
 have keep:∀b u,b≠X.env.locals->s.heap.get? b=some u->h'.get? b=some u:=fun b u hb e=>by
  cases q:X.base.get? b with
  |some v=>
   have:=I.bk b v q;rw[e] at this;cases this;exact F'.keep b _ q
  |none=>exact(N' (b,u) (g9 hb q e)).1
 refine I.step (g':=s.gens) (d':=s.drawn) (ch:=[]) (fun _ z=>absurd z (by simp)) (fun b u hb _ _ e _=>keep b u hb e) (fun b u hb _ _ e _=>⟨u.slots,keep b u hb e⟩) (fun b u _ e n=>by rw[ah (ne b u e)];exact n) (fun b u _ e=>?_)
  (fun b xs e=>by rw[ah (ai e hn)];exact e) (fun b u v e=>by rw[ah (ai e hn)];exact e) (fun b ps e=>⟨#[],by rw[ah (ai e hn),e];simp⟩) (fun m1 hm=>by rw[CA hm F.ns];exact F'.ns) (fun b u e=>?_) I.bare
 .by_cases hb:b=X.env.locals
  .obtain⟨o',_,_,q,_⟩:=F'.ns;exact⟨o',by rw[hb];exact q⟩
  .exact⟨u,keep b u hb e⟩
 .by_cases hb:b=D
  .subst hb;rw[af] at e;cases e;exact new
  .rw[ah hb] at e;refine(I.aW b u e).iE (fun c v hc q=>keep c v ?_ q) (fun c q=>by rw[ah (ai q hn)];exact q) fun c xs q=>by rw[ah (ai q hn)];exact q
   rintro rfl;rcases hc with z|hc
   .have f:=I.free;rw[z,e] at f;cases f
   .rw[I.free] at hc;cases hc
theorem om(I:av X ae σ H s)(N:News X.base X.env.locals h' ((D,o)::gc X.base s.heap X.env.locals))(dB:∀q∈gc X.base s.heap X.env.locals,q.1<D):s.heap.get? D=none:=by
 cases e:s.heap.get? D with
 |none=>rfl
 |some u=>
  obtain⟨_,n1,n2⟩:=N (D,o) bU;exact absurd (dB (D,u) (g9 n1 n2 e)) (fh _)
def zL(K:PySem.W.Frag)(H:Hp)(a:Addr)(y:Int×Int):Prop:=cQ K H a [.int y.1,.int y.2]
section
variable {X:Cx}
theorem u7(I:av X ae σ H s)(h:zL X.K H a y):∃o n t u,s.heap.get? a=some o/\o.cls=.type "tuple"/\o.data=.seq #[.int y.1 t,.int y.2 u] n:=by
 obtain⟨its,r,p,_⟩:=I.tuple h;obtain⟨u1,u2,rfl,r1,r2⟩:=r.two;obtain⟨t,rfl⟩:=r1;obtain⟨t',rfl⟩:=r2;obtain⟨o,e,c,n,d⟩:=p;exact⟨o,n,t,t',e,c,d⟩
end
def FW(hs:Array Int)(i:Nat):Int:=(hs[i]?).getD 0
def dZ(hs:Array Int)(t:SetTable)(h:Int):Option (Array Int×SetTable):=
 if t.gaveWay then none else
 match t.probe (FW hs) h (t.probeStart h) with
 |some (.empty j none)=>
  let q:=t.put j
  let BR:=SetTable.insertAt hs q.2 h
  if q.1.fits BR.size&&decide (BR.size<=4096) then
   if q.1.tooFull then
    (match q.1.relaid BR (SetTable.grown (hs.size+1)) with
    |some (t2,order)=>
     let oJ:=order.filterMap (BR[·]?)
     if oJ.size==BR.size&&t2.fits oJ.size&&decide (SetTable.sizeAbove (SetTable.grown (hs.size+1))<=4096) then some (oJ,t2) else none
    |none=>none)
   else some (BR,q.1)
  else none
 |_=>none
def qi(led:Bool):List Int->Option (Array Int×SetTable):=fun l=>l.foldlM (fun q h=>dZ q.1 q.2 h) (#[],SetTable.fresh 0 0 led)
def ie(h:Heap)(S:Addr)(hs:Array Int)(t:SetTable):Prop:=∃o es ep,h.get? S=some o/\o.cls=.type "set"/\(o.dict=none/\o.slots=#[])/\o.data=.set es ep t/\es.map (·.1)=hs/\t.fits es.size=true
section
variable {prog:Program} {w:World} {A:Around} {E:Value->Shared->Prop} {s:Shared} {S:Addr}
theorem FX(es:Array (Int×Value)):(fun i=>(es[i]?.map (·.1)).getD 0)=FW (es.map (·.1)):=by
 funext i;unfold FW;rw[Array.getElem?_map]
theorem jC(es:Array (Int×Value))(p:Nat)(x:Int×Value):(SetTable.insertAt es p x).map (·.1)=SetTable.insertAt (es.map (·.1)) p x.1:=by
 unfold SetTable.insertAt;simp
theorem kl(es:Array (Int×Value))(order:Array Nat):(order.filterMap (es[·]?)).map (·.1)=order.filterMap ((es.map (·.1))[·]?):=by
 apply Array.ext';rw[l7,pG,pG,List.map_filterMap];congr 1;funext i;rw[Array.getElem?_map]
theorem u8(hS:ie s.heap S hs t)(hg:t.gaveWay=false)(hp:t.probe (FW hs) h (t.probeStart h)=some (.empty j none))(q:Q (.free j false) s):
  wpAny (model prog w) A (setSearch S x h true) Q E s:=by
 obtain⟨o,es,ep,ho,hc,Tt,hd,hm,hf⟩:=hS;unfold setSearch setSearchFrom;refine aq (pQ ho hd hf ?_);dsimp only;rw[hg,am bV];have Ix:t.probe (fun i=>(es[i]?.map (·.1)).getD 0) h (t.probeStart h)=some (.empty j none):=by rw[FX,hm];exact hp
 refine aq (wpAny_pure ?_);erw[Ix];exact wpAny_pure q
theorem xI(ho:s.heap.get? a=some o)(hc:o.cls=.type "tuple")(hd:o.data=.seq #[.int x t,.int y u] n)(q:Q true s):
  wpAny (model prog w) A (hashByValue 8 (.ref a)) Q E s:=by
 have hT:s.TypeIs (.ref a) "tuple":=⟨_,ho,hc⟩
 unfold hashByValue;refine aq (wpAny_specialOf hT PySem.F.slot_tuple_hash.lookup ?_);refine aq (wpAny_seqItems ho hd ?_);refine aq ?_;show wpAny _ _ (forIn #[Value.int x t,Value.int y u] _ _) _ _ s;rw[<-ug];refine wpAny_forIn_list _ (fun lj r s'=>r.1=none/\s'=s/\∀v∈lj,∃z k,v=Value.int z k) _ ?_ ?_ _ _ ⟨rfl,rfl,fun v hv=>?_⟩
 .rintro v lj r s' ⟨hr,rfl,rJ⟩;obtain⟨z,k,rfl⟩:=rJ v bU;refine aq (wpAny_pure ?_);exact wpAny_pure ⟨rfl,rfl,fun u' wn=>rJ u' (bS _ wn)⟩
 .rintro⟨r1,r2⟩ s' ⟨hr,rfl,_⟩;have yD:r1=none:=hr;subst yD;exact wpAny_pure q
 .rcases aR.mp hv with z|z
  .exact⟨_,_,z⟩
  .rcases aR.mp z with z|z
   .exact⟨_,_,z⟩
   .cases z
theorem wq(hS:ie s.heap S hs t)(hf:t'.fits tj.size=true)(hz:tj.size<=4096)(q:∀h',Heap.SameBut S s.heap h'->ie h' S (tj.map (·.1)) t'->Q () { s with heap:=h' }):wpAny (model prog w) A (storeSet S tj t') Q E s:=by
 obtain⟨o,es,ep,ho,hc,Tt,hd,hm,_⟩:=hS;refine wpAny_storeSet_of ho hd (q _ (oC s.heap S (Obj.putSet tj t')) ?_) (bp hz (by decide));have g:=uf (Obj.putSet tj t') ho (by rw[putSet_of tj t' hd];rfl);rw[putSet_of tj t' hd] at g;exact⟨_,tj,ep+1,g,hc,Tt,rfl,rfl,hf⟩
theorem CC(hu:A.units<cLine)(hS:ie s.heap S hs t)(ho:s.heap.get? a=some o)(hc:o.cls=.type "tuple")(hd:o.data=.seq #[.int x tx,.int y ty] n)(jQ:a≠S)(hU:dZ hs t (tupleKeyHash (intKind prog w) [x,y])=some (hs',t'))(q:∀h' tk,Heap.SameBut S s.heap h'->ie h' S hs' t'->Q true { s with heap:=h',toks:=tk }):wpAny (model prog w) A (setAdd S (.ref a)) Q E s:=by
 have hk:IsTupleKey (intKind prog w) s.heap [x,y] a:=⟨o,_,n,ho,hc,hd,.cons (intKind_is _ _ _ _) (.cons (intKind_is _ _ _ _) .nil)⟩
 unfold setAdd;refine gB (aq (wpAny_pyHash_tuple hu hk ?_));generalize FK:s.toks+([x,y].length+1)=tk;generalize hh:tupleKeyHash (intKind prog w) [x,y]=h at hU |-;have Tu:=hS;obtain⟨ob,es,ep,hb,Iy,Yn,BH,hm,hf⟩:=hS;unfold setAddHashed setAddHashedIn;refine gB (aq (pQ (s:={ s with toks:=tk }) hb BH hf ?_));dsimp only;have Iz:byScan (.ref a) es=false:=by unfold byScan;rfl
 rw[Iz,am bV];unfold dZ at hU;cases hg:t.gaveWay with
 |true=>rw[hg,ao rfl] at hU;cases hU
 |false=>
  rw[hg,am bV] at hU;split at hU
  .rename_i j hp;dsimp only at hU;split at hU
   .rename_i Nb;rw[fg,pN] at Nb;refine aq (u8 (s:={ s with toks:=tk }) Tu hg hp ?_);dsimp only;refine aq (pQ (s:={ s with toks:=tk }) hb BH hf ?_);dsimp only;have VM:∀ {kk:Bool->Sem Bool},wpAny (model prog w) A (kk true) Q E { s with toks:=tk }->wpAny (model prog w) A (if (t.put j).1.plain=true then hashByValue 8 (.ref a) >>= kk else pure true >>= kk) Q E { s with toks:=tk }:=fun {kk} hP=>by
     split
     .exact aq (xI (s:={ s with toks:=tk }) ho hc hd hP)
     .exact aq (wpAny_pure hP)
    refine VM ?_;simp only[if_true];have fq:(SetTable.insertAt es (t.put j).2 (h,Value.ref a)).size=(SetTable.insertAt hs (t.put j).2 h).size:=by
     rw[<-hm,<-jC es (t.put j).2 (h,Value.ref a),gT]
    refine aq (wq (s:={ s with toks:=tk }) Tu (by rw[fq];exact Nb.1) (by rw[fq];exact Nb.2) fun h1 EC S1=>?_);rw[jC,hm] at S1;split at hU
    .rename_i OL;rw[show (!false&&(t.put j).1.tooFull)=true by rw[OL];rfl,ao rfl];split at hU
     .rename_i t2 order hr;split at hU
      .rename_i hq;rw[fg,fg,pN,eQ] at hq;obtain⟨⟨ED,Nd⟩,Tv⟩:=hq;cases hU;have OM:es.size=hs.size:=by rw[<-hm,gT]
       refine aq ?_;unfold setRelay;obtain⟨o1,CD,Yo,g1,g2,g3,g4,g5,g6⟩:=id S1;refine aq (pQ (s:={ s with heap:=h1,toks:=tk }) g1 g4 g6 ?_);dsimp only;rw[OM];rw[am (by (have h4:(4096:Nat)<=sizeLine:=by decide);lia)];refine aq ?_;rw[g5,hr];have u9:(order.filterMap (CD[·]?)).size=CD.size:=by
        have e1:=congrArg Array.size (kl CD order);rw[gT,g5] at e1;rw[e1,ED,<-g5,gT]
       refine wpAny_of_eq (show _=(pure (order.filterMap (CD[·]?),t'):Sem (Array (Int×Value)×SetTable)) from ?_) ?_
       .show (do
         let tj:=order.filterMap (CD[·]?)
         if tj.size != CD.size then unsupported "internal:set-table-lost-an-element"
         pure (tj,t'):Sem (Array (Int×Value)×SetTable))=_
        simp[u9]
       dsimp only;have ON:CD.size<=4096:=by
        have e1:=congrArg Array.size g5;rw[gT] at e1;rw[e1];exact Nb.2
       have VN:(order.filterMap (CD[·]?)).size=(order.filterMap ((SetTable.insertAt hs (t.put j).2 h)[·]?)).size:=by
        have e1:=congrArg Array.size (kl CD order);rw[gT,g5] at e1;exact e1
       refine wq (s:={ s with heap:=h1,toks:=tk }) S1 (by rw[VN];exact Nd) (by rw[u9];exact ON) fun h2 IA S2=>?_;rw[kl,g5] at S2;exact wpAny_pure (q h2 tk (EC.trans IA) S2)
      .cases hU
     .cases hU
    .rename_i OL;cases hU;have OO:(t.put j).1.tooFull=false:=by simpa using OL
     rw[show (!false&&(t.put j).1.tooFull)=false by rw[OO];rfl,am bV];exact wpAny_pure (q h1 tk EC S1)
   .cases hU
  .cases hU
end
section
variable {prog:Program} {w:World} {A:Around} {E:Value->Shared->Prop} {s:Shared} {S Ia l:Addr} {R:Result->Shared->Prop}
def gk(h:Heap)(vs:List Value)(ys:List (Int×Int)):Prop:=vs.length=ys.length/\∀i v,vs[i]?=some v->∃a o n t u,v=.ref a/\h.get? a=some o/\o.cls=.type "tuple"/\o.data=.seq #[.int (ys.getD i (0,0)).1 t,.int (ys.getD i (0,0)).2 u] n
theorem gk.keeps(p:gk h vs ys)(k:∀b o,(∃xs n,o.data=.seq xs n)->h.get? b=some o->h'.get? b=some o):gk h' vs ys:=
 ⟨p.1,fun i v e=>let ⟨a,o,n,t,u,e1,e2,c,d⟩:=p.2 i v e;⟨a,o,n,t,u,e1,k a o ⟨_,_,d⟩ e2,c,d⟩⟩
def dG(prog:Program)(w:World)(y:Int×Int):Int:=tupleKeyHash (intKind prog w) [y.1,y.2]
theorem zM(hh:A.handled=none)(hu:A.units+1<cLine)(VO:l≠S)(VP:l≠Ia)(OP:S≠Ia):
  ∀ (k i:Nat) (s:Shared) (hs:Array Int) (t:SetTable),vs.length-i=k->i<=vs.length->s.heap.IsListIter Ia l i->s.heap.IsList l vs.toArray->gk s.heap vs ys->ie s.heap S hs t->
   ((ys.drop i).map (dG prog w)).foldlM (fun q h=>dZ q.1 q.2 h) (hs,t)=some (hsN,tN)->
   (∀h' tk,(∀b o,b≠S->b≠Ia->s.heap.get? b=some o->h'.get? b=some o)->ie h' S hsN tN->R (.ok (.ret .none)) { s with heap:=h',toks:=tk })->
   codeAny (model prog w) A (.builtin "set.update.loop" ⟨[.ref S,.ref Ia],[]⟩) R s:=by
 intro k;induction k with
 |zero=>
  intro i s hs t hk hi yE hl hp hS hf hR;have e:i=vs.length:=by lia
  refine pV yK ?_;rw[Around.under_plainId tG _];show wpAny _ A.in1 (pyNext (.ref Ia) >>= _) _ _ s;refine aq (wpAny_pyNext_list_end (show A.in1.handled=none from hh) yE hl (by simp;lia) fun h' eb=>?_);show wpAny _ A.in1 (ret Value.none) _ _ _;have hd:ys.drop i=[]:=by rw[List.drop_eq_nil_iff];have:=hp.1;lia
  rw[hd] at hf;cases hf;obtain⟨o,es,ep,q1,q2⟩:=hS;exact wpAny_pure (hR h' s.toks (fun b o hb Nf e=>eb b o Nf e) ⟨o,es,ep,eb S o OP q1,q2⟩)
 |succ k ih=>
  intro i s hs t hk hi yE hl hp hS hf hR;have dB:i<vs.length:=by lia
  refine pV yK ?_;rw[Around.under_plainId tG _];show wpAny _ A.in1 (pyNext (.ref Ia) >>= _) _ _ s;have hv:vs[i]?=some vs[i]:=cr dB;refine aq (wpAny_pyNext_list_item yE hl (x:=vs[i]) (by simpa using hv) fun h1 OQ EC=>?_);obtain⟨a,o,n,tx,ty,ea,eo,ec,ed⟩:=hp.2 i _ hv;rw[ea];have Tw:∀b ob,(∃xs n,ob.data=.seq xs n)->s.heap.get? b=some ob->b≠Ia:=fun b ob ⟨xs,m,z⟩ e z'=>by
   obtain⟨oi,e1,_,d1⟩:=yE;rw[z',e1] at e;cases e;rw[d1] at z;cases z
  have Ng:gk h1 vs ys:=hp.keeps fun b ob hb e=>(EC.2 b (Tw b ob hb e)).trans e;have Tx:ie h1 S hs t:=by
   obtain⟨oS,es,ep,q1,q2⟩:=hS;exact⟨oS,es,ep,(EC.2 S OP).trans q1,q2⟩
  have Nh:h1.IsList l vs.toArray:=by
   obtain⟨ol,q1,q2⟩:=hl;exact⟨ol,(EC.2 l VP).trans q1,q2⟩
  have Tz:h1.get? a=some o:=(EC.2 a (Tw a o ⟨_,_,ed⟩ eo)).trans eo;have TB:∀b ob,(∃xs n,ob.data=.seq xs n)->h1.get? b=some ob->b≠S:=fun b ob ⟨xs,m,z⟩ e z'=>by
   obtain⟨oS,es,ep,q1,_,_,q4,_⟩:=Tx;rw[z',q1] at e;cases e;rw[q4] at z;cases z
  have u_:i<ys.length:=by have:=hp.1;lia
  have VQ:ys.drop i=ys[i]::ys.drop (i+1):=pE u_;have VR:ys.getD i (0,0)=ys[i]:=by rw[dS,cr u_];rfl
  rw[VQ,jo,List.foldlM_cons] at hf;cases hU:dZ hs t (dG prog w ys[i]) with
  |none=>rw[hU] at hf;cases hf
  |some q=>
   obtain⟨oJ,t2⟩:=q;rw[hU] at hf;have TC:((ys.drop (i+1)).map (dG prog w)).foldlM (fun q h=>dZ q.1 q.2 h) (oJ,t2)=some (hsN,tN):=hf;show wpAny _ A.in1 (holding [Value.ref a] (setAdd S (.ref a)) >>= _) _ _ _;refine aq (gB (CC (s:={ s with heap:=h1 }) (by show A.units+1<cLine;exact hu) Tx Tz ec ed (TB a o ⟨_,_,ed⟩ Tz) (hs':=oJ) (t':=t2) (by rw[VR];exact hU) fun h2 tk IA S2=>?_));refine wpAny_pure ⟨plainId_quiet tG _,?_⟩;refine ih (i+1) { s with heap:=h2,toks:=tk } oJ t2 (by lia) dB ?_ ?_ (Ng.keeps fun b ob hb e=>(IA.2 b (TB b ob hb e)).trans e) S2 TC fun h3 VS k3 S3=>?_
   .obtain⟨oi,q1,q2⟩:=OQ;exact⟨oi,(IA.2 Ia (ei OP)).trans q1,q2⟩
   .obtain⟨ol,q1,q2⟩:=Nh;exact⟨ol,(IA.2 l VO).trans q1,q2⟩
   .exact hR h3 VS (fun b ob hb Nf e=>k3 b ob hb Nf ((IA.2 b hb).trans ((EC.2 b Nf).trans e))) S3
theorem zN{vs:List Value}{ys:List (Int×Int)}{hsN:Bool->Array Int}{tN:Bool->SetTable}{Q:Value->Shared->Prop}(hh:A.handled=none)(hu:A.units+8<cLine)(hl:s.heap.IsList l vs.toArray)(hp:gk s.heap vs ys)(xJ:∀led,qi led (ys.map (dG prog w))=some (hsN led,tN led))(h:∀ (led:Bool) (h':Heap) (tk:Nat),ie h' s.heap.objs.size (hsN led) (tN led)->(∀b o,b<s.heap.objs.size->s.heap.get? b=some o->h'.get? b=some o)->Q (.ref s.heap.objs.size) { s with heap:=h',toks:=tk }):
  wpAny (model prog w) A (call (.type "set") [.ref l]) Q E s:=by
 obtain⟨c,tl,VT⟩:=kO.mro;have c1:=kO.made;have c2:=kO.sub;refine gX (codeAny_of_tree ?_);show wpAny _ _ (callAny (.type "set") _) _ _ _;refine wpAny_pure ⟨Code.quiet_builtin _ (by decide +kernel),pV PySem.F.entry_type_call ?_⟩;rw[Around.under_plain (weight_type_call_type "set" [.ref l] []) rfl];have c3:=kO.notType;have c4:=kO.canCreate;have c5:=PySem.F.typeCall_set_1 (.ref l);repeat (any_goals (first|assumption|wp_step))
 refine iW (code_set_new_1 (.ref l) (E:=E) (Q₁:=fun obj s₁=>∃led:Bool,obj=.ref s.heap.objs.size/\s₁={ s with heap:=s.heap.push { cls:=.type "set",dict:=none,data:=.set #[] 0 (.fresh 0 0 led) } }) fun led=>⟨led,rfl,rfl⟩) fun r s₁ hr=>?_;cases r with
 |error e=>exact hr
 |ok fl=>
  cases fl with
  |next=>exact hr.elim
  |brk=>exact hr.elim
  |cont=>exact hr.elim
  |ret obj=>
   obtain⟨led,rfl,rfl⟩:=hr;generalize OR:s.heap.push { cls:=.type "set",dict:=none,data:=.set #[] 0 (.fresh 0 0 led) }=hS;have fq:hS.objs.size=s.heap.objs.size+1:=by rw[<-OR,kT]
   have gS:hS.get? s.heap.objs.size=some { cls:=.type "set",dict:=none,data:=.set #[] 0 (.fresh 0 0 led) }:=by rw[<-OR];exact ci _ rfl
   have up:∀b o,s.heap.get? b=some o->hS.get? b=some o:=fun b o e=>by rw[<-OR];exact bJ _ e
   have hT:Shared.TypeIs { s with heap:=hS } (.ref s.heap.objs.size) "set":=⟨_,gS,rfl⟩
   have c6:=kO.init.lookup;have c7:=kO.init.bind (.ref s.heap.objs.size);repeat (any_goals (first|assumption|wp_step))
   refine iW (pK (R:=wants (fun r s₂=>r=.none/\∃h' tk,s₂={ s with heap:=h',toks:=tk }/\ie h' s.heap.objs.size (hsN led) (tN led)/\
     (∀b o,b<s.heap.objs.size->s.heap.get? b=some o->h'.get? b=some o)) E) kO.init.plain PySem.F.entry_set_init (check_set_init_1 hT ?_)) fun r₂ s₂ JU=>?_
   .obtain⟨ol,EE,zH,nl,TF⟩:=hl;obtain⟨OS,TH,JV,OT⟩:=ol;simp only at zH TF;subst zH;subst TF;have OU:=up _ _ EE;have c8:=PySem.F.sub_list_set;have c9:=PySem.F.sub_list_frozenset;have Yp:(Value.type "list"==Value.type "dict")=false:=by decide
    have Nh:hS.IsList l vs.toArray:=⟨_,OU,rfl,nl,rfl⟩
    unfold Builtin.«set.__init__» noKeywords Builtin.Frozenset.updateFrom;generalize VU:pyIter=PI
    wp_walk
    subst VU;refine pR Nh ?_;refine aq (wpAny_runValue ?_);have dB:l<s.heap.objs.size:=bg EE;refine zM (l:=l) (vs:=vs) (ys:=ys) (hsN:=hsN led) (tN:=tN led) (by simp[hh]) (by simp;lia) (bf dB) (by rw[fq];exact bf (cZ dB)) (by rw[fq];exact bf (kQ _))
     (vs.length-0) 0 _ #[] (.fresh 0 0 led) rfl (cu _) ⟨_,ci _ rfl,rfl,rfl⟩ (Nh.push _) (hp.keeps fun b o _ e=>bJ _ (up b o e)) ⟨_,#[],0,bJ _ gS,rfl,⟨rfl,rfl⟩,rfl,by simp,rfl⟩ (xJ led) fun h' tk k S'=>?_
    show wpAny _ _ _ _ _ _;refine wpAny_pure ?_;show wpAny _ _ (ret Value.none) _ _ _;refine wpAny_pure ⟨rfl,h',tk,rfl,S',fun b o hb e=>?_⟩;exact k b o (bf hb) (by rw[fq];exact bf (cZ hb)) (bJ _ (up b o e))
   .cases r₂ with
    |error e=>exact JU
    |ok VV=>
     cases VV with
     |next=>exact JU.elim
     |brk=>exact JU.elim
     |cont=>exact JU.elim
     |ret r=>
      obtain⟨rfl,h',tk,rfl,S',k⟩:=JU;repeat (any_goals (first|assumption|wp_step))
      exact h led h' tk S' k
end
open PySem
def zO(l:List Nat):Nat:=l.foldl (fun a x=>a ||| (1 <<< x)) 0
theorem xK(l:List Nat)(a j:Nat):(l.foldl (fun a x=>a ||| (1 <<< x)) a).testBit j=(a.testBit j||l.contains j):=by
 induction l generalizing a with
 |nil=>simp
 |cons x xs ih=>
  rw[lY,ih,Nat.testBit_or,List.contains_cons];have:(1 <<< x).testBit j=(j==x):=by
   rw[Nat.one_shiftLeft,Nat.testBit_two_pow];by_cases h:x=j
   .simp[h]
   .have h':¬ j=x:=fun e=>h e.symm;simp[h,h']
  rw[this,Bool.or_assoc]
theorem kX(h:zO l=2 ^ n-1)(hj:j<n):j∈l:=by
 have e:=xK l 0 j;have h':l.foldl (fun a x=>a ||| (1 <<< x)) 0=2 ^ n-1:=h;rw[h',Nat.testBit_two_pow_sub_one] at e;simp[hj] at e;exact e
def zP(M:Nat):Nat->Nat->Nat
 |0,i=>i
 |n+1,i=>zP M n ((i*5+1) % M)
theorem lH(M a:Nat):∀b i,zP M (b+a) i=zP M a (zP M b i)
 |0,i=>by rw[mi];rfl
 |b+1,i=>by
  rw[show b+1+a=(b+a)+1 by lia];show zP M (b+a) _=zP M a (zP M b _);exact lH M a b _
def FY(M:Nat):Nat->Nat->List Nat
 |0,_=>[]
 |n+1,i=>i::FY M n ((i*5+1) % M)
theorem mQ:∀ {n i},j∈FY M n i->∃k,k<n/\zP M k i=j
 |0,_,h=>by cases h
 |n+1,i,h=>by
  rcases aR.mp h with z|z
  .exact⟨0,by lia,z.symm⟩
  .obtain⟨k,a,b⟩:=mQ z;exact⟨k+1,by lia,b⟩
structure xL(M:Nat):Prop where
 all:zO (FY M M 0)=2 ^ M-1
 back:zP M M 0=0
theorem OV:xL 8:=⟨by decide +kernel,by decide +kernel⟩
theorem EF:xL 32:=⟨by decide +kernel,by decide +kernel⟩
theorem zQ:xL 128:=⟨by decide +kernel,by decide +kernel⟩
theorem zR:xL 512:=⟨by decide +kernel,by decide +kernel⟩
theorem xL.cover(R:xL M)(hi:i<M)(hj:j<M):∃n,n<M/\zP M n i=j:=by
 obtain⟨a,ha,ea⟩:=mQ (kX R.all hi);obtain⟨b,hb,eb⟩:=mQ (kX R.all hj);by_cases h:a<=b
 .refine⟨b-a,by lia,?_⟩;rw[<-ea,<-lH,show a+(b-a)=b by lia,eb]
 .refine⟨M+b-a,by lia,?_⟩;rw[<-ea,<-lH,show a+(M+b-a)=M+b by lia,lH,R.back,eb]
def eG(mask:Nat):Nat->Nat×Nat->Nat×Nat
 |0,q=>q
 |n+1,q=>eG mask n (SetTable.leap mask q.1 q.2)
theorem oX(m a:Nat):∀b q,eG m (b+a) q=eG m a (eG m b q)
 |0,q=>by rw[mi];rfl
 |b+1,q=>by
  rw[show b+1+a=(b+a)+1 by lia];exact oX m a b _
theorem rT:∀ {n:Nat} {q:Nat×Nat},q.1<m+1->(eG m n q).1<m+1
 |0,_,h=>h
 |n+1,q,h=>rT (n:=n) (mm _ (Nat.succ_pos _))
theorem wr:∀ {n:Nat} {q:Nat×Nat},(eG m n q).2=q.2 / 32 ^ n
 |0,_=>by simp[eG]
 |n+1,q=>by
  show (eG m n _).2=_;rw[wr];show q.2 / 32 / 32 ^ n=_;rw[Nat.div_div_eq_div_mul,Nat.pow_succ,Nat.mul_comm]
theorem oY:∀ {n i:Nat},eG m n (i,0)=(zP (m+1) n i,0)
 |0,_=>rfl
 |n+1,i=>by
  show eG m n (SetTable.leap m i 0)=_;unfold SetTable.leap;simp only[Nat.zero_div,Nat.add_zero];exact oY
theorem kY(R:xL (m+1))(hi:i<m+1)(hp:p<2 ^ 64)(hj:j<m+1):∃n,n<m+14/\(eG m n (i,p)).1=j:=by
 have h1:=rT (m:=m) (n:=13) (q:=(i,p)) hi;have h2:(eG m 13 (i,p)).2=0:=by
  rw[wr];exact Nat.div_eq_of_lt (bK hp (by decide))
 obtain⟨n,hn,e⟩:=R.cover h1 hj;refine⟨13+n,by lia,?_⟩;rw[oX];have:eG m 13 (i,p)=((eG m 13 (i,p)).1,0):=Prod.ext rfl h2;rw[this,oY];exact e
theorem wt(h:Int):SetTable.bits h<2 ^ 64:=by
 unfold SetTable.bits;have a:=md h (show (2 ^ 64:Int)≠0 by decide);have b:=l4 h (show (0:Int)<2 ^ 64 by decide);lia
theorem JW{M:Nat}{l:List Nat}(h:l.length<M):∃j,j<M/\j∉l:=by
 have key:∀ (a b:List Nat),a.Nodup->(∀x∈a,x∈b)->a.length<=b.length:=by
  intro a;induction a with
  |nil=>intro b _ _;exact cu _
  |cons x xs ih=>
   intro b hn hs;obtain⟨h1,h2⟩:=fQ.mp hn;have hx:x∈b:=hs x bU;have:=ih (b.erase x) h2 fun y hy=>(List.mem_erase_of_ne (fun (e:y=x)=>h1 (e ▸ hy))).mpr (hs y (bS _ hy));rw[yU hx] at this;have:0<b.length:=List.length_pos_of_mem hx;rw[dv];lia
 apply tK;intro xA;have:=key (List.range M) l List.nodup_range fun x hx=>tK fun zS=>xA ⟨x,d5.mp hx,zS⟩;rw[iK] at this;lia
def va(mask i p:Nat):SetTable.Probe:={ j:=i,more:=SetTable.runEnd mask i-i,i:=i,perturb:=p,dummy:=none }
theorem FZ(mask i:Nat):SetTable.runEnd mask i-i<=9:=by unfold SetTable.runEnd;split <;> lia
theorem qj{t:SetTable}(hd:t.dummies=#[])(j:Nat):t.slot j=.empty\/∃i,t.slot j=.live i/\t.place[i]?=some j:=by
 unfold SetTable.slot;dsimp only;split
 .rename_i h;exact .inr ⟨_,rfl,by simpa using h⟩
 .left;rw[hd];rfl
theorem vb{t:SetTable}(hd:t.dummies=#[]){j:Nat}(h:j∉t.place.toList):t.slot j=.empty:=by
 rcases qj hd j with e|⟨i,_,e2⟩
 .exact e
 .exact absurd (by rw[<-rn] at e2;exact cX e2) h
section
variable {t:SetTable} {hashAt:Nat->Int} {h:Int}
theorem zT(hd:t.dummies=#[])(hh:∀i,i<t.place.size->hashAt i≠h)(i p:Nat):∀ (r:Nat) (j d8:Nat),
  (∃j',SetTable.probe.go t hashAt h (d8+r+1) { j:=j,more:=r,i:=i,perturb:=p,dummy:=none }=some (.empty j' none))\/
  SetTable.probe.go t hashAt h (d8+r+1) { j:=j,more:=r,i:=i,perturb:=p,dummy:=none }=SetTable.probe.go t hashAt h d8 (va t.mask (SetTable.leap t.mask i p).1 (SetTable.leap t.mask i p).2)
 |0,j,d8=>by
  rcases qj hd j with e|⟨k,e,e2⟩
  .exact .inl ⟨j,by unfold SetTable.probe.go;rw[e]⟩
  .right;have hk:k<t.place.size:=(yP.mp e2).1;conv=>lhs;unfold SetTable.probe.go
   rw[e];simp only[eQ,hh k hk,eh];rfl
 |r+1,j,d8=>by
  rcases qj hd j with e|⟨k,e,e2⟩
  .exact .inl ⟨j,by rw[show d8+(r+1)+1=(d8+r+1)+1 by lia];unfold SetTable.probe.go;rw[e]⟩
  .have hk:k<t.place.size:=(yP.mp e2).1;have st:SetTable.probe.go t hashAt h (d8+(r+1)+1) { j:=j,more:=r+1,i:=i,perturb:=p,dummy:=none }=SetTable.probe.go t hashAt h (d8+r+1) { j:=j+1,more:=r,i:=i,perturb:=p,dummy:=none }:=by
    rw[show d8+(r+1)+1=(d8+r+1)+1 by lia];conv=>lhs;unfold SetTable.probe.go
    rw[e];simp only[eQ,hh k hk,eh];rfl
   rw[st];exact zT hd hh i p r (j+1) d8
theorem wu(hd:t.dummies=#[])(hh:∀i,i<t.place.size->hashAt i≠h):∀ (m:Nat) (i p d8:Nat),10*(m+1)<=d8->t.slot (eG t.mask m (i,p)).1=.empty->
  ∃j',SetTable.probe.go t hashAt h d8 (va t.mask i p)=some (.empty j' none)
 |0,i,p,d8,hf,e=>by
  obtain⟨f,rfl⟩:∃f,d8=f+1:=⟨d8-1,by lia⟩
  refine⟨i,?_⟩;have e':t.slot i=.empty:=e;unfold SetTable.probe.go va;dsimp only;rw[e']
 |m+1,i,p,d8,hf,e=>by
  have hr:=FZ t.mask i;obtain⟨f,zU⟩:∃f,d8=f+(SetTable.runEnd t.mask i-i)+1:=⟨d8-(SetTable.runEnd t.mask i-i)-1,by lia⟩
  rcases zT (hashAt:=hashAt) (h:=h) hd hh i p (SetTable.runEnd t.mask i-i) i f with z|z
  .rw[zU];exact z
  .rw[zU];show ∃j',SetTable.probe.go t hashAt h _ { j:=i,more:=_,i:=i,perturb:=p,dummy:=none }=_;rw[z];exact wu hd hh m _ _ f (by lia) e
theorem vc(R:xL (t.mask+1))(hd:t.dummies=#[])(hs:t.place.size<=t.mask)(hh:∀i,i<t.place.size->hashAt i≠h):∃j,t.probe hashAt h (t.probeStart h)=some (.empty j none):=by
 obtain⟨j,hj,hn⟩:=JW (M:=t.mask+1) (l:=t.place.toList) (by simpa using Nat.lt_succ_of_le hs);obtain⟨m,hm,e⟩:=kY R (mm (SetTable.bits h) (Nat.succ_pos t.mask)) (wt h) hj;refine wu hd hh m _ _ _ ?_ (by rw[e];exact vb hd hn);unfold SetTable.turns;lia
end
theorem zV{α β:Type}{f:α->Option β}:∀ {l:List α},(∀q∈l,(f q).isSome=true)->(l.filterMap f).length=l.length
 |[],_=>rfl
 |q::l,h=>by
  have hq:=h q bU;cases e:f q with
  |none=>rw[e] at hq;cases hq
  |some b=>rw[yW e,dv,dv,zV fun x hx=>h x (bS _ hx)]
theorem oZ:∀ (m d8 i p:Nat),m<d8->owner.getD (eG mask m (i,p)).1 (some 0)=none->∃j,SetTable.layClean.free mask owner d8 i p=some j/\owner.getD j (some 0)=none
 |m,0,_,_,h,_=>by lia
 |m,d8+1,i,p,h,e=>by
  unfold SetTable.layClean.free;cases hf:(List.range (SetTable.runEnd mask i+1-i)).find? fun k=>(owner.getD (i+k) (some 0)).isNone with
  |some k=>
   refine⟨i+k,rfl,?_⟩;have:=List.find?_some hf;simpa using this
  |none=>
   cases m with
   |zero=>
    have h0:(0:Nat)∈List.range (SetTable.runEnd mask i+1-i):=d5.mpr (by unfold SetTable.runEnd;split <;> lia);have:=List.find?_eq_none.mp hf 0 h0;have e':owner.getD i (some 0)=none:=e;rw[Nat.add_zero,e'] at this;exact absurd rfl this
   |succ m=>
    exact oZ m d8 _ _ (by lia) e
structure rU(M:Nat)(owner:Array (Option Nat))(k:Nat):Prop where
 size:owner.size=M
 cnt:owner.toList.countP Option.isSome=k
 lt:∀x,some x∈owner.toList->x<k
theorem vd{l:List (Option Nat)}{j:Nat}{x:Nat}(hj:l[j]?=some none):(l.set j (some x)).countP Option.isSome=l.countP Option.isSome+1:=by
 induction l generalizing j with
 |nil=>cases hj
 |cons a l ih=>
  cases j with
  |zero=>
   obtain rfl:a=none:=by simpa using hj
   simp
  |succ j=>
   rw[List.set_cons_succ,uw,uw,ih (by simpa using hj)];lia
theorem rU.one{mask:Nat}{owner:Array (Option Nat)}{k:Nat}(L:rU (mask+1) owner k)(R:xL (mask+1))(hk:k<mask+1)(h:Int):
  ∃j,SetTable.layClean.free mask owner (SetTable.turns mask) (SetTable.bits h % (mask+1)) (SetTable.bits h)=some j/\rU (mask+1) (owner.setIfInBounds j (some k)) (k+1):=by
 have xA:∃j,j<mask+1/\owner.toList[j]?=some none:=by
  apply tK;intro xA;have rJ:∀x∈owner.toList,x.isSome=true:=by
   intro x hx;obtain⟨j,hj,e⟩:=List.mem_iff_getElem.mp hx;cases x with
   |some _=>rfl
   |none=>
    refine absurd ⟨j,?_,?_⟩ xA
    .rw[<-L.size];simpa using hj
    .rw[cr hj,e]
  have:=List.countP_eq_length.mpr rJ;rw[L.cnt,iI,L.size] at this;lia
 obtain⟨j0,VW,e0⟩:=xA;obtain⟨m,hm,em⟩:=kY R (mm (SetTable.bits h) (Nat.succ_pos mask)) (wt h) VW;obtain⟨j,ej,en⟩:=oZ (mask:=mask) (owner:=owner) m (SetTable.turns mask) (SetTable.bits h % (mask+1)) (SetTable.bits h) (by unfold SetTable.turns;lia)
  (by rw[em,pC,<-rn,e0];rfl)
 refine⟨j,ej,?_⟩;have VX:owner.toList[j]?=some none:=by
  rw[pC,<-rn] at en;cases hq:owner.toList[j]? with
  |none=>rw[hq] at en;cases en
  |some v=>rw[hq] at en;rw[show v=none from en]
 have JX:(owner.setIfInBounds j (some k)).toList=owner.toList.set j (some k):=by simp
 refine⟨by simp[L.size],by rw[JX,vd VX,L.cnt],fun x hx=>?_⟩;rw[JX] at hx;rcases List.mem_or_eq_of_mem_set hx with z|z
 .exact cZ (L.lt x z)
 .cases z;exact kQ _
theorem wv(R:xL (mask+1)):∀ (l:List Int) (owner:Array (Option Nat)) (k:Nat),rU (mask+1) owner k->k+l.length<=mask->
  ∃zW,l.foldl (fun dj h=>do
   let (owner,k) <- dj
   let j <- SetTable.layClean.free mask owner (SetTable.turns mask) (SetTable.bits h % (mask+1)) (SetTable.bits h)
   pure (owner.setIfInBounds j (some k),k+1)) (some (owner,k))=some (zW,k+l.length)/\rU (mask+1) zW (k+l.length)
 |[],owner,k,L,_=>⟨owner,rfl,L⟩
 |h::l,owner,k,L,hl=>by
  rw[dv] at hl;obtain⟨j,ej,L'⟩:=L.one R (by lia) h;obtain⟨o',e,L2⟩:=wv R l _ _ L' (by lia);refine⟨o',?_,by rw[dv,show k+(l.length+1)=k+1+l.length by lia];exact L2⟩;rw[lY];have:(do
   let (owner,k) <- some (owner,k)
   let j <- SetTable.layClean.free mask owner (SetTable.turns mask) (SetTable.bits h % (mask+1)) (SetTable.bits h)
   pure (owner.setIfInBounds j (some k),k+1):Option (Array (Option Nat)×Nat))=some (owner.setIfInBounds j (some k),k+1):=by
   show (SetTable.layClean.free mask owner (SetTable.turns mask) (SetTable.bits h % (mask+1)) (SetTable.bits h)).bind _=_;rw[ej];rfl
  rw[this,e,dv,show k+(l.length+1)=k+1+l.length by lia]
theorem rV(R:xL (mask+1))(hs:Array Int)(h:hs.size<=mask):∃owner,SetTable.layClean mask hs=some owner/\rU (mask+1) owner hs.size:=by
 have L0:rU (mask+1) (Array.replicate (mask+1) none) 0:=⟨by simp,by simp[List.countP_replicate],fun x hx=>by simp at hx⟩
 obtain⟨o,e,L⟩:=wv R hs.toList _ 0 L0 (by simpa using h);refine⟨o,?_,by simpa using L⟩;unfold SetTable.layClean;rw[<-Array.foldl_toList];have e':=congrArg (Option.map (·.1)) e;exact e'
theorem ve(L:rU M owner n):
  ((List.range M).filterMap fun j=>(owner.getD j none).map (j,·)).length=n/\∀q∈(List.range M).filterMap (fun j=>(owner.getD j none).map (j,·)),q.2<n:=by
 constructor
 .rw[<-L.cnt];have e:owner.toList=(List.range M).map fun j=>owner.getD j none:=by
   apply List.ext_getElem
   .simp[L.size]
   .intro i h1 h2;simp only[List.getElem_map,List.getElem_range,Array.getElem_toList];rw[pC,tL (by simpa using h1)];rfl
  conv=>rhs;rw[e]
  rw[List.countP_map];generalize List.range M=l;induction l with
  |nil=>rfl
  |cons a l ih=>
   rw[uw,<-ih];cases hq:owner.getD a none with
   |none=>rw[List.filterMap_cons_none (by rw[hq];rfl),show (Option.isSome ∘ fun j=>owner.getD j none) a=false by show (owner.getD a none).isSome=false;rw[hq];rfl];simp
   |some x=>rw[yW (b:=(a,x)) (by rw[hq];rfl),show (Option.isSome ∘ fun j=>owner.getD j none) a=true by show (owner.getD a none).isSome=true;rw[hq];rfl];simp
 .intro q hq;obtain⟨j,_,e⟩:=lU.mp hq;cases hx:owner.getD j none with
  |none=>rw[hx] at e;cases e
  |some x=>
   rw[hx] at e;cases e;refine L.lt x ?_;rw[pC,<-rn] at hx;cases hy:owner.toList[j]? with
   |none=>rw[hy] at hx;cases hx
   |some v=>rw[hy] at hx;obtain rfl:v=some x:=hx;exact cX hy
structure rW(hs:Array Int)(t:SetTable):Prop where
 dm:t.dummies=#[]
 sz:t.place.size=hs.size
 ms:(t.mask=7/\hs.size<=4)\/(t.mask=31/\hs.size<=18)\/(t.mask=127/\hs.size<=76)\/(t.mask=511/\hs.size<=306)
theorem rW.VY(T:rW hs t):xL (t.mask+1):=by
 rcases T.ms with ⟨e,_⟩|⟨e,_⟩|⟨e,_⟩|⟨e,_⟩ <;> rw[e]
 .exact OV
 .exact EF
 .exact zQ
 .exact zR
theorem iQ(xs:Array α)(p:Nat)(x:α):(SetTable.insertAt xs p x).size=xs.size+1:=by
 unfold SetTable.insertAt;simp;lia
theorem jD(h:y∈(SetTable.insertAt xs p x).toList):y=x\/y∈xs.toList:=by
 unfold SetTable.insertAt at h;rw[du,jS,t9,t9] at h;rcases cE.mp h with z|z
 .rcases cE.mp z with z|z
  .right;rw[List.extract_eq_drop_take] at z;exact l0 (lZ z)
  .left;simpa using z
 .right;rw[List.extract_eq_drop_take] at z;exact l0 (lZ z)
theorem vf{hs:Array Int}{t:SetTable}{h:Int}(T:rW hs t)(hn:h∉hs.toList)(hl:hs.size<300):∃hs' t',dZ hs t h=some (hs',t')/\rW hs' t'/\hs'.size=hs.size+1/\∀x∈hs'.toList,x=h\/x∈hs.toList:=by
 have ON:t.place.size<=t.mask:=by rw[T.sz];rcases T.ms with ⟨e,z⟩|⟨e,z⟩|⟨e,z⟩|⟨e,z⟩ <;> lia
 have hh:∀i,i<t.place.size->FW hs i≠h:=by
  intro i hi e;rw[T.sz] at hi;unfold FW at e;rw[tL hi] at e;exact hn (by rw[<-e];simp)
 obtain⟨j,hp⟩:=vc (hashAt:=FW hs) (h:=h) T.VY T.dm ON hh;have hg:t.gaveWay=false:=by
  unfold SetTable.gaveWay;rcases T.ms with ⟨e,_⟩|⟨e,_⟩|⟨e,_⟩|⟨e,_⟩ <;> rw[e] <;> rfl
 have q1:(t.put j).1.place=SetTable.insertAt t.place (SetTable.below t.place j) j:=rfl;have q2:(t.put j).1.dummies=#[]:=by
  show (if SetTable.has t.dummies j=true then _ else t.dummies)=_;rw[T.dm];rfl
 have q3:(t.put j).1.mask=t.mask:=rfl;have s1:(SetTable.insertAt hs (t.put j).2 h).size=hs.size+1:=iQ _ _ _;have s2:(t.put j).1.place.size=hs.size+1:=by rw[q1,iQ,T.sz]
 have fl:(t.put j).1.fill=hs.size+1:=by unfold SetTable.fill;rw[s2,q2];rfl
 have VZ:(t.put j).1.fits (SetTable.insertAt hs (t.put j).2 h).size=true:=by
  unfold SetTable.fits;rw[s1,s2,fl,q3];simp;rcases T.ms with ⟨e,z⟩|⟨e,z⟩|⟨e,z⟩|⟨e,z⟩ <;> lia
 unfold dZ;rw[hg,am bV,hp];dsimp only;rw[ao (by rw[VZ,s1];simp;lia)];by_cases hf:(t.put j).1.tooFull=true
 .rw[ao hf];have zU:=hf;unfold SetTable.tooFull at zU;rw[fl,q3] at zU;have TC:(hs.size+1)*5>=t.mask*3:=by simpa using zU
  have gr:SetTable.grown (hs.size+1)=(hs.size+1)*4:=by unfold SetTable.grown;rw[am (by lia)]
  obtain⟨m2,TJ,OW,R2⟩:∃m2,SetTable.sizeAbove (SetTable.grown (hs.size+1))=m2+1/\((m2=31/\hs.size+1<=18)\/(m2=127/\hs.size+1<=76)\/(m2=511/\hs.size+1<=306))/\xL (m2+1):=by
   rw[gr];rcases T.ms with ⟨e,z⟩|⟨e,z⟩|⟨e,z⟩|⟨e,z⟩
   .have:hs.size=4:=by lia
    exact⟨31,by rw[this];rfl,.inl ⟨rfl,by lia⟩,EF⟩
   .have:hs.size=18:=by lia
    exact⟨127,by rw[this];rfl,.inr (.inl ⟨rfl,by lia⟩),zQ⟩
   .have:hs.size=76:=by lia
    exact⟨511,by rw[this];rfl,.inr (.inr ⟨rfl,by lia⟩),zR⟩
   .lia
  have TM:(SetTable.insertAt hs (t.put j).2 h).size<=m2:=by rw[s1];rcases OW with ⟨e,z⟩|⟨e,z⟩|⟨e,z⟩ <;> lia
  obtain⟨owner,eo,L⟩:=rV R2 (SetTable.insertAt hs (t.put j).2 h) TM;obtain⟨JY,OX⟩:=ve L;rw[s1] at JY OX;generalize JZ:(List.range (m2+1)).filterMap (fun j=>(owner.getD j none).map (j,·))=live at JY OX;have er:(t.put j).1.relaid (SetTable.insertAt hs (t.put j).2 h) (SetTable.grown (hs.size+1))=some ({ mask:=m2,place:=(live.map (·.1)).toArray,dummies:=#[],finger:=(t.put j).1.finger,led:=(t.put j).1.led,moves:=(t.put j).1.movedTo m2,plain:=(t.put j).1.plain },(live.map (·.2)).toArray):=by
   unfold SetTable.relaid SetTable.laid;rw[TJ];simp only[Nat.add_sub_cancel];rw[eo];show some _=some _;rw[<-JZ]
  rw[er];dsimp only;have u9:((live.map (·.2)).toArray.filterMap ((SetTable.insertAt hs (t.put j).2 h)[·]?)).size=hs.size+1:=by
   rw[<-iI,pG];show ((live.map (·.2)).filterMap _).length=_;rw[<-JY,List.filterMap_map];refine zV fun q hq=>?_;show ((SetTable.insertAt hs (t.put j).2 h)[q.2]?).isSome=true;rw[tL (by rw[s1];exact OX q hq)];rfl
  have V0:∀x,({ mask:=m2,place:=(live.map (·.1)).toArray,dummies:=#[],finger:=(t.put j).1.finger,led:=(t.put j).1.led,moves:=(t.put j).1.movedTo m2,plain:=(t.put j).1.plain }:SetTable).fits x=(decide (hs.size+1=x)&&decide (hs.size+1<=m2)):=by
   intro x;unfold SetTable.fits SetTable.fill;simp[JY];rw[me];simp
  rw[ao (by
   rw[u9,s1,V0,TJ];have:hs.size+1<=m2:=by rw[<-s1];exact TM
   simp[this];rcases OW with ⟨e,z⟩|⟨e,z⟩|⟨e,z⟩ <;> lia)]
  refine⟨_,_,rfl,⟨rfl,?_,?_⟩,u9,fun x hx=>?_⟩
  .rw[u9];simp[JY]
  .rw[u9];exact .inr OW
  .rw[pG] at hx;obtain⟨k,_,ek⟩:=lU.mp hx;refine jD (p:=(t.put j).2) ?_;rw[<-rn] at ek;exact cX ek
 .rw[am hf];refine⟨_,_,rfl,⟨q2,by rw[s2,s1],?_⟩,s1,fun x hx=>jD hx⟩;have zU:¬ (hs.size+1)*5>=t.mask*3:=by
   intro z;refine hf ?_;unfold SetTable.tooFull;rw[fl,q3];simpa using z
  rw[s1,q3];rcases T.ms with ⟨e,z⟩|⟨e,z⟩|⟨e,z⟩|⟨e,z⟩ <;> lia
theorem kZ:∀ (l:List Int) (hs:Array Int) (t:SetTable),rW hs t->(∀x∈l,x∉hs.toList)->l.Nodup->hs.size+l.length<=300->∃hs' t',l.foldlM (fun q h=>dZ q.1 q.2 h) (hs,t)=some (hs',t')/\hs'.size=hs.size+l.length
 |[],hs,t,_,_,_,_=>⟨hs,t,rfl,rfl⟩
 |h::l,hs,t,T,hn,nd,hl=>by
  rw[dv] at hl;obtain⟨n1,n2⟩:=fQ.mp nd;obtain⟨BR,t1,e1,T1,z1,m1⟩:=vf T (hn h bU) (by lia);obtain⟨oJ,t2,e2,z2⟩:=kZ l BR t1 T1 (fun x hx hy=>by
   rcases m1 x hy with e|e
   .exact n1 (e ▸ hx)
   .exact hn x (bS _ hx) e) n2 (by lia)
  refine⟨oJ,t2,?_,by rw[z2,z1,dv];lia⟩;rw[List.foldlM_cons];show (dZ hs t h).bind _=_;rw[e1];exact e2
theorem xM(led:Bool)(nd:l.Nodup)(hl:l.length<=300):∃hs t,qi led l=some (hs,t)/\hs.size=l.length:=by
 obtain⟨hs,t,e,z⟩:=kZ l #[] (SetTable.fresh 0 0 led) ⟨rfl,rfl,.inl ⟨rfl,by decide⟩⟩ (fun x _ h=>by simp at h) nd (by simpa using hl);exact⟨hs,t,e,by simpa using z⟩
def ww:List Nat->Nat->Bool
 |[],_=>true
 |x::xs,dj=>bif Nat.testBit dj x then false else ww xs (dj ||| (1 <<< x))
theorem rX:∀ (l:List Nat) (dj:Nat),ww l dj=true->l.Nodup/\∀x∈l,dj.testBit x=false
 |[],_,_=>⟨uA,fun x h=>(nomatch h)⟩
 |x::xs,dj,h=>by
  unfold ww at h;cases hb:dj.testBit x with
  |true=>rw[hb] at h;cases h
  |false=>
   rw[hb] at h;obtain⟨nd,hx⟩:=rX xs _ h;have TN:∀y∈xs,dj.testBit y=false/\y≠x:=by
    intro y hy;have:=hx y hy;rw[Nat.testBit_or,Nat.one_shiftLeft,Nat.testBit_two_pow] at this;rw[Bool.or_eq_false_iff] at this;exact⟨this.1,fun e=>by have:=this.2;simp[e] at this⟩
   refine⟨fQ.mpr ⟨fun hm=>(TN x hm).2 rfl,nd⟩,fun y hy=>?_⟩;rcases aR.mp hy with z|z
   .rw[z];exact hb
   .exact(TN y z).1
def mR:List (Int×Int):=(List.range 32).flatMap fun a=>(List.range 32).map fun b=>(Int.ofNat a,Int.ofNat b)
def EG(h:Int):Nat:=(h % 6554).toNat
theorem xN(P:Program)(w:World):ww (mR.map fun y=>EG (dG P w y)) 0=true:=by kernel_rfl
theorem wx(h1:0<=y.1/\y.1<32)(h2:0<=y.2/\y.2<32):y∈mR:=by
 unfold mR;refine uv.mpr ⟨y.1.toNat,d5.mpr (by lia),ck.mpr ⟨y.2.toNat,d5.mpr (by lia),Prod.ext ?_ ?_⟩⟩
 .show ((y.1.toNat:Nat):Int)=y.1;lia
 .show ((y.2.toNat:Nat):Int)=y.2;lia
theorem iR:∀ {l:List α},(l.map f).Nodup->∀x∈l,∀y∈l,f x=f y->x=y
 |[],_,_,h,_,_,_=>by cases h
 |a::l,h,x,hx,y,hy,e=>by
  rw[jo] at h;obtain⟨h1,h2⟩:=fQ.mp h;rcases aR.mp hx with z|z <;> rcases aR.mp hy with z'|z'
  .rw[z,z']
  .exact absurd (ck.mpr ⟨y,z',by rw[<-e,z]⟩) h1
  .exact absurd (ck.mpr ⟨x,z,by rw[e,z']⟩) h1
  .exact iR h2 x z y z' e
theorem qk(hx:(0<=x.1/\x.1<32)/\(0<=x.2/\x.2<32))(hy:(0<=y.1/\y.1<32)/\(0<=y.2/\y.2<32))(e:dG P w x=dG P w y):x=y:=
 iR (rX _ _ (xN P w)).1 x (wx hx.1 hx.2) y (wx hy.1 hy.2) (congrArg EG e)
theorem km:∀ {l:List α},l.Nodup->(∀x∈l,∀y∈l,f x=f y->x=y)->(l.map f).Nodup
 |[],_,_=>uA
 |a::l,h,hf=>by
  obtain⟨h1,h2⟩:=fQ.mp h;rw[jo];refine fQ.mpr ⟨fun z=>?_,km h2 fun x hx y hy=>hf x (bS _ hx) y (bS _ hy)⟩;obtain⟨y,hy,e⟩:=ck.mp z;have:=hf y (bS _ hy) a bU e;exact h1 (this ▸ hy)
theorem rY{P:Program}{w:World}(led:Bool){ys:List (Int×Int)}(nd:ys.Nodup)(hr:∀y∈ys,(0<=y.1/\y.1<32)/\(0<=y.2/\y.2<32))(hl:ys.length<=300):
  ∃hs t,qi led (ys.map (dG P w))=some (hs,t)/\hs.size=ys.length:=by
 obtain⟨hs,t,e,z⟩:=xM led (km nd fun x hx y hy e=>qk (P:=P) (w:=w) (hr x hx) (hr y hy) e) (by rw[aT];exact hl);exact⟨hs,t,e,by rw[z,aT]⟩
theorem wy:∀ {as:List Addr} {its:List Value},aK (as.map V.ref) its->its=as.map Value.ref
 |[],_,r=>by cases r;rfl
 |a::as,_,r=>by
  cases r with
  |cons r rr=>
   obtain rfl:=(show _=Value.ref a from r)
   rw[wy rr];rfl
def CF(D:Addr)(n:Nat):HO:=.ext fun h=>∃hs t,ie h D hs t/\hs.size=n
section
variable {X:Cx}
def J0(K:PySem.W.Frag):List V->Hp->VK->Prop:=fun xs H Q=>∃ (l:Addr) (as:List Addr) (ys:List (Int×Int)),xs=[.ref l]/\bD K H l (as.map V.ref)/\as.length=ys.length/\
 (∀i,i<ys.length->zL K H (as.getD i 0) (ys.getD i (0,0)))/\ys.Nodup/\(∀y∈ys,(0<=y.1/\y.1<32)/\(0<=y.2/\y.2<32))/\ys.length<=300/\∀D,H D=none->Q (.ref D) (upd H D (CF D ys.length))
theorem xO(hc:X.calm=true)(hu:X.A.units+8<cLine):dE X (.type "set") (J0 X.K):=by
 intro ae s σ H xs us Q I r h;obtain⟨l,as,ys,rfl,hl,dC,hp,nd,rg,h3,q⟩:=h;obtain⟨u1,rfl,r1⟩:=r.one;obtain rfl:u1=Value.ref l:=r1;obtain⟨its,rv,pl,hz⟩:=I.list hl;have e:=wy rv;subst e;have V1:gk s.heap (as.map Value.ref) ys:=⟨by rw[aT,dC],fun i v hv=>by
  rw[bw] at hv;cases ea:as[i]? with
  |none=>rw[ea] at hv;cases hv
  |some a=>
   rw[ea] at hv;obtain rfl:Value.ref a=v:=bh hv;have hi:i<as.length:=(dD.mp ea).1;obtain⟨o,n,t,u,e1,c,d⟩:=u7 I (hp i (by lia));have eg:as.getD i 0=a:=by rw[dS,ea];rfl
   rw[eg] at e1;exact⟨a,o,n,t,u,rfl,e1,c,d⟩⟩
 have xJ:∀led,∃q:Array Int×SetTable,qi led (ys.map (dG X.prog X.w))=some q/\q.1.size=ys.length:=fun led=>
  let ⟨hs,t,e,z⟩:=rY (P:=X.prog) (w:=X.w) led nd rg h3;⟨(hs,t),e,z⟩
 refine zN (I.ok.hd hc) hu pl.isList V1 (hsN:=fun led=>(xJ led).choose.1) (tN:=fun led=>(xJ led).choose.2) (fun led=>(xJ led).choose_spec.1) fun led h' tk S' k=>?_;refine⟨.ref s.heap.objs.size,_,I.EA (t':=tk) (o:=CF s.heap.objs.size ys.length) (fun b u e=>k b u (bg e) e) (pM (aG _)) ⟨⟨_,_,S',(xJ led).choose_spec.2⟩,?_,fun h1 h2 ⟨hs,t,⟨o,es,ep,q1,q2⟩,z⟩ kk=>⟨hs,t,⟨o,es,ep,kk o q1,q2⟩,z⟩⟩,rfl,q _ I.fresh⟩;obtain⟨o,_,_,q1,_⟩:=S';exact⟨o,q1⟩
theorem rZ:dE X (.builtin "len") (fun xs H Q=>∃D n,xs=[.ref D]/\H D=some (CF D n)/\n<=4096/\Q (.int n) H):=by
 intro ae s σ H xs us Q I r h;obtain⟨D,n,rfl,e,hn,q⟩:=h;obtain⟨u1,rfl,r1⟩:=r.one;obtain rfl:u1=Value.ref D:=r1;obtain⟨⟨hs,t,⟨o,es,ep,q1,q2,q3,q4,q5,q6⟩,z⟩,_⟩:=(show bX X.prog X.w H s.heap D (CF D n) from I.aW D _ e)
 have fq:es.size=n:=by rw[<-z,<-q5,gT]
 exact call_len_set q1 ⟨q2,q3.1,q3.2⟩ q4 q6 (by rw[fq];lia) ⟨.int n,H,I.tok _,⟨_,by rw[fq]⟩,q⟩
end
def jE(e:V->V->Bool):List V->List V->Bool
 |[],[]=>true
 |x::xs,y::ys=>e x y&&jE e xs ys
 |_,_=>false
theorem k6:∀ {xs ys:List V},xs.length=ys.length->jE e xs ys=(List.range xs.length).all fun i=>e (xs.getD i .bH) (ys.getD i .bH)
 |[],[],_=>rfl
 |x::xs,y::ys,h=>by
  have h':xs.length=ys.length:=by simpa using h
  rw[jE,k6 h',dv,tW,mh,List.all_map];rfl
 |[],_::_,h=>by simp at h
 |_::_,[],h=>by simp at h
theorem o0:∀ {xs ys:List V},xs.length≠ys.length->jE e xs ys=false
 |[],[],h=>absurd rfl h
 |x::xs,y::ys,h=>by
  have h':xs.length≠ys.length:=fun z=>h (by simp[z]);rw[jE,o0 h',Bool.and_false]
 |[],_::_,_=>rfl
 |_::_,[],_=>rfl
section
variable {X:Cx}
def F0(X:Cx)(H:Hp)(e:V->V->Bool)(x y:V):Prop:=∀ (ae:List (Addr×Obj)) (s:Shared) (σ:St) (A:Around) (u v:Value),av X ae σ H s->A.units+1<cLine->bq x u->bq y v->SeqAt.EqAt A s u v (e x y)
theorem xP{H:Hp}{x y:V}(fx:fY x=true)(fy:fY y=true):F0 X H we x y:=fun _ _ _ _ _ _ _ _ rx ry=>zB rx ry fx fy
def OY(X:Cx)(Os:Bool)(e:V->V->Bool):R2:=fun x y H Q=>∃p q xs ys,x=.ref p/\y=.ref q/\bD X.K H p xs/\bD X.K H q ys/\(∀i,i<xs.length->i<ys.length->F0 X H e (xs.getD i .bH) (ys.getD i .bH))/\Q (.bl (if Os then !jE e xs ys else jE e xs ys)) H
theorem zX(I:av X ae σ H s)(hu:A.units+1<cLine)(rx:aK xs us)(ry:aK ys vs)(he:∀i,i<xs.length->i<ys.length->F0 X H e (xs.getD i .bH) (ys.getD i .bH)):∀j (h1:j<us.toArray.size) (h2:j<vs.toArray.size),SeqAt.EqAt A s us.toArray[j] vs.toArray[j] (e (xs.getD j .bH) (ys.getD j .bH)):=by
 intro j h1 h2;have j1:j<xs.length:=by rw[rx.length];simpa using h1
 have j2:j<ys.length:=by rw[ry.length];simpa using h2
 have e1:xs[j]?=some (xs.getD j .bH):=by rw[dS,cr j1];rfl
 have e2:ys[j]?=some (ys.getD j .bH):=by rw[dS,cr j2];rfl
 obtain⟨u,V2,ru⟩:=rx.get e1;obtain⟨v,V3,rv⟩:=ry.get e2;have eu:us.toArray[j]=u:=by
  have:us[j]?=some us.toArray[j]:=by simp at h1 |-
  rw[V2] at this;exact(bh this).symm
 have ev:vs.toArray[j]=v:=by
  have:vs[j]?=some vs.toArray[j]:=by simp at h2 |-
  rw[V3] at this;exact(bh this).symm
 rw[eu,ev];exact he j j1 j2 ae s σ A u v I hu ru rv
theorem F1{e:V->V->Bool}(hu:X.A.units+2<cLine):j9 X (compareOp .NotEq) (OY X true e):=by
 intro ae s σ H x y v u Q I rx ry h;obtain⟨p,q,xs,ys,rfl,rfl,hp,hq,he,k⟩:=h;obtain rfl:v=Value.ref p:=rx;obtain rfl:u=Value.ref q:=ry;obtain⟨us,r1,p1,_⟩:=I.list hp;obtain⟨vs,r2,p2,_⟩:=I.list hq;by_cases hl:xs.length=ys.length
 .refine SeqAt.RcNeAt.lists (e:=fun i=>e (xs.getD i .bH) (ys.getD i .bH)) p1.isList p2.isList (by simp only[bT];rw[<-r1.length,<-r2.length];exact hl) (by lia) (zX I (by show X.A.units+1+1<cLine;lia) r1 r2 he) _ _ _ _ ⟨.bl _,H,I,rfl,?_⟩;rw[show us.toArray.size=xs.length by rw[bT,r1.length],<-k6 hl];exact k
 .refine SeqAt.RcNeAt.lists_lengths p1.isList p2.isList (by simp only[bT];rw[<-r1.length,<-r2.length];simpa using hl) (by lia) _ _ _ _ ⟨.bl _,H,I,rfl,?_⟩;have k':=k;rw[o0 hl] at k';exact k'
theorem xQ(hc:X.calm=true):dE X (.builtin "any") (fun xs H Q=>∃ (p:Addr) (bs:List Bool),xs=[.ref p]/\bD X.K H p (bs.map V.bl)/\Q (.bl (bs.any id)) H):=by
 intro ae s σ H xs us Q I r h;obtain⟨p,bs,rfl,hp,q⟩:=h;obtain⟨u1,rfl,r1⟩:=r.one;obtain rfl:u1=Value.ref p:=r1;obtain⟨its,rv,pl,hz⟩:=I.list hp;have vg:its=bs.map Value.bool:=by
  have go:∀ (bs:List Bool) (its:List Value),aK (bs.map V.bl) its->its=bs.map Value.bool:=by
   intro bs;induction bs with
   |nil=>intro its r;cases r;rfl
   |cons b bs ih=>
    intro its r;cases r with
    |cons r rr=>
     obtain rfl:=(show _=Value.bool b from r)
     rw[ih _ rr];rfl
  exact go bs its rv
 subst vg;obtain⟨ob,OZ,_⟩:=id pl.isList;have dB:p<s.heap.objs.size:=bg OZ;refine call_any_walk (pR pl.isList ⟨s.heap.objs.size,_,_,_,_,_,fun i=>bs.getD i false,rfl,Walks.list (show X.A.in1.handled=none from I.ok.hd hc) _ p (bf dB) _,⟨⟨_,ci _ rfl,rfl,rfl⟩,pl.isList.push _⟩,fun i v s1 Q' E' hv hq=>?_,fun h' tk k=>?_⟩)
 .have uP:(bs.map Value.bool)[i]?=some v:=by simpa using hv
  rw[bw] at uP;cases eb:bs[i]? with
  |none=>rw[eb] at uP;cases uP
  |some b=>
   rw[eb] at uP;obtain rfl:Value.bool b=v:=bh uP;have:bs.getD i false=b:=by rw[dS,eb];rfl
   have Ch:Q' b s1:=by rw[<-this];exact hq
   exact wpAny_pure Ch
 .have keep:∀b o,s.heap.get? b=some o->h'.get? b=some o:=fun b o e=>k b o (by simpa using bf (bg e)) (bJ _ e);refine⟨.bl (bs.any id),H,I.kept (t':=tk) keep,?_,q⟩;show Value.bool _=Value.bool _;congr 1;have go:∀ (bs:List Bool),((List.range bs.length).any fun i=>bs.getD i false)=bs.any id:=by
   intro bs;induction bs with
   |nil=>rfl
   |cons b bs ih=>
    rw[dv,tW,jZ,List.any_map,jZ,<-ih];rfl
  rw[<-go bs];simp
end
def dz(c:Addr)(qual:Str):HO:=.ext fun h=>h.CodeRec (.ref c) qual
theorem r0(x:h.CodeRec (.ref c) qual):bX P w H h c (dz c qual):=by
 refine⟨x,?_,?_⟩
 .obtain⟨c',o,vs,t,e,ho,_⟩:=x;cases e;exact⟨o,ho⟩
 .rintro h1 h2 ⟨c',o,vs,t,e,ho,r⟩ k;cases e;exact⟨c,o,vs,t,rfl,k o ho,r⟩
def EH(f:Addr)(qual:Str)(params:Arguments)(body:Expr)(scope:Scope)(cells:List (Str×Addr))(c:Addr)(h:Heap):Prop:=
 ∃ (aI:List (Str×Addr)) (pm iS:Value),(∀x a,aI.lookup x=some a->cells.lookup x=some a)/\(∀x,(x,NameKind.free)∈scope.names->∃a,aI.lookup x=some a)/\
  h.get? f=some (PySem.W.kla_obj "<lambda>" qual params body scope aI pm c iS)
def eN(f:Addr)(qual:Str)(params:Arguments)(body:Expr)(scope:Scope)(cells:List (Str×Addr))(c:Addr):HO:=.ext (EH f qual params body scope cells c)
theorem lI(x:EH f qual params body scope cells c h):
  bX P w H h f (eN f qual params body scope cells c):=by
 refine⟨x,?_,?_⟩
 .obtain⟨_,_,_,_,_,e⟩:=x;exact⟨_,e⟩
 .rintro h1 h2 ⟨aI,pm,iS,a,b,e⟩ k;exact⟨aI,pm,iS,a,b,k _ e⟩
def cw(lp:Pos)(qual:Str)(P:Addr)(H:Hp):Prop:=H P=some (.de #[])\/∃c,H P=some (.de #[rawInt lp.line,rawInt lp.col,.ref c])/\H c=some (dz c qual)
structure vh(X:Cx)(c P:Addr):Prop where
 code:X.env.code=.ref c
 hd:PySem.W.CodeHd X.base c P
 bm:∃bm o,X.mg "__builtins__"=some (.ref bm)/\bm≠builtinsNs/\bm≠mainGlobals/\X.base.get? bm=some o/\o.cls=.type "module"/\o.dict=some builtinsNs/\o.data=.plain
def O0(lp:Pos)(qual:Str)(P:Addr)(params:Arguments)(body:Expr)(scope:Scope)(cells:List (Str×Addr)):TE:=fun _ H Q=>cw lp qual P H/\
 ∀ (f c:Addr) (H2:Hp),cw lp qual P H2->(∀b o,H b=some o->b≠P->H2 b=some o)->H2 c=some (dz c qual)->H2 f=some (eN f qual params body scope cells c)->Q (.ref f) H2
theorem r6{lp:Pos}{c:Addr}:TriplesOk (#[rawInt lp.line,rawInt lp.col,.ref c]:Array Value).toList:=trivial
theorem xR:codeAmong lp (#[rawInt lp.line,rawInt lp.col,.ref c]:Array Value).toList=some (.ref c):=by
 show (if ((lp.line:Int)==(lp.line:Int)&&(lp.col:Int)==(lp.col:Int))=true then some (Value.ref c) else _)=_;simp
section
variable {X:Cx} {c P:Addr} {params:Arguments} {body:Expr} {scope:Scope} {lp:Pos} {NB:List Str} {src:List (Option Nat)}
theorem vh.at(C:vh X c P)(I:av X ae σ H s)(hP:H P=some (.de ps)):s.heap.BuiltinsAt X.mg P:=by
 obtain⟨bm,o,b1,b2,b3,b4,b5,b6,b7⟩:=C.bm;refine⟨bm,o,b1,b2,b3,fun z=>?_,I.bk _ _ b4,b5,b6,b7⟩;have:=(I.bs _ _ b4).2;rw[z,hP] at this;cases this
theorem av.wz(I:av X ae σ H s):s.heap.Ns mainGlobals X.mg:=I.mod.glob.keeps I.bk
theorem vi(C:vh X c P)(S:cI NB src scope X)(vj:defaultsOf params X.env=([],[]):=by rfl):PE X (.Lambda params body scope lp) (O0 lp (X.env.qual++"<lambda>") P params body scope X.env.cells):=by
 intro ae s σ H Q I h;obtain⟨V4,h⟩:=h;obtain⟨aI,J4,c1,c2⟩:=gj I.ok S;refine PySem.W.kla_eval vj ?_;have fq:∀b o,s.heap.get? b=some o->b<s.heap.objs.size:=fun b o e=>bg e;rcases V4 with hP|⟨c',hP,BK⟩
 .-- TQ first time
  have zY:s.heap.get? P=some (PySem.W.tabObj #[]):=I.aW P _ hP;have O1:X.env.locals≠P:=fun z=>by have f:=I.free;rw[z,hP] at f;cases f
  have O2:mainGlobals≠P:=fun z=>by
   obtain⟨o,es,ep,e,d,_⟩:=I.mod.glob;have:=(I.bs _ _ e).2;rw[z,hP] at this;cases this
  refine yS (mg:=X.mg) J4 I.ok.glob I.wz C.code (C.hd.keeps I.bk) zY (by trivial) rfl O2 (C.at I hP) fun c' iS h' tk hx ql dB F2 J5=>?_;have qm:∀b o,b≠P->s.heap.get? b=some o->(h'.push (PySem.W.kla_obj "<lambda>" (X.env.qual++"<lambda>") params body scope aI ((X.mg "__name__").getD .none) c' iS)).get? b=some o:=fun b o hb e=>bJ _ (hx b o hb e);have O4:c'≠P:=iM (bK (fq _ _ zY) ql);have O5:h'.objs.size≠P:=iM (bK (fq _ _ zY) (bp ql (jp dB)));have O6:h'.objs.size≠c':=iM dB;have nf:H h'.objs.size=none:=I.aW.fresh (by lia);have nc:H c'=none:=I.aW.fresh ql
  let H2:Hp:=upd (upd (upd H P (.de #[rawInt lp.line,rawInt lp.col,.ref c'])) c' (dz c' (X.env.qual++"<lambda>"))) h'.objs.size (eN h'.objs.size (X.env.qual++"<lambda>") params body scope X.env.cells c')
  have eP:H2 P=some (.de #[rawInt lp.line,rawInt lp.col,.ref c']):=by
   show upd _ _ _ _=_;rw[ah O5.symm,ah O4.symm,af]
  have ec:H2 c'=some (dz c' (X.env.qual++"<lambda>")):=by
   show upd _ _ _ _=_;rw[ah O6.symm,af]
  have ef:H2 h'.objs.size=some (eN h'.objs.size (X.env.qual++"<lambda>") params body scope X.env.cells c'):=af;have eo:∀b,b≠P->b≠c'->b≠h'.objs.size->H2 b=H b:=fun b h1 h2 h3=>by
   show upd _ _ _ _=_;rw[ah h3,ah h2,ah h1]
  have d_:∀b o,H b=some o->b≠P->H2 b=some o:=fun b o e hb=>by
   rw[eo b hb (ai e nc) (ai e nf)];exact e
  have I2:av X ae σ H2 { s with heap:=h'.push (PySem.W.kla_obj "<lambda>" (X.env.qual++"<lambda>") params body scope aI ((X.mg "__name__").getD .none) c' iS),toks:=tk }:=by
   refine I.step (g':=s.gens) (d':=s.drawn) (ch:=[]) (fun _ z=>absurd z (by simp)) (fun b o _ _ _ e n=>qm b o (fun z=>by rw[z,hP] at n;cases n) e) (fun b o _ _ _ e n=>⟨o.slots,qm b o (fun z=>by rw[z,hP] at n;cases n) e⟩)
    (fun b o _ e n=>?_) (fun b o _ e=>?_) (fun b xs e=>d_ b _ e fun z=>by rw[z,hP] at e;cases e) (fun b o u e=>d_ b _ e fun z=>by rw[z,hP] at e;cases e) (fun b ps e=>?_) (fun m hm=>?_) (fun b o e=>?_) I.bare
   .rw[eo b (fun z=>by rw[z,hP] at n;cases n) (bf (bK (fq b o e) ql)) (bf (bK (fq b o e) (bp ql (jp dB))))];exact n
   .by_cases hb:b=P
    .exact⟨_,by rw[hb];exact bJ _ J5⟩
    .exact⟨o,qm b o hb e⟩
   .by_cases hb:b=P
    .rw[hb] at e |-;rw[hP] at e;cases e;exact⟨#[rawInt lp.line,rawInt lp.col,.ref c'],by rw[eP];simp⟩
    .exact⟨#[],by rw[d_ b _ e hb];simp⟩
   .exact(hm.extBut hx O1).push _
   .by_cases J6:b=h'.objs.size
    .subst J6;rw[ef] at e;cases e;exact lI ⟨aI,_,iS,c1,c2,ci _ rfl⟩
    .by_cases Iy:b=c'
     .subst Iy;rw[ec] at e;cases e;refine r0 ?_;obtain⟨c₂,oc,vs,t,e2,En,r⟩:=F2;exact⟨c₂,oc,vs,t,e2,bJ _ En,r⟩
     .by_cases F3:b=P
      .subst F3;rw[eP] at e;cases e;exact bJ _ J5
      .rw[eo b F3 Iy J6] at e;refine(I.aW b o e).iE (fun d u hd q=>qm d u ?_ q) (fun d q=>d_ d _ q fun z=>by rw[z,hP] at q;cases q) fun d xs q=>d_ d _ q fun z=>by rw[z,hP] at q;cases q
       rintro rfl;rcases hd with z|z
       .exact F3 z.symm
       .rw[hP] at z;cases z
  exact⟨.ref h'.objs.size,H2,I2,rfl,h _ c' H2 (.inr ⟨c',eP,ec⟩) d_ ec ef⟩
 .-- again
  have zY:s.heap.get? P=some (PySem.W.tabObj #[rawInt lp.line,rawInt lp.col,.ref c']):=I.aW P _ hP;refine yM (mg:=X.mg) J4 I.ok.glob I.wz C.code (C.hd.keeps I.bk) zY r6 xR (C.at I hP) fun iS h' tk hk ql=>?_;have nf:H h'.objs.size=none:=I.aW.fresh ql
  let H2:Hp:=upd H h'.objs.size (eN h'.objs.size (X.env.qual++"<lambda>") params body scope X.env.cells c')
  have ef:H2 h'.objs.size=some (eN h'.objs.size (X.env.qual++"<lambda>") params body scope X.env.cells c'):=af;have d_:∀b o,H b=some o->H2 b=some o:=fun b o e=>by
   show upd _ _ _ _=_;rw[ah (ai e nf)];exact e
  have qm:∀b o,s.heap.get? b=some o->(h'.push (PySem.W.kla_obj "<lambda>" (X.env.qual++"<lambda>") params body scope aI ((X.mg "__name__").getD .none) c' iS)).get? b=some o:=fun b o e=>bJ _ (hk b o e);have I2:av X ae σ H2 { s with heap:=h'.push (PySem.W.kla_obj "<lambda>" (X.env.qual++"<lambda>") params body scope aI ((X.mg "__name__").getD .none) c' iS),toks:=tk }:=by
   refine I.step (g':=s.gens) (d':=s.drawn) (ch:=[]) (fun _ z=>absurd z (by simp)) (fun b o _ _ _ e n=>qm b o e) (fun b o _ _ _ e n=>⟨o.slots,qm b o e⟩)
    (fun b o _ e n=>?_) (fun b o _ e=>⟨o,qm b o e⟩) (fun b xs e=>d_ b _ e) (fun b o u e=>d_ b _ e) (fun b ps e=>⟨#[],by rw[d_ b _ e];simp⟩) (fun m hm=>(hm.keeps hk).push _) (I.aW.laid qm ql (lI ⟨aI,_,iS,c1,c2,ci _ rfl⟩)) I.bare
   .show upd _ _ _ _=_;rw[ah (bf (bK (fq b o e) ql))];exact n
  exact⟨.ref h'.objs.size,H2,I2,rfl,h _ c' H2 (.inr ⟨c',d_ _ _ hP,d_ _ _ BK⟩) (fun b o e _=>d_ b o e) (d_ _ _ BK) ef⟩
end
def vk(X:Cx)(id:String)(ks:List Str)(r:St->List V->List V->Hp->VK->Prop):Prop:=
 ∀ (ae:List (Addr×Obj)) (s:Shared) (σ:St) (H:Hp) (vs zs:List V) (us ws:List Value) (Q:VK),av X ae σ H s->aK vs us->aK zs ws->r σ vs zs H Q->
  wpAny (model X.prog X.w) X.A (call (.builtin id) us (ks.zip ws)) (EP X ae σ Q) X.xe s
def O7(r:St->List V->List V->Hp->VK->Prop)(t tk:TA):TE:=fun σ H Q=>t σ H fun vs H1=>tk σ H1 fun zs H2=>r σ vs zs H2 Q
section
variable {X:Cx} {x:Str} {p pos:Pos} {e:Expr} {es:List Expr} {zx:List Keyword} {t tk:TA} {id:String} {ks:List Str} {r:St->List V->List V->Hp->VK->Prop}
theorem o4(hc:vk X id ks r)(hg:Gl X x)(hm:X.mg x=none)(hv:bootBuiltins x=some (.builtin id))(ha:PA X (e::es) t)(V5:PK X zx tk)(hn:x≠"__name__":=by decide)(n9:(x==("__debug__":Str))=false:=by decide)(V6:(backToKw pos (keywordEach zx X.env)).filterMap (·.1)=ks:=by rfl)(he:backTo pos (starEach (e::es) X.env)=(false,eval e X.env)::backTo pos (starEach es X.env):=by rfl)(u3:(backTo pos (starEach (e::es) X.env)).any (·.1)=false:=by rfl)(rJ:(backToKw pos (keywordEach zx X.env)).all (·.1.isSome)=true:=by rfl)(xA:(backToKw pos (keywordEach zx X.env)).any (·.1.isNone)=false:=by rfl):PE X (.Call (.Name x p) (e::es) zx pos) (O7 r t tk):=by
 intro ae s σ H Q I h;refine kP (iZ I hg hm hv ?_ hn n9);refine PyProof.Rows.callWith_kw (cg (ha pos ae s σ H _ I h) fun us s1 ⟨vs,H1,I1,r1,q1⟩=>?_) he u3 rJ xA;refine cg (V5 pos ae s1 σ H1 _ I1 q1) fun ws s2 ⟨zs,H2,I2,rz,q2⟩=>?_;rw[V6];exact hc ae s2 σ H2 vs zs us ws Q I2 r1 rz q2
end
def F4(za zb:Int)(ns out:List Int):Prop:=∃ps:List (Int×Int),ps.Perm (ns.map fun z=>((z-za) % zb,z))/\out=ps.map (·.2)/\ps.Pairwise fun p q=>p.1<=q.1
def F5(X:Cx)(qual:Str)(params:Arguments)(body:Expr)(scope:Scope)(ia ib:Nat):St->List V->List V->Hp->VK->Prop:=fun σ vs zs H Q=>
 ∃ (l f c:Addr) (ns:List Int) (za zb:Int),vs=[.ref l]/\zs=[.ref f]/\bD X.K H l (ns.map V.int)/\ns.length<64/\H f=some (eN f qual params body scope X.env.cells c)/\H c=some (dz c qual)/\
  σ[ia]?=some (some (.int za))/\σ[ib]?=some (some (.int zb))/\0<zb/\∀ (r:Addr) (out:List Int),H r=none->F4 za zb ns out->Q (.ref r) (upd H r (.lst (out.map V.int)))
theorem o5:∀ {ns:List Int} {vs:List Value},aK (ns.map V.int) vs->IntsAre vs ns
 |[],_,.nil=>.nil
 |_::_,_,.cons ⟨t,e⟩ r=>by subst e;exact .cons _ t (o5 r)
structure J7(X:Cx)(qual:Str)(params:Arguments)(body:Expr)(scope:Scope)(y a b:Str)(ia ib:Nat):Prop where
 bd:∃p1 p2 p3 p4 p5,body=.BinOp (.BinOp (.Name y p1) .Sub (.Name a p2) p3) .Mod (.Name b p4) p5
 bind:∀aI pm c iS v,bindArgs (PySem.W.kla_fn "<lambda>" qual params body scope aI pm (.ref c) iS) ⟨[v],[]⟩=pure [(y,v)]
 na:X.N[ia]?=some a
 nb:X.N[ib]?=some b
 ca:X.env.scope.names.lookup a=some .cell
 cb:X.env.scope.names.lookup b=some .cell
 ly:scope.names.lookup y=some .local
 fa:scope.names.lookup a=some .free
 fb:scope.names.lookup b=some .free
 ma:(a,NameKind.free)∈scope.names
 mb:(b,NameKind.free)∈scope.names
 i9:∀z∈scope.names,z.2≠.cell
 kind:scope.kind=.function
 co:scope.isCoroutine=false
 gen:scope.isGenerator=false
 dy:(y==("__debug__":Str))=false
 da:(a==("__debug__":Str))=false/\(a==("__classdict__":Str))=false
 db:(b==("__debug__":Str))=false/\(b==("__classdict__":Str))=false
theorem vm(S:J7 X qual params body scope y a b ia ib)(hr:bQ k X.A):
  vk X "sorted" ["key"] (F5 X qual params body scope ia ib):=by
 intro ae s σ H vs zs us ws Q I r rz h;obtain⟨l,f,c,ns,za,zb,rfl,rfl,hl,EI,hf,hc,sa,sb,Yq,q⟩:=h;obtain⟨u1,rfl,r1⟩:=r.one;obtain rfl:u1=Value.ref l:=r1;obtain⟨w1,rfl,O8⟩:=rz.one;obtain rfl:w1=Value.ref f:=O8;obtain⟨its,rv,pl,hz⟩:=I.list hl;have hI:=o5 rv;obtain⟨m,F⟩:=I.fr;obtain⟨p1,p2,p3,p4,p5,rfl⟩:=S.bd;obtain⟨aI,pm,iS,c1,c2,Ct⟩:=(I.aW f _ hf).1;have J8:s.heap.CodeRec (.ref c) qual:=(I.aW c _ hc).1;obtain⟨m',M1,TR⟩:=I.loc;have J9:∃ca ta,aI.lookup a=some ca/\s.heap.IsCell ca (some (.int za ta)):=by
  obtain⟨u,⟨ta,rfl⟩,lk⟩:=TR ia a (.int za) S.na sa (.inr (.inl S.ca));obtain⟨ca,e1⟩:=c2 a S.ma;rcases lk with ⟨z,_⟩|⟨_,Yr,e2,e3⟩
  .have z':X.env.scope.names.lookup a=some .local:=z;rw[S.ca] at z';cases z'
  .have e4:=c1 a ca e1;rw[e2] at e4;cases e4;exact⟨ca,ta,e1,e3⟩
 have J_:∃cb tb,aI.lookup b=some cb/\s.heap.IsCell cb (some (.int zb tb)):=by
  obtain⟨u,⟨tb,rfl⟩,lk⟩:=TR ib b (.int zb) S.nb sb (.inr (.inl S.cb));obtain⟨cb,e1⟩:=c2 b S.mb;rcases lk with ⟨z,_⟩|⟨_,Ys,e2,e3⟩
  .have z':X.env.scope.names.lookup b=some .local:=z;rw[S.cb] at z';cases z'
  .have e4:=c1 b cb e1;rw[e2] at e4;cases e4;exact⟨cb,tb,e1,e3⟩
 obtain⟨ca,ta,ea,ha⟩:=J9;obtain⟨cb,tb,eb,hb⟩:=J_;have Ni:∀b' (o:Obj),s.heap.get? b'=some o->(∀es ep,o.data≠.dict es ep)->b'≠X.env.locals:=fun b' o e d z=>by
  obtain⟨o',es,ep,e',d',_⟩:=F.ns;rw[z,e'] at e;cases e;exact d _ _ d'
 have len:(ns.map fun z=>(z-za) % zb).length=its.length:=by rw[aT,hI.length]
 refine ksk_sorted (b:=false) (f:=.ref f) (kz:=ns.map fun z=>(z-za) % zb) F yZ pl.isList len (by rw[hI.length];exact EI) (ksk_s1 _ _) (fun x=>ksk_l1 _ _) (fun x=>ksk_t1 _ _) ?_ ?_
 .-- one key
  intro i v k hv hk h tk own F' N';have at_:∀b' u,b'≠X.env.locals->s.heap.get? b'=some u->h.get? b'=some u:=fun b' u jQ e=>by
   cases z:X.base.get? b' with
   |some o=>
    have:=I.bk b' o z;rw[e] at this;cases this;exact F'.keep b' _ z
   |none=>exact(N' (b',u) (fK _ (g9 jQ z e))).1
  have O9:=at_ f _ (Ni f _ Ct (by intro es ep z;cases z)) Ct;have O_:h.CodeRec (.ref c) qual:=by
   obtain⟨c0,o,V7,t0,e0,ho,hd,V8⟩:=J8;refine⟨c0,o,V7,t0,e0,at_ _ _ (Ni _ _ ho (by rw[hd];intro es ep z;cases z)) ho,hd,V8⟩
  have Oz:h.IsCell ca (some (.int za ta)):=by
   obtain⟨o,ho,hd⟩:=ha;exact⟨o,at_ _ _ (Ni _ _ ho (by rw[hd];intro es ep z;cases z)) ho,hd⟩
  have iP:h.IsCell cb (some (.int zb tb)):=by
   obtain⟨o,ho,hd⟩:=hb;exact⟨o,at_ _ _ (Ni _ _ ho (by rw[hd];intro es ep z;cases z)) ho,hd⟩
  obtain⟨z,tz,rfl,rfl⟩:∃z tz,v=.int z tz/\k=(z-za) % zb:=by
   obtain⟨n,t,e⟩:=hI.all v (cX hv);refine⟨n,t,e,?_⟩;rw[bw] at hk;have hn:=hI.nums;have e1:(its.map numOf)[i]?=some n:=by rw[bw,hv,e];rfl
   rw[hn] at e1;rw[e1] at hk;exact(bh hk).symm
  have r9:X.A.in1.in1.depth<recursionLimit:=by
   have:=hr.dp;show X.A.depth<_;lia
  refine gX (t6 r9 O9 rfl S.co S.gen rfl O_ ?_);rw[S.bind];refine wpAny_pure (ui S.i9 (fun x hx=>by rw[cy.mp hx];exact S.ly) (fun h₁ CG EJ=>⟨((I.ok.mod.nolimit).keeps F'.keep).fresh _ EJ,?_⟩) S.kind);have CH:∀b o,h.get? b=some o->h₁.get? b=some o:=fun b o e=>EJ.extBut b o (bf (bg e)) (bJ _ e);have V9:=Oz.keeps CH;have V_:=iP.keeps CH;refine tZ ?_;refine wpAny_BinOp (wpAny_BinOp ?_);refine j5 (uj S.kind S.ly CG (v:=.int z tz) (by simp) ?_) S.dy;refine j5 (ur S.kind S.fa ea V9 ?_ S.da.2) S.da.1;refine sub_int ?_;refine j5 (ur S.kind S.fb eb V_ ?_ S.db.2) S.db.1;refine mod_int' (by lia) ?_;rw[tI _ (by lia)];refine KskEnd.intro (news':=gc X.base s.heap X.env.locals++own) ⟨F'.ns.keeps CH,fun b o e=>CH b o (F'.keep b o e),F'.above⟩ (fun p hp=>⟨CH _ _ (N' p hp).1,(N' p hp).2⟩) fun p hp=>hp
 .-- TQ list
  intro D h' tk out cc F' N' dB Pa;have hD:=om I N' dB;obtain⟨ps,hp,ho,hs⟩:=Pa;have u4:∀p∈ps,∃n t,p.2=.int n t:=fun p Ix=>by
   have:=hp.mem_iff.mp Ix;exact hI.all _ (jW this).2
  have Wa:((ns.map fun z=>(z-za) % zb).zip its).map (fun p=>(p.1,numOf p.2))=ns.map fun z=>((z-za) % zb,z):=by
   have hn:=hI.nums;rw[<-hn];have go:∀ (l:List Value),((((l.map numOf).map fun z=>(z-za) % zb).zip l).map fun p=>(p.1,numOf p.2))=(l.map numOf).map fun z=>((z-za) % zb,z):=by
    intro l;induction l with
    |nil=>rfl
    |cons x l ih=>simp only[jo,List.zip_cons_cons,ih]
   exact go its
  have zE:aK ((ps.map fun p=>(p.1,numOf p.2)).map (fun p=>V.int p.2)) (ps.map Prod.snd):=by
   have go:∀ (l:List (Int×Value)),(∀p∈l,∃n t,p.2=.int n t)->aK ((l.map fun p=>(p.1,numOf p.2)).map (fun p=>V.int p.2)) (l.map Prod.snd):=by
    intro l;induction l with
    |nil=>intro _;exact .nil
    |cons x l ih=>
     intro hx;refine .cons ?_ (ih fun p hp=>hx p (bS _ hp));obtain⟨n,t,e⟩:=hx x bU;show ∃t,x.2=Value.int (numOf x.2) t;rw[e];exact⟨t,rfl⟩
   exact go ps u4
  have xS:F4 za zb ns ((ps.map fun p=>(p.1,numOf p.2)).map (·.2)):=by
   refine⟨ps.map fun p=>(p.1,numOf p.2),?_,rfl,?_⟩
   .rw[<-Wa];exact hp.map _
   .refine l5.mpr (hs.imp fun {p q} z=>?_);simpa using z
  have Wb:h'.get? D=some (seqObj "list" out cc):=(N' _ bU).1;have I2:av X ae σ (upd H D (.lst (((ps.map fun p=>(p.1,numOf p.2)).map (·.2)).map V.int))) { s with heap:=h',toks:=tk }:=by
   refine I.JT F F' (fun p hp=>N' p (bS _ hp)) hD ⟨?_,ps.map Prod.snd,cc,?_,?_⟩
   .have h1:=hp.length_eq;rw[List.length_zip,len,Nat.min_self] at h1;simp only[aT];rw[h1,hI.length];exact bp (jp EI) (by decide)
   .have ev:=zE;simp only[gC] at ev |-;exact ev
   .rw[Wb,<-ho]
  exact⟨.ref D,_,I2,rfl,q D _ (I.aW.mK hD) xS⟩
def ln(mg:Str->Option Value)(base:Heap):Prop:=∃bm o,mg "__builtins__"=some (.ref bm)/\bm≠builtinsNs/\bm≠mainGlobals/\base.get? bm=some o/\o.cls=.type "module"/\o.dict=some builtinsNs/\o.data=.plain
def wA(ts:List Addr)(H:Hp):Prop:=(∀P∈ts,H P=some (.de #[]))/\∀b,H b=none\/(b∈ts/\H b=some (.de #[]))\/∃o xs,H b=some (.lh o (.lst xs))
theorem xT{P:Program}{w:World}{K:PySem.W.Frag}{mg mb:Str->Option Value}{CX:qZ}{k:Nat}{fa a:Addr}{fd:FuncData}{x:Str}{sp:Sp}{s₁:Shared}{vs:List Value}{ns:List Int}{ts:List Addr}(KX:K.In s₁.heap)(CG:s₁.heap.Ns mainGlobals mg)(hb:s₁.heap.Ns builtinsNs mb)(Wc:∀x:Str,x≠"__name__"->mb x=bootBuiltins x)(Pb:s₁.heap.NoLimit)(hg:s₁.gens=#[])(Wd:ln mg s₁.heap)(Ka:∀P∈ts,s₁.heap.get? P=some (PySem.W.tabObj #[]))(nW:∀P∈ts,∃c,PySem.W.codeHdIn K c P=true)(Pc:∀P∈ts,K.lookup P=none)(ha:s₁.heap.get? a=some { cls:=.type "list",data:=.seq vs.toArray })(hi:IntsAre vs ns)(hl:ns.length<=sizeLine)(hr:bQ k callerA)(F:∀base:Heap,K.In base->base.Ns mainGlobals mg->ln mg base->a9 P w K mg base CX k fa fd [x] sp)(Kb:∀ (s:Shared) (u:Value),BindsTo s fd ⟨[u],[]⟩ [(x,u)])(yB:∀H:Hp,wA ts H->bD K H a (ns.map V.int)->sp [.ref a] H (fun v _=>v=.bl true) fun _ _ _=>False)(Pd:∀H e s',CX [] H s₁ (fun _ _ _=>False) e s'->False):
  codeAny (model P w) callerA (.call (.ref fa) ⟨[.ref a],[]⟩) (fun r s'=>r=.ok (.ret (.bool true))/\OldK s₁.heap s'.heap/\s'.os=s₁.os/\AllBare s'.gens) s₁:=by
 have rv:=oU hi;have Pe:=hi.length;have Pf:a∉ts:=fun z=>by
  have:=Ka a z;rw[ha] at this;cases this
 have Kc:∀H:Hp,wA ts H->bD K H a (ns.map V.int)->gZ P w H s₁.heap->(∀b,H b≠none->b=a\/b∈ts)->(H a≠none->K.lookup a=none)->
   codeAny (model P w) callerA (.call (.ref fa) ⟨[.ref a],[]⟩) (fun r s'=>r=.ok (.ret (.bool true))/\OldK s₁.heap s'.heap/\s'.os=s₁.os/\AllBare s'.gens) s₁:=by
  intro H hO hS aW hA hK;have qo:∀ {b:Addr} {o:Obj},s₁.heap.get? b=some o->H b=none->(n0 s₁.heap H).get? b=some o:=fun e n=>yY e n;have Ir:∀ {b:Addr} {o:Obj},s₁.heap.get? b=some o->(∀v n,o.data≠.seq v n)->(∀v,o.data≠.fields v)->H b=none:=fun {b o} e d1 d2=>by
   cases q:H b with
   |none=>rfl
   |some u=>
    rcases hA b (by rw[q];simp) with e'|e'
    .subst e';rw[ha] at e;cases e;exact absurd rfl (d1 _ _)
    .rw[Ka b e'] at e;cases e;exact absurd rfl (d2 _)
  have Nj:∀ {b:Addr} {m:Str->Option Value},s₁.heap.Ns b m->(n0 s₁.heap H).Ns b m:=fun {b m} ⟨o,es,ep,e,d,r⟩=>⟨o,es,ep,qo e (Ir e (by rw[d];intro v n z;cases z) (by rw[d];intro v z;cases z)),d,r⟩
  have TU:K.In (n0 s₁.heap H):=fun b o e=>qo (KX b o e) (by
   cases q:H b with
   |none=>rfl
   |some u=>
    rcases hA b (by rw[q];simp) with e'|e'
    .subst e';rw[hK (by rw[q];simp)] at e;cases e
    .rw[Pc b e'] at e;cases e)
  have hB:ln mg (n0 s₁.heap H):=by
   obtain⟨bm,o,b1,b2,b3,b4,b5,b6,b7⟩:=Wd;exact⟨bm,o,b1,b2,b3,qo b4 (Ir b4 (by rw[b7];intro v n z;cases z) (by rw[b7];intro v z;cases z)),b5,b6,b7⟩
  have hM:Mod K mg (n0 s₁.heap H):=⟨TU,Nj CG,⟨mb,Nj hb,Wc⟩,let ⟨mc,h1,h2⟩:=Pb;⟨mc,Nj h1,h2⟩⟩
  have e0:rE P w K mg (n0 s₁.heap H) callerA [] s₁ H:=⟨rfl,hM,fun b o e=>B5 e,mj (xn _ _),trivial,fun b hb=>absurd (show b∈([]:List Addr) from hb) (by simp),aW,.of_eq hg⟩
  refine iW ((F _ TU (Nj CG) hB).run callerA [] s₁ H ⟨[.ref a],[]⟩ [.ref a] [.ref a] _ _ hr e0 (Kb s₁ (.ref a)) (.cons rfl .nil) (yB H hO hS)) fun r s' h=>?_;cases r with
  |error e=>exact(Pd H e s' h).elim
  |ok fl=>
   cases fl with
   |next=>exact False.elim h
   |brk=>exact False.elim h
   |cont=>exact False.elim h
   |ret u=>
    obtain⟨v,H',os,bare,un,Kd,r',q⟩:=h;have q':v=.bl true:=q;subst q';obtain rfl:u=Value.bool true:=r';refine⟨rfl,⟨fun b o e=>?_,fun b o e=>un.there b o e (by simp)⟩,os,bare⟩;cases q:H b with
    |none=>exact .inl (un.keep b o e q (by intro z;exact absurd (show b∈([]:List Addr) from z) (by simp)) (by simp))
    |some u=>
     rcases hO.2 b with z|⟨zt,z⟩|⟨ob,xs,z⟩
     .rw[q] at z;cases z
     .obtain⟨more,z2⟩:=un.eS b _ z;have e1:=Ka b zt;rw[e] at e1;cases e1;have e2:s'.heap.get? b=some { cls:=.none,data:=.fields (#[]++more) }:=Kd b _ z2;obtain⟨c,hc⟩:=nW b zt;obtain⟨oc,We,_,_,_,_,_,_,_,g1,g2,g3,g4,_⟩:=PySem.W.codeHd_of_K KX hc;exact .inr (.inl ⟨⟨c,oc,We,g1,g2,g3,g4⟩,rfl,#[],more,rfl,e2⟩)
     .have z2:=un.eJ b ob _ z;obtain⟨e1,_⟩:=aW b _ z;obtain⟨e2,_⟩:=Kd b _ z2;rw[e] at e1;cases e1;exact .inl e2
 have TV:∀ (H:Hp),(∀P∈ts,H P=some (.de #[]))->True:=fun _ _=>trivial
 classical
 cases hk:K.lookup a with
 |some o=>
  have e:=KX a o hk;rw[ha] at e;cases e;refine Kc (fun b=>if b∈ts then some (.de #[]) else none) ⟨fun P hP=>ao hP,fun b=>?_⟩ (.inr ⟨_,vs.toArray,_,hk,rfl,rfl,rfl,by rw[bT,Pe];exact hl,by simpa using rv⟩) (fun b u z=>?_) (fun b z=>?_) fun z=>absurd (am Pf) z
  .by_cases hb:b∈ts
   .exact .inr (.inl ⟨hb,ao hb⟩)
   .exact .inl (am hb)
  .by_cases hb:b∈ts
   .have z':=(ao hb).symm.trans z;cases z';exact Ka b hb
   .have z':=(am hb).symm.trans z;cases z'
  .by_cases hb:b∈ts
   .exact .inr hb
   .exact absurd (am hb) z
 |none=>
  refine Kc (fun b=>if b=a then some (.lh { cls:=.type "list",data:=.seq vs.toArray } (.lst (ns.map V.int))) else if b∈ts then some (.de #[]) else none) ⟨fun P hP=>?_,fun b=>?_⟩ (.inl (.inr ⟨{ cls:=.type "list",data:=.seq vs.toArray },ao rfl⟩)) (fun b u z=>?_) (fun b z=>?_) fun _=>hk
  .have:P≠a:=fun z=>Pf (z ▸ hP);show (if P=a then _ else if P∈ts then _ else _)=_;rw[am this,ao hP]
  .by_cases hb:b=a
   .exact .inr (.inr ⟨_,_,ao hb⟩)
   .by_cases ht:b∈ts
    .exact .inr (.inl ⟨ht,by show (if b=a then _ else if b∈ts then _ else _)=_;rw[am hb,ao ht]⟩)
    .exact .inl (by show (if b=a then _ else if b∈ts then _ else _)=_;rw[am hb,am ht])
  .by_cases hb:b=a
   .have z':=(ao hb).symm.trans z;cases z';subst hb;exact⟨ha,by rw[aT];exact hl,vs,_,rv,ha⟩
   .have z1:(if b∈ts then some (HO.de #[]) else none)=some u:=(am hb).symm.trans z;by_cases ht:b∈ts
    .rw[ao ht] at z1;cases z1;exact Ka b ht
    .rw[am ht] at z1;cases z1
  .by_cases hb:b=a
   .exact .inl hb
   .by_cases ht:b∈ts
    .exact .inr ht
    .exact absurd (by show (if b=a then _ else if b∈ts then _ else _)=_;rw[am hb,am ht]) z
theorem zZ{l:PySem.W.OpenLaw}{n k:Nat}{q:Program}{oT:List Str}{XP:(Str->Option Value)->Heap->Prop}{YP:World->Heap->Prop}{d:DefRec}{K:Params->PySem.W.Frag}{CX:World->qZ}{sp:World->Sp}{x:Str}{ts:List Addr}(hn:l.most=some n)(M6:n<=sizeLine)(JD:d.params.defaults=[])(hr:bQ k callerA)(hY:∀ (w:World) (h:Heap),YP w h->(K w.params).In h)(hT:∀ (w:World) (h:Heap),YP w h->∀P∈ts,h.get? P=some (PySem.W.tabObj #[]))(nW:∀ (w:World),∀P∈ts,∃c,PySem.W.codeHdIn (K w.params) c P=true)(Pc:∀ (w:World),∀P∈ts,(K w.params).lookup P=none)(F:∀ (w:World) (mg:Str->Option Value) (fa:Addr) (h:Heap),(K w.params).In h->h.Ns mainGlobals mg->mg d.name=some (.ref fa)->
   ∃fd:FuncData,(∀ (s:Shared) (u:Value),BindsTo s fd ⟨[u],[]⟩ [(x,u)])/\
    ∀base:Heap,(K w.params).In base->base.Ns mainGlobals mg->ln mg base->a9 l.prog w (K w.params) mg base (CX w) k fa fd [x] (sp w))(yB:∀ (w:World) (H:Hp) (a:Addr) (ns:List Int),ns.length<=n->wA ts H->bD (K w.params) H a (ns.map V.int)->sp w [.ref a] H (fun v _=>v=.bl true) fun _ _ _=>False)(Pd:∀ (w:World) (H:Hp) (s:Shared) (e:Value) (s':Shared),CX w [] H s (fun _ _ _=>False) e s'->False):
  PySem.W.WalkO q oT XP YP l.row.toRowW d [] (fun f vs=>PySem.call f vs):=by
 refine Th.rK hn JD fun w s₀ s₁ mg mb fa o pm cd jg a vs ns G Y ho hd Wf JE FR zF dC hg=>?_;have KX:=hY w _ Y;obtain⟨fd,hb,hF⟩:=F w mg fa _ KX G.T.g JE;have hB:ln mg s₁.heap:=by
  obtain⟨bm,ob,b1,b2,b3,b4,b5,b6⟩:=G.T.bmain;refine⟨bm,ob,b1,b2,fun z=>?_,b3,b4,b5,b6⟩;obtain⟨o',es,ep,e,y6,_⟩:=G.T.g;rw[z,e] at b3;cases b3;rw[y6] at b6;cases b6
 exact xT KX G.T.g G.T.b G.T.builtins G.T.nolimit hg hB (hT w _ Y) (nW w) (Pc w) FR zF (bp dC M6) hr hF hb (fun H hO hS=>yB w H a ns dC hO hS) fun H e s'=>Pd w H s₁ e s'
structure lu(K:PySem.W.Frag)(x qual:Str)(st:Stmt)(f:Addr)(fd:FuncData)(c:Addr):Prop where
 ex:∃ (oc:Value) (od:Option Addr) (kV jg pm:Value) (an:Option Addr) (ct:Value) (q0:Array (Option Value)),
  fd=PySem.W.fnOf x qual (b9 st) (aX st) (al st) .none kV jg pm an (.ref c) ct/\K.lookup f=some ⟨oc,od,.func fd,q0⟩/\PySem.W.codeIn K (.ref c) qual=true
 kp:PySem.W.keepIn K (.ref f)=true
theorem lu.fun{K:PySem.W.Frag}{x qual:Str}{st:Stmt}{f:Addr}{fd:FuncData}{c:Addr}(F:lu K x qual st f fd c):fJ K x qual st f fd:=by
 obtain⟨oc,od,kV,jg,pm,an,ct,q0,e,lk,nW⟩:=F.ex;exact⟨⟨oc,od,kV,jg,pm,an,_,ct,q0,e,lk,nW⟩,F.kp⟩
section
variable {P:Program} {w:World} {K:PySem.W.Frag} {mg:Str->Option Value} {base:Heap}
theorem lu.ok{x qual:Str}{st:Stmt}{f:Addr}{fd:FuncData}{c:Addr}{N ps:List Str}{k:Nat}{sp:Sp}(F:lu K x qual st f fd c)(S:aE N ps (al st))(len:∀vs H Q E,sp vs H Q E->vs.length=ps.length)(mE:∀ (A:Around) (outer:List Env) (s:Shared) (H:Hp) (vs:List V) (Q:VK) (E:XK),bQ k (A.deeper (envOfC qual (al st) s.heap.objs.size f (.ref c)))->sp vs H Q E->
   ∃t,oE (gJ be P w K mg base N qual (al st) f (.ref c) A outer s H E).BL (aX st) t/\t { nx:=fun _ H'=>Q .bH H',rt:=Q } (start N vs) H):a9 P w K mg base be (k+1) f fd ps sp:=by
 obtain⟨oc,od,kV,jg,pm,an,ct,q0,rfl,lk,nW⟩:=F.ex;refine zz lk nW S len fun A outer s H vs Q E hr yB=>?_;obtain⟨t,h,q⟩:=mE A outer s H vs Q E hr yB;exact⟨t,h.BL,q⟩
theorem qp{x qual:Str}{st:Stmt}{f c:Addr}{oc:Value}{od an:Option Addr}{q0:Array (Option Value)}{kV jg pm ct:Value}(l:K.lookup f=some ⟨oc,od,.func (PySem.W.fnOf x qual (b9 st) (aX st) (al st) .none kV jg pm an (.ref c) ct),q0⟩)(nW:PySem.W.codeIn K (.ref c) qual=true)(kp:PySem.W.keepIn K (.ref f)=true):lu K x qual st f (PySem.W.fnOf x qual (b9 st) (aX st) (al st) .none kV jg pm an (.ref c) ct) c:=⟨⟨oc,od,kV,jg,pm,an,ct,q0,rfl,l,nW⟩,kp⟩
theorem jF(kb:K.In base)(hb:ln mg base)(hc:PySem.W.codeHdIn K c P'=true):
  vh (gJ CX P w K mg base N qual scope f (.ref c) A outer s H E).BL c P':=⟨rfl,PySem.W.codeHd_of_K kb hc,hb⟩
end
def lJ(sc Pg:Scope)(y:Str×NameKind):Bool:=match y.2 with
 |.cell=>(match sc.names.lookup y.1 with|some .cell=>true|_=>false)
 |.local=>(match sc.names.lookup y.1 with|some .local=>true|_=>false)
 |.free=>(match Pg.names.lookup y.1 with|some .cell=>true|some .free=>true|_=>false)
 |_=>true
def z_(NB:List Str)(src:List (Option Nat))(sc:Scope)(N:List Str)(i:Nat):Bool:=match NB[i]?,src[i]? with
 |some x,some (some j)=>(N[j]?==some x)&&(match sc.names.lookup x with|some .free=>true|_=>false)
 |_,_=>true
def wB(sc:Scope):Bool:=match sc.kind with|.function=>true|_=>false
def Aa(NB:List Str)(src:List (Option Nat))(sc Pg:Scope)(N:List Str):Bool:=
 wB sc&&decide NB.Nodup&&(src.length==NB.length)&&(sc.names.all (lJ sc Pg))&&(List.range NB.length).all (z_ NB src sc N)
theorem bz(h:Aa NB src sc X.env.scope X.N=true):cI NB src sc X:=by
 unfold Aa at h;simp only[fg,pN,eQ,lX] at h;obtain⟨⟨⟨⟨h1,h2⟩,h3⟩,h4⟩,h5⟩:=h;refine⟨?_,h2,h3,fun y hy z=>?_,fun y hy z=>?_,fun y hy z=>?_,fun i x j e1 e2=>?_⟩
 .unfold wB at h1;split at h1
  .assumption
  .cases h1
 .have:=h4 y hy;obtain⟨n,k⟩:=y;obtain rfl:k=.cell:=z;dsimp only[lJ] at this |-;split at this
  .assumption
  .cases this
 .have:=h4 y hy;obtain⟨n,k⟩:=y;obtain rfl:k=.local:=z;dsimp only[lJ] at this |-;split at this
  .assumption
  .cases this
 .have:=h4 y hy;obtain⟨n,k⟩:=y;obtain rfl:k=.free:=z;dsimp only[lJ] at this |-;split at this
  .exact .inl (by assumption)
  .exact .inr (by assumption)
  .cases this
 .have hi:i<NB.length:=(dD.mp e1).1;have:=h5 i (d5.mpr hi);unfold z_ at this;rw[e1,e2] at this;simp only[fg,eQ] at this;refine⟨this.1,?_⟩;have t2:=this.2;split at t2
  .assumption
  .cases t2
theorem dU{K:PySem.W.Frag}{a D:Addr}{xs:List V}{g:TG}{tt:TT}{te:TE}{eT:Hp->Prop}{σB:St}{H0:Hp}(Pv:Nat->List V->St->Hp->Prop)(h0:Pv 0 [] σB H0)(hl:∀i ys σ H,i<=xs.length->Pv i ys σ H->bD K H a xs)(hs:∀i x ys σ H (Kt:V->St->Hp->Prop) (Kf:St->Hp->Prop),xs[i]?=some x->Pv i ys σ H->
   (∀v σ2 H4,H4 D=some (.lst ys)->ys.length<sizeLine->Pv (i+1) (ys++[v]) σ2 (upd H4 D (.lst (ys++[v])))->Kt v σ2 H4)->(∀σ2 H3,Pv (i+1) ys σ2 H3->Kf σ2 H3)->
   g x σ H fun σ2 H2=>tt σ2 H2 fun b H3=>if b=true then te σ2 H3 fun v H4=>Kt v σ2 H4 else Kf σ2 H3)(hd:∀ys σ H,Pv xs.length ys σ H->eT H):iO (Ep K a) g tt te D eT σB H0:=by
 refine⟨fun i m σ H=>m=xs.length-i/\i<=xs.length/\∃ys,Pv i ys σ H,⟨xs.length,by simp,cu _,[],h0⟩,?_⟩;rintro i m σ H ⟨rfl,hi,ys,p⟩;have q:=hl i ys σ H hi p;by_cases dB:i<xs.length
 .refine .inr ⟨⟨xs,xs[i],q,by simp[dB]⟩,?_⟩;rintro x H' ⟨rfl,y⟩;exact hs i x ys σ _ (fun v σ2 H4=>∃ys,H4 D=some (.lst ys)/\ys.length<sizeLine/\∃m',m'<xs.length-i/\m'=xs.length-(i+1)/\i+1<=xs.length/\∃on,Pv (i+1) on σ2 (upd H4 D (.lst (ys++[v]))))
   (fun σ2 H3=>∃m',m'<xs.length-i/\m'=xs.length-(i+1)/\i+1<=xs.length/\∃on,Pv (i+1) on σ2 H3) (y xs q) p
   (fun v σ2 H4 z1 z2 z3=>⟨ys,z1,z2,_,by lia,rfl,dB,_,z3⟩) (fun σ2 H3 z=>⟨_,by lia,rfl,dB,_,z⟩)
 .have e:i=xs.length:=by lia
  subst e;exact .inl ⟨⟨xs,q,aG _⟩,hd ys σ H p⟩
theorem dq{lo:Int}{n:Nat}{D:Addr}{g:TG}{tt:TT}{te:TE}{eT:Hp->Prop}{σB:St}{H0:Hp}(Pv:Nat->List V->St->Hp->Prop)(h0:Pv 0 [] σB H0)(hs:∀i ys σ H (Kt:V->St->Hp->Prop) (Kf:St->Hp->Prop),i<n->Pv i ys σ H->
   (∀v σ2 H4,H4 D=some (.lst ys)->ys.length<sizeLine->Pv (i+1) (ys++[v]) σ2 (upd H4 D (.lst (ys++[v])))->Kt v σ2 H4)->(∀σ2 H3,Pv (i+1) ys σ2 H3->Kf σ2 H3)->
   g (.int (lo+i)) σ H fun σ2 H2=>tt σ2 H2 fun b H3=>if b=true then te σ2 H3 fun v H4=>Kt v σ2 H4 else Kf σ2 H3)(hd:∀ys σ H,Pv n ys σ H->eT H):iO (Es lo n) g tt te D eT σB H0:=by
 refine⟨fun i m σ H=>m=n-i/\i<=n/\∃ys,Pv i ys σ H,⟨n,by simp,cu _,[],h0⟩,?_⟩;rintro i m σ H ⟨rfl,hi,ys,p⟩;by_cases dB:i<n
 .refine .inr ⟨dB,?_⟩;rintro x H' ⟨rfl,rfl⟩;exact hs i ys σ _ (fun v σ2 H4=>∃ys,H4 D=some (.lst ys)/\ys.length<sizeLine/\∃m',m'<n-i/\m'=n-(i+1)/\i+1<=n/\∃on,Pv (i+1) on σ2 (upd H4 D (.lst (ys++[v]))))
   (fun σ2 H3=>∃m',m'<n-i/\m'=n-(i+1)/\i+1<=n/\∃on,Pv (i+1) on σ2 H3) dB p
   (fun v σ2 H4 z1 z2 z3=>⟨ys,z1,z2,_,by lia,rfl,dB,_,z3⟩) (fun σ2 H3 z=>⟨_,by lia,rfl,dB,_,z⟩)
 .have e:i=n:=by lia
  subst e;exact .inl ⟨aG _,hd ys σ H p⟩
section
variable {κ:Type} [DecidableEq κ]
end
section
variable {P:Program} {w:World} {H:Hp} {h:Heap} {a:Addr}
end
section
variable {X:Cx} {ae:List (Addr×Obj)} {σ:St} {H:Hp} {s:Shared} {a:Addr} {y v:V} {u r:Value} {o:Option V} {A:Around} {E:Value->Shared->Prop}
theorem av.big(I:av X ae σ H s):sysModules<s.heap.objs.size:=by
 have h:mainGlobals<s.heap.objs.size:=(I.mod.glob.keeps I.bk).lt;exact pZ (by decide) h
end
section
variable {X:Cx} {ae:List (Addr×Obj)} {σ:St} {H:Hp} {s:Shared} {a:Addr} {jq:List (nY×V)} {k:nY} {u:Value} {A:Around} {E:Value->Shared->Prop}
end
section
variable {X:Cx} {o i e value:Expr} {pos xq FJ:Pos} {td ty tv:TE}
end
theorem Ab{P:Program}{w:World}{H:Hp}(h:Heap)(hb:sysModules<h.objs.size):bX P w H (h.push { cls:=.type "dict",data:=.dict #[] }) h.objs.size (.dK []):=
 ⟨cu _,lT.mpr (ei (bf hb)),[],.nil,Heap.DictOf.new h⟩
def Ac:TE:=fun _ H Q=>∀p,H p=none->Q (.ref p) (upd H p (.dK []))
section
variable {X:Cx} {pos:Pos}
theorem r_:PE X (.Dict [] [] pos) Ac:=fun ae s σ H Q I h=>
 wpAny_Dict_empty ⟨.ref s.heap.objs.size,_,I.laid (a:=s.heap.objs.size) (o:=.dK []) (t':=s.toks) (fun _ _ q=>bJ _ q) (aG _) (Ab s.heap I.big),rfl,h _ (I.aW.fresh (aG _))⟩
end
section
variable {X:Cx} {ae:List (Addr×Obj)} {σ:St} {H:Hp} {s:Shared} {a:Addr} {y d:V} {u r:Value} {o:Option V} {A:Around} {E:Value->Shared->Prop}
end
section
variable {X:Cx} {o e f:Expr} {p_ ll:Pos} {td ty tx:TE}
end
section
variable {X:Cx} {ae:List (Addr×Obj)} {σ:St} {H:Hp} {s:Shared} {a:Addr} {jq:List (nY×V)} {A:Around} {E:Value->Shared->Prop}
end
section
variable {X:Cx} {ae:List (Addr×Obj)} {σ:St} {H:Hp} {s:Shared} {a:Addr} {y:V} {u:Value} {A:Around} {E:Value->Shared->Prop}
end
section
variable {X:Cx}
end
section
variable {κ:Type} [DecidableEq κ]
end
section
variable {X:Cx}
end
def Ke(K:PySem.W.Frag)(a:Addr):It:=
 ⟨fun i H=>∃xs x,bD K H a xs/\xs[i]?=some x,fun i H x H'=>∃p v,x=.ref p/\H p=none/\H'=upd H p (.tup [.int i,v])/\∀xs,bD K H a xs->xs[i]?=some v,fun i H=>∃xs,bD K H a xs/\xs.length<=i⟩
theorem av.wC(I:av X ae σ H s)(fe:eK X ae H e)(fi:eK X ae H it)(k:∀b o,b≠e->b≠it->s.heap.get? b=some o->h'.get? b=some o)(ke:∃o,h'.get? e=some o)(ki:∃o,h'.get? it=some o)(hp:s.heap.objs.size<=p)(hl:xs.length<=sizeLine)(r:aK xs its)(ht:h'.get? p=some { cls:=.type "tuple",data:=.seq its.toArray }):av X ae σ (upd H p (.tup xs)) { s with heap:=h',toks:=t' }:=by
 have hn:=I.aW.fresh hp;obtain⟨e0,e1,e2,e3,e4,e5⟩:=fe;obtain⟨i0,i1,i2,i3,i4,i5⟩:=fi;have ne:∀b o,s.heap.get? b=some o->b≠p:=fun b o q=>bf (bK (bg q) hp);have wD:∀b o,H b=some o->b≠e/\b≠it:=fun b o q=>⟨(fun z=>by rw[z,e0] at q;cases q),(fun z=>by rw[z,i0] at q;cases q)⟩
 refine I.step (g':=s.gens) (d':=s.drawn) (ch:=[e,it]) (fun b hb=>?_) (fun b o _ _ hb q _=>?_) (fun b o _ _ hb q _=>⟨o.slots,?_⟩) (fun b o hb q n=>by rw[ah (ne b o q)];exact n) (fun b o hb q=>⟨o,?_⟩)
  (fun b ys q=>by rw[ah (ai q hn)];exact q) (fun b o u q=>by rw[ah (ai q hn)];exact q) (fun b ps q=>⟨#[],by rw[ah (ai q hn),q];simp⟩) (fun m hm=>?_) (fun b o q=>?_) I.bare
 .rcases aR.mp hb with rfl|hb
  .exact⟨e3,e1,e4,e5⟩
  .rw[cy.mp hb];exact⟨i3,i1,i4,i5⟩
 .exact k b o (fun z=>hb (z ▸ bU)) (fun z=>hb (z ▸ bS _ bU)) q
 .exact k b o (fun z=>hb (z ▸ bU)) (fun z=>hb (z ▸ bS _ bU)) q
 .exact k b o (fun z=>hb (z ▸ bU)) (fun z=>hb (z ▸ bS _ bU)) q
 .obtain⟨o,es,ep,q,d,r'⟩:=hm;exact⟨o,es,ep,k _ _ e1.symm i1.symm q,d,r'⟩
 .by_cases hb:b=p
  .subst hb;rw[af] at q;cases q;exact⟨hl,its,r,_,ht,rfl,_,rfl,rfl⟩
  .rw[ah hb] at q;refine(I.aW b o q).iE (fun c u hc z=>k c u ?_ ?_ z) (fun c z=>by rw[ah (ai z hn)];exact z) fun c ys z=>by rw[ah (ai z hn)];exact z
   .rcases hc with rfl|hc
    .exact(wD _ _ q).1
    .exact(wD _ _ hc).1
   .rcases hc with rfl|hc
    .exact(wD _ _ q).2
    .exact(wD _ _ hc).2
theorem xU{P:Program}{w:World}{K:PySem.W.Frag}{es:List Expr}{x1:Nat}{pos:Pos}(a e it:Addr)(jQ:e≠it):
  rB P w K (.Tuple es x1 pos) (Ke K a) [e,it] e (fun i h=>(∃d_,IsEnum h e it (i:Int) d_)/\h.IsListIter it a i) where
 mem:=by simp
 obj:=fun i h st b hb=>by
  obtain⟨⟨d_,he⟩,⟨o,q,c,d⟩⟩:=st;rcases aR.mp hb with rfl|hb
  .exact⟨_,he,fun v z=>by
    have z':Data.fields _=Data.cell v:=z;cases z'⟩
  .rw[cy.mp hb];exact⟨o,q,fun v z=>by rw[d] at z;cases z⟩
 keep:=fun i h h' st k=>by
  obtain⟨⟨d_,he⟩,hi⟩:=st;exact⟨⟨d_,k e (by simp) _ he⟩,hi.at fun o q=>k it (by simp) o q⟩
 item:=by
  intro X hP hw hK hc i ae s σ H E I hf st hg;subst hP hw hK;obtain⟨xs,x,hq,hx⟩:=hg;obtain⟨its,rv,p,hz⟩:=I.list hq;obtain⟨u,hu,ru⟩:=rv.get hx;obtain⟨⟨d_,he⟩,hi⟩:=st;refine wpAny_pyNext_enum_item he hi p.isList (x:=u) (by simpa using hu) jQ fun h' ho BS ht fq k=>?_;refine⟨_,rfl,wpAny_letOwnedTupleGo_enum ho fun h2 Kg oJ=>?_⟩;have Kh:s.heap.objs.size≠e:=iM (bg he);have u_:h2.IsListIter it a (i+1):=BS.extBut oJ.extBut jQ.symm;have fe:=hf e (by simp);have fi:=hf it (by simp);have I2:av X ae σ (upd H s.heap.objs.size (.tup [.int i,x])) { s with heap:=h2,toks:=s.toks+1 }:=by
   refine I.wC (its:=[.int i s.toks,u]) fe fi (fun b o h1 h3 q=>(oJ.2 b h1).trans (k b o h1 h3 q)) ⟨_,Kg⟩ ?_ (aG _) (by show 2<=sizeLine;decide) (.cons ⟨_,rfl⟩ (.cons ru .nil)) ((oJ.2 _ Kh).trans ht);obtain⟨o,q,_⟩:=u_;exact⟨o,q⟩
  refine⟨.ref s.heap.objs.size,_,I2,rfl,⟨_,x,rfl,I.aW.fresh (aG _),rfl,fun ys hy=>by rw[I.rq hy hq];exact hx⟩,⟨⟨u,Kg⟩,u_⟩,fun b hb=>?_⟩;have f0:=(hf b hb).1;rw[ah]
  .exact f0
  .rcases aR.mp hb with rfl|hb
   .exact Kh.symm
   .rw[cy.mp hb];obtain⟨o,q,_⟩:=hi;exact bf (bg q)
 done:=by
  intro X hP hw hK hc i ae s σ H E I hf st hg;subst hP hw hK;obtain⟨xs,hq,hx⟩:=hg;obtain⟨its,rv,p,hz⟩:=I.list hq;obtain⟨f0,f1,f2,f3,f4,f5⟩:=hf it (by simp);obtain⟨⟨d_,he⟩,hi⟩:=st;have hl:=rv.length;exact wpAny_pyNext_enum_end (I.ok.hd hc) he hi p.isList (by simp;lia) fun h' eb=>⟨rfl,I.turned (t':=s.toks) (fun b o hb e=>eb b o hb e) f0 f1 f3 f4 f5⟩
 self:=fun _ _ _ _ _ st h=>by
  obtain⟨⟨d_,he⟩,_⟩:=st;exact pS he h
section
variable {X:Cx}
def Ki(K:PySem.W.Frag)(ta:TA):TI:=fun σ H R=>ta σ H fun vs H1=>∃a xs,vs=[.ref a]/\H1 a=some (.lst xs)/\R (Ke K a) H1
theorem CJ(hg:Gl X "enumerate")(hm:X.mg "enumerate"=none)(ha:PA X [a] ta)(hs:starEach [a] X.env=[(false,eval a X.env)]:=by rfl):
  PI X (.Tuple es x1 FJ) (.Call (.Name "enumerate" p) [a] [] pos) (Ki X.K ta):=by
 intro ae s σ H R I h;refine Call_ (iZ I hg hm (by decide +kernel:bootBuiltins "enumerate"=some (.type "enumerate")) (vT (cg (ha pos ae s σ H _ I h) fun us s1 ⟨vs,H1,I1,r1,q1⟩=>?_) hs rfl));obtain⟨l,xs,rfl,hl,q⟩:=q1;obtain⟨u1,rfl,Ph⟩:=r1.one;obtain rfl:u1=Value.ref l:=Ph;obtain⟨z,its,n,r,_,e⟩:=I1.Cp hl;refine call_enumerate_1 e fun h' he hi fq k=>?_;have jQ:s1.heap.objs.size+1≠s1.heap.objs.size:=Nat.succ_ne_self _;refine pS he ?_;have I2:av X ae σ H1 { s1 with heap:=h' }:=I1.kept (t':=s1.toks) k;refine⟨s1.heap.objs.size+1,[s1.heap.objs.size+1,s1.heap.objs.size],_,_,H1,rfl,I2,xU l _ _ jQ,⟨⟨_,he⟩,hi⟩,fun b hb=>?_,q⟩;have iP:s1.heap.objs.size<=b:=by
  rcases aR.mp hb with rfl|hb
  .exact p7 _
  .rw[cy.mp hb];exact aG _
 exact I1.rA iP (I1.aW.fresh iP)
theorem Ad{K:PySem.W.Frag}{a:Addr}{xs:List V}{g:TG}{tb:TS}{D:uF}{σ:St}{H:Hp}(Pv:Nat->St->Hp->Prop)(h0:Pv 0 σ H)(hl:∀i σ H,i<=xs.length->Pv i σ H->bD K H a xs)(hs:∀i x p σ H,xs[i]?=some x->Pv i σ H->H p=none->g (.ref p) σ (upd H p (.tup [.int i,x])) fun σ2 H2=>tb { D with nx:=Pv (i+1),ct:=Pv (i+1),bk:=D.nx } σ2 H2)(hd:∀σ H,Pv xs.length σ H->D.nx σ H):
  ∃W:Nat->Nat->St->Hp->Prop,(∃m,W 0 m σ H)/\∀i m σ H,W i m σ H->
   ((Ke K a).stop i H/\D.nx σ H)\/((Ke K a).go i H/\∃N:St->Hp->Prop,(∀σ' H',N σ' H'->∃m',m'<m/\W (i+1) m' σ' H')/\∀x H',(Ke K a).Iq i H x H'->g x σ H' fun σ2 H2=>tb { D with nx:=N,ct:=N,bk:=D.nx } σ2 H2):=by
 refine⟨fun i m σ H=>m=xs.length-i/\i<=xs.length/\Pv i σ H,⟨xs.length,by simp,cu _,h0⟩,?_⟩;rintro i m σ H ⟨rfl,hi,p⟩;have q:=hl i σ H hi p;by_cases dB:i<xs.length
 .refine .inr ⟨⟨xs,xs[i],q,by simp[dB]⟩,Pv (i+1),fun σ' H' p'=>⟨xs.length-(i+1),by lia,rfl,dB,p'⟩,fun x H' y=>?_⟩;obtain⟨pp,v,rfl,hn,rfl,hv⟩:=y;exact hs i v pp σ _ (hv xs q) p hn
 .have e:i=xs.length:=by lia
  subst e;exact .inl ⟨⟨xs,q,aG _⟩,hd σ H p⟩
end
section
variable {prog:Program} {w:World} {A:Around} {E:Value->Shared->Prop} {s:Shared}
theorem vn(yE:s.heap.IsTupleIter it t i)(ht:s.heap.IsTuple t xs)(hx:xs[i]?=some x)(q:∀h',h'.IsTupleIter it t (i+1)->Heap.SameBut it s.heap h'->Q x { s with heap:=h' }):wpAny (model prog w) A (Builtin.SmallTypes.nextOf (.ref it)) Q E s:=by
 obtain⟨o,h1,h2,h3⟩:=id yE;obtain⟨p,k1,_,n,k3⟩:=ht;unfold Builtin.SmallTypes.nextOf;refine aq (rm (name:=Str.ofString "__next__") yE.typeIs F.slot_tuple_iterator_next (jY F.slot_tuple_iterator_next yE.typeIs F.entry_tuple_iterator_next ?_ (F.args_tuple_iterator_next_1 _)));change wpAny _ _ (field (.ref it) 0 >>= _) _ _ s;refine aq (gW h1 h3 (x:=.ref t) rfl ?_);change wpAny _ _ (if (Value.ref t==Value.none)=true then _ else _) _ _ s;rw[am (by exact bV)];change wpAny _ _ (field (.ref it) 1 >>= _) _ _ s;refine aq (gW h1 h3 (x:=.int i 0) rfl ?_);change wpAny _ _ (seqItems? (.ref t) >>= _) _ _ s;refine aq (wpAny_seqItems k1 k3 ?_);simp only[jR,hx];refine aq (wpAny_setField h1 h3 (by simp) (wpAny_pure ⟨x,rfl,wpAny_pure (q _ ?_ (oC ..))⟩));refine⟨_,uf _ h1 (Obj.isFreed_of_fields (Obj.data_mapFields h3 _)),(Obj.cls_mapFields ..).trans h2,?_⟩;rw[Obj.data_mapFields h3];simp[rawInt]
theorem o6(hh:A.handled=none)(yE:s.heap.IsTupleIter it t i)(ht:s.heap.IsTuple t xs)(hx:xs[i]?=none)(q:∀h' e,Heap.ExtBut it s.heap h'->(∃o,h'.get? e=some o/\o.cls=.type "StopIteration")->E (.ref e) { s with heap:=h' }):wpAny (model prog w) A (Builtin.SmallTypes.nextOf (.ref it)) Q E s:=by
 obtain⟨o,h1,h2,h3⟩:=id yE;obtain⟨p,k1,_,n,k3⟩:=ht;unfold Builtin.SmallTypes.nextOf;refine aq (rm (name:=Str.ofString "__next__") yE.typeIs F.slot_tuple_iterator_next (jY F.slot_tuple_iterator_next yE.typeIs F.entry_tuple_iterator_next ?_ (F.args_tuple_iterator_next_1 _)));change wpAny _ _ (field (.ref it) 0 >>= _) _ _ s;refine aq (gW h1 h3 (x:=.ref t) rfl ?_);change wpAny _ _ (if (Value.ref t==Value.none)=true then _ else _) _ _ s;rw[am (by exact bV)];change wpAny _ _ (field (.ref it) 1 >>= _) _ _ s;refine aq (gW h1 h3 (x:=.int i 0) rfl ?_);change wpAny _ _ (seqItems? (.ref t) >>= _) _ _ s;refine aq (wpAny_seqItems k1 k3 ?_);simp only[jR,hx];refine aq (gb (aq (wpAny_setField h1 h3 (by simp) ?stop)));case stop=>
  change wpAny _ _ (newExc (.type "StopIteration") [] >>= _) _ _ _;refine aq ?_;simp only[newExc,newTuple];refine aq (lW (aq (m:=firstArgMember _ _) (wpAny_of_eq (a:=Value.none) (by simp only[firstArgMember];rfl) (lW ?_ (by size_fits)))) (by size_fits));simp only[raiseNew];refine aq (wpAny_handled ?_);rw[show A.in1.handled=none from hh];exact aq (wpAny_pure (wpAny_throw (q _ _ (fun b u hb z=>bJ _ (bJ _ ((ue _ _ (ei hb)).trans z))) ⟨_,ci _ rfl,rfl⟩)))
theorem sd(hh:A.handled=none)(it t:Addr)(jQ:t≠it)(xs:Array Value):Draws prog w A it [it,t] xs.size (fun i v=>xs[i]?=some v) (fun i h=>h.IsTupleIter it t i/\h.IsTuple t xs) where
 live:=fun _ _ st=>let ⟨o,ho,_⟩:=st.1;⟨o,ho⟩
 frame:=fun _ _ _ st hk=>⟨st.1.at fun o e=>hk it (by simp) o e,let ⟨o,e,r⟩:=st.2;⟨o,hk t (by simp) o e,r⟩⟩
 item:=fun i s Q E hi st q=>by
  refine vn st.1 st.2 (x:=xs[i]) (by simp[hi]) fun h' a b=>?_;obtain⟨o,e,r⟩:=st.2;exact q _ h' s.toks (by simp[hi]) ⟨a,o,(b.2 t jQ).trans e,r⟩ b
 done:=fun s Q E st q=>o6 hh st.1 st.2 (by simp) q
end
theorem xV(t:Addr)(xs:Array Value):
  Meets (Builtin.«enumerate.__new__» ⟨[.type "enumerate",.ref t],[]⟩) (fun _ R s=>s.heap.IsTuple t xs/\
   R (.ok (.ret (.ref (s.heap.push { cls:=.type "tuple_iterator",data:=.fields #[.ref t,.int 0 0] }).objs.size)))
    { s with heap:=(s.heap.push { cls:=.type "tuple_iterator",data:=.fields #[.ref t,.int 0 0] }).push { cls:=.type "enumerate",data:=.fields #[.none,.bool false,.ref s.heap.objs.size,rawInt 0,.none,.none] } }):=
 .of_wp fun prog w A R s h=>by
  obtain⟨hp,g,d,tk,os⟩:=s;obtain⟨hT,h⟩:=h;have hs:=sub_enumerate
  wp_walk
  refine wpAny_stack_any fun st=>wpAny_pure ?_;split
  .rename_i c _ _ _ _ _;cases (c==Value.type "enumerate") <;> (wp_walk using ux hT;exact⟨_,rfl,h⟩)
  .wp_walk using ux hT
   exact⟨_,rfl,h⟩
theorem vo(ht:s.heap.IsTuple t xs)(h:∀h',IsEnum h' (s.heap.objs.size+1) s.heap.objs.size 0 .none->h'.IsTupleIter s.heap.objs.size t 0->(∀b o,s.heap.get? b=some o->h'.get? b=some o)->Q (.ref (s.heap.objs.size+1)) { s with heap:=h' }):
  wpAny (model prog w) A (call (.type "enumerate") [.ref t]) Q E s:=by
 refine callType_new F.called_enumerate (by decide) (F.typeCall_enumerate_1 _) (F.newCall_enumerate_1 _) (fun obj=>F.args_object_init_2 obj _) F.entry_enumerate_new (xV t xs) ⟨ht,?_⟩;have hz:(s.heap.push { cls:=.type "tuple_iterator",data:=.fields #[.ref t,.int 0 0] }).objs.size=s.heap.objs.size+1:=kT ..;have he:IsEnum ((s.heap.push { cls:=.type "tuple_iterator",data:=.fields #[.ref t,.int 0 0] }).push
   { cls:=.type "enumerate",data:=.fields #[.none,.bool false,.ref s.heap.objs.size,rawInt 0,.none,.none] }) (s.heap.objs.size+1) s.heap.objs.size 0 .none:=by
  have q:=ci (s.heap.push { cls:=.type "tuple_iterator",data:=.fields #[.ref t,.int 0 0] }) (o:={ cls:=.type "enumerate",data:=.fields #[.none,.bool false,.ref s.heap.objs.size,rawInt 0,.none,.none] }) rfl;rw[hz] at q;exact q
 show _/\_;rw[hz];exact⟨⟨_,he,rfl⟩,h _ he ⟨_,bJ _ (ci _ rfl),rfl,rfl⟩ fun b o x=>bJ _ (bJ _ x)⟩
def F6(K:PySem.W.Frag)(a:Addr):It:=
 ⟨fun i H=>∃xs x,cQ K H a xs/\xs[i]?=some x,fun i H x H'=>∃p v,x=.ref p/\H p=none/\H'=upd H p (.tup [.int i,v])/\∀xs,cQ K H a xs->xs[i]?=some v,fun i H=>∃xs,cQ K H a xs/\xs.length<=i⟩
theorem vp{P:Program}{w:World}{K:PySem.W.Frag}{es:List Expr}{x1:Nat}{pos:Pos}(a e it:Addr)(jQ:e≠it)(Wg:a≠e)(Wi:a≠it):
  rB P w K (.Tuple es x1 pos) (F6 K a) [e,it] e (fun i h=>(∃d_,IsEnum h e it (i:Int) d_)/\h.IsTupleIter it a i) where
 mem:=by simp
 obj:=fun i h st b hb=>by
  obtain⟨⟨d_,he⟩,⟨o,q,c,d⟩⟩:=st;rcases aR.mp hb with rfl|hb
  .exact⟨_,he,fun v z=>by
    have z':Data.fields _=Data.cell v:=z;cases z'⟩
  .rw[cy.mp hb];exact⟨o,q,fun v z=>by rw[d] at z;cases z⟩
 keep:=fun i h h' st k=>by
  obtain⟨⟨d_,he⟩,hi⟩:=st;exact⟨⟨d_,k e (by simp) _ he⟩,hi.at fun o q=>k it (by simp) o q⟩
 item:=by
  intro X hP hw hK hc i ae s σ H E I hf st hg;subst hP hw hK;obtain⟨xs,x,hq,hx⟩:=hg;obtain⟨its,rv,p,hz⟩:=I.tuple hq;obtain⟨u,hu,ru⟩:=rv.get hx;obtain⟨⟨d_,he⟩,hi⟩:=st;have dB:i<its.toArray.size:=by
   have:=(dD.mp hu).1;simpa using this
  have D:=sd (prog:=X.prog) (w:=X.w) (A:=X.A.in1) (I.ok.hd hc) it a Wi its.toArray;refine wpAny_pyNext_enum_itemD D he ⟨hi,p⟩ dB jQ (by simp[jQ,Wg.symm]) fun u' h' tk wn ho hU ht fq k=>?_;have eu:u'=u:=by
   have h1:its.toArray[i]?=some u:=by simpa using hu
   rw[h1] at wn;exact(bh wn).symm
  subst eu;refine⟨_,rfl,wpAny_letOwnedTupleGo_enum ho fun h2 Kg oJ=>?_⟩;have Kh:s.heap.objs.size≠e:=iM (bg he);have u_:h2.IsTupleIter it a (i+1):=hU.1.at fun o q=>(oJ.2 it jQ.symm).trans q;have fe:=hf e (by simp);have fi:=hf it (by simp);have I2:av X ae σ (upd H s.heap.objs.size (.tup [.int i,x])) { s with heap:=h2,toks:=tk+1 }:=by
   refine I.wC (its:=[.int i tk,u']) fe fi (fun b o h1 h3 q=>(oJ.2 b h1).trans (k b o h1 h3 q)) ⟨_,Kg⟩ ?_ (aG _) (by show 2<=sizeLine;decide) (.cons ⟨_,rfl⟩ (.cons ru .nil)) ((oJ.2 _ Kh).trans ht);obtain⟨o,q,_⟩:=u_;exact⟨o,q⟩
  refine⟨.ref s.heap.objs.size,_,I2,rfl,⟨_,x,rfl,I.aW.fresh (aG _),rfl,fun ys hy=>by rw[I.oG hy hq];exact hx⟩,⟨⟨u',Kg⟩,u_⟩,fun b hb=>?_⟩;have f0:=(hf b hb).1;rw[ah]
  .exact f0
  .rcases aR.mp hb with rfl|hb
   .exact Kh.symm
   .rw[cy.mp hb];obtain⟨o,q,_⟩:=hi;exact bf (bg q)
 done:=by
  intro X hP hw hK hc i ae s σ H E I hf st hg;subst hP hw hK;obtain⟨xs,hq,hx⟩:=hg;obtain⟨its,rv,p,hz⟩:=I.tuple hq;obtain⟨f0,f1,f2,f3,f4,f5⟩:=hf it (by simp);obtain⟨⟨d_,he⟩,hi⟩:=st;have hl:=rv.length;unfold pyNext;have hT:s.TypeIs (.ref e) "enumerate":=⟨_,he,rfl⟩
  refine aq (wpAny_attempt (rm (name:=Str.ofString "__next__") hT F.slot_enumerate_next (jY F.slot_enumerate_next hT F.entry_enumerate_next ?_ (F.args_enumerate_next_1 _))));change wpAny _ _ (field (.ref e) 2 >>= _) _ _ _;refine aq (gW he rfl (x:=.ref it) rfl (aq (o6 (I.ok.hd hc) hi p (by simp;lia) fun h' x eb zS=>?_)));obtain⟨o,ho,zH⟩:=zS;exact aq (wpAny_isInstance (T:="StopIteration") (b:=true) ⟨o,ho,zH⟩ isSubtype_stop (wpAny_pure ⟨rfl,I.turned (t':=s.toks) (fun b o hb e=>eb b o hb e) f0 f1 f3 f4 f5⟩))
 self:=fun _ _ _ _ _ st h=>by
  obtain⟨⟨d_,he⟩,_⟩:=st;exact pS he h
section
variable {X:Cx}
def F7(K:PySem.W.Frag)(ta:TA):TI:=fun σ H R=>ta σ H fun vs H1=>∃a xs,vs=[.ref a]/\cQ K H1 a xs/\R (F6 K a) H1
theorem Ae(hg:Gl X "enumerate")(hm:X.mg "enumerate"=none)(ha:PA X [a] ta)(hs:starEach [a] X.env=[(false,eval a X.env)]:=by rfl):
  PI X (.Tuple es x1 FJ) (.Call (.Name "enumerate" p) [a] [] pos) (F7 X.K ta):=by
 intro ae s σ H R I h;refine Call_ (iZ I hg hm (by decide +kernel:bootBuiltins "enumerate"=some (.type "enumerate")) (vT (cg (ha pos ae s σ H _ I h) fun us s1 ⟨vs,H1,I1,r1,q1⟩=>?_) hs rfl));obtain⟨l,xs,rfl,hl,q⟩:=q1;obtain⟨u1,rfl,Ph⟩:=r1.one;obtain rfl:u1=Value.ref l:=Ph;obtain⟨its,rv,pt,hz⟩:=I1.tuple hl;have dB:l<s1.heap.objs.size:=by obtain⟨o,e,_⟩:=pt;exact bg e
 refine vo (show s1.heap.IsTuple l its.toArray from pt) fun h' he hi k=>?_;have jQ:s1.heap.objs.size+1≠s1.heap.objs.size:=Nat.succ_ne_self _;refine pS he ?_;have I2:av X ae σ H1 { s1 with heap:=h' }:=I1.kept (t':=s1.toks) k;refine⟨s1.heap.objs.size+1,[s1.heap.objs.size+1,s1.heap.objs.size],_,_,H1,rfl,I2,vp l _ _ jQ (bf (cZ dB)) (bf dB),⟨⟨_,he⟩,hi⟩,fun b hb=>?_,q⟩;have iP:s1.heap.objs.size<=b:=by
  rcases aR.mp hb with rfl|hb
  .exact p7 _
  .rw[cy.mp hb];exact aG _
 exact I1.rA iP (I1.aW.fresh iP)
theorem vq{K:PySem.W.Frag}{a D:Addr}{xs:List V}{g:TG}{tt:TT}{te:TE}{eT:Hp->Prop}{σB:St}{H0:Hp}(Pv:Nat->List V->St->Hp->Prop)(h0:Pv 0 [] σB H0)(hl:∀i ys σ H,i<=xs.length->Pv i ys σ H->cQ K H a xs)(hs:∀i x p ys σ H (Kt:V->St->Hp->Prop) (Kf:St->Hp->Prop),xs[i]?=some x->Pv i ys σ H->H p=none->
   (∀v σ2 H4,H4 D=some (.lst ys)->ys.length<sizeLine->Pv (i+1) (ys++[v]) σ2 (upd H4 D (.lst (ys++[v])))->Kt v σ2 H4)->(∀σ2 H3,Pv (i+1) ys σ2 H3->Kf σ2 H3)->
   g (.ref p) σ (upd H p (.tup [.int i,x])) fun σ2 H2=>tt σ2 H2 fun b H3=>if b=true then te σ2 H3 fun v H4=>Kt v σ2 H4 else Kf σ2 H3)(hd:∀ys σ H,Pv xs.length ys σ H->eT H):iO (F6 K a) g tt te D eT σB H0:=by
 refine⟨fun i m σ H=>m=xs.length-i/\i<=xs.length/\∃ys,Pv i ys σ H,⟨xs.length,by simp,cu _,[],h0⟩,?_⟩;rintro i m σ H ⟨rfl,hi,ys,p⟩;have q:=hl i ys σ H hi p;by_cases dB:i<xs.length
 .refine .inr ⟨⟨xs,xs[i],q,by simp[dB]⟩,?_⟩;rintro x H' ⟨pp,v,rfl,hn,rfl,hv⟩;exact hs i v pp ys σ _ (fun v σ2 H4=>∃ys,H4 D=some (.lst ys)/\ys.length<sizeLine/\∃m',m'<xs.length-i/\m'=xs.length-(i+1)/\i+1<=xs.length/\∃on,Pv (i+1) on σ2 (upd H4 D (.lst (ys++[v]))))
   (fun σ2 H3=>∃m',m'<xs.length-i/\m'=xs.length-(i+1)/\i+1<=xs.length/\∃on,Pv (i+1) on σ2 H3) (hv xs q) p hn
   (fun v σ2 H4 z1 z2 z3=>⟨ys,z1,z2,_,by lia,rfl,dB,_,z3⟩) (fun σ2 H3 z=>⟨_,by lia,rfl,dB,_,z⟩)
 .have e:i=xs.length:=by lia
  subst e;exact .inl ⟨⟨xs,q,aG _⟩,hd ys σ H p⟩
end
section
variable {X:Cx} {tg:Expr}
end
section
variable {prog:Program} {w:World} {A:Around} {E:Value->Shared->Prop} {s:Shared} {R:Result->Shared->Prop} {l d Ia:Addr}
end
section
variable {prog:Program} {w:World} {A:Around} {E:Value->Shared->Prop} {s:Shared} {l:Addr}
end
section
variable {X:Cx}
theorem o7(hc:X.calm=true):dE X (.builtin "all") (fun xs H Q=>∃ (p:Addr) (bs:List Bool),xs=[.ref p]/\bD X.K H p (bs.map V.bl)/\Q (.bl (bs.all id)) H):=by
 intro ae s σ H xs us Q I r h;obtain⟨p,bs,rfl,hp,q⟩:=h;obtain⟨u1,rfl,r1⟩:=r.one;obtain rfl:u1=Value.ref p:=r1;obtain⟨its,rv,pl,hz⟩:=I.list hp;have vg:its=bs.map Value.bool:=by
  have go:∀ (bs:List Bool) (its:List Value),aK (bs.map V.bl) its->its=bs.map Value.bool:=by
   intro bs;induction bs with
   |nil=>intro its r;cases r;rfl
   |cons b bs ih=>
    intro its r;cases r with
    |cons r rr=>
     obtain rfl:=(show _=Value.bool b from r)
     rw[ih _ rr];rfl
  exact go bs its rv
 subst vg;obtain⟨ob,OZ,_⟩:=id pl.isList;have dB:p<s.heap.objs.size:=bg OZ;refine call_all_walk (pR pl.isList ⟨s.heap.objs.size,_,_,_,_,_,fun i=>bs.getD i true,rfl,Walks.list (show X.A.in1.handled=none from I.ok.hd hc) _ p (bf dB) _,⟨⟨_,ci _ rfl,rfl,rfl⟩,pl.isList.push _⟩,fun i v s1 Q' E' hv hq=>?_,fun h' tk k=>?_⟩)
 .have uP:(bs.map Value.bool)[i]?=some v:=by simpa using hv
  rw[bw] at uP;cases eb:bs[i]? with
  |none=>rw[eb] at uP;cases uP
  |some b=>
   rw[eb] at uP;obtain rfl:Value.bool b=v:=bh uP;have:bs.getD i true=b:=by rw[dS,eb];rfl
   have Ch:Q' b s1:=by rw[<-this];exact hq
   exact wpAny_pure Ch
 .have keep:∀b o,s.heap.get? b=some o->h'.get? b=some o:=fun b o e=>k b o (by simpa using bf (bg e)) (bJ _ e);refine⟨.bl (bs.all id),H,I.kept (t':=tk) keep,?_,q⟩;show Value.bool _=Value.bool _;congr 1;have go:∀ (bs:List Bool),((List.range bs.length).all fun i=>bs.getD i true)=bs.all id:=by
   intro bs;induction bs with
   |nil=>rfl
   |cons b bs ih=>
    rw[dv,tW,mh,List.all_map,mh,<-ih];rfl
  rw[<-go bs];simp
end
structure dA(P:Program)(w:World)(K:PySem.W.Frag)(mg:Str->Option Value)(base:Heap)(CX:qZ)(k:Nat)(x:Str)(ps:List Str)(sp:Sp):Prop where
 ex:∃f fd,mg x=some (.ref f)/\PySem.W.keepIn K (.ref f)=true/\fV K fd ps []/\a9 P w K mg base CX k f fd ps sp
theorem aJ(C:dA X.prog X.w X.K X.mg X.base CX k x ps sp)(hr:bQ k X.A)(hx:gh CX X E)(ha:PA X (e::es) t)(hg:Gl X x:=by rfl)(n9:(x==("__debug__":Str))=false:=by decide)(he:starEach (e::es) X.env=(false,eval e X.env)::starEach es X.env:=by rfl)(tq:(backTo pos (starEach es X.env)).any (·.1)=false:=by rfl):
  PE X (.Call (.Name x p) (e::es) [] pos) (gG sp [] E t):=by
 obtain⟨f,fd,a,b,c,d⟩:=C.ex;exact v7 d hr hg a b c .nil hx ha n9 he tq
theorem aj(h:H D=none):aF H (upd H D o):=fun b u e=>by rw[ah (ai e h)];exact e
def aS(p:Addr)(H H':Hp):Prop:=∀b o,H b=some o->b≠p->H' b=some o
theorem aS.refl:aS p H H:=fun _ _ h _=>h
theorem aS.trans(a:aS p H H1)(b:aS p H1 H2):aS p H H2:=fun c o h n=>b c o (a c o h n) n
theorem aS.upd:aS p H (upd H p o):=fun b u h n=>by rw[ah n];exact h
theorem aS.of(s:aF H H'):aS p H H':=fun b o h _=>s b o h
theorem iB(h:j<n):Ck n (j:Int)=some j:=by
 unfold Ck;rw[ao (by lia),ao (by lia)];simp
theorem o8(h:as.length=n):(as++[t]).getD j 0=if j=n then t else as.getD j 0:=by
 rw[dS,dS];by_cases hj:j=n
 .subst hj;subst h;rw[ao rfl,pD (aG _),Nat.sub_self];rfl
 .rw[am hj];by_cases dB:j<as.length
  .rw[oz dB]
  .rw[pD (by lia),lR (by simp;lia),lR (by lia)]
def Holds(H:Hp)(as:List Addr)(n:Nat)(o:Nat->HO):Prop:=as.length=n/\∀j,j<n->H (as.getD j 0)=some (o j)
theorem Holds.nil:Holds H [] 0 o:=⟨rfl,fun j hj=>absurd hj (by lia)⟩
theorem Holds.snoc(h:Holds H as n o)(ht:H t=some (o n)):Holds H (as++[t]) (n+1) o:=by
 refine⟨by rw[fL,h.1];rfl,fun j hj=>?_⟩;rw[o8 h.1];by_cases e:j=n
 .rw[ao e,e];exact ht
 .rw[am e];exact h.2 j (by lia)
theorem Holds.mono(h:Holds H as n o)(e:∀j,j<n->H (as.getD j 0)=some (o j)->H' (as.getD j 0)=some (o j)):Holds H' as n o:=⟨h.1,fun j hj=>e j hj (h.2 j hj)⟩
end L2
namespace PyProof.Rows
open PySem
def ft:Bool->Keyed->Array Keyed->Nat->Nat->Nat->StateT SortSt Sem (Option Nat):=sortPriv% PySem.Builtin.gallop
def mS:Array Keyed->Array Keyed->StateT SortSt Sem (Array Keyed):=sortPriv% PySem.Builtin.mergeLo
def mT:Array Keyed->Array Keyed->StateT SortSt Sem (Array Keyed):=sortPriv% PySem.Builtin.mergeHi
def fE:Nat->StateT SortSt Sem Unit:=sortPriv% PySem.Builtin.setMinGallop
def q_(prog:Program)(w:World)(A:Around)(s:Shared)(κ:SortKind)(a₀:Array Keyed):Prop:=
 ∀x y,x∈a₀.toList->y∈a₀.toList->∀ (Q:Bool->Shared->Prop) (E:Value->Shared->Prop),(∀b,Q b s)->wpAny (model prog w) A (keyLt' κ x.1 y.1) Q E s
structure SQ(κ:SortKind)(a₀:Array Keyed)(pd:Array (Nat×Nat×Nat))(st:SortSt):Prop where
 perm:(arrOf st).Perm a₀
 kind:kindOf st=κ
 failed:failedOf st=none
 pend:pendingOf st=pd
section
variable {prog:Program} {w:World} {A:Around} {E:Value->Shared->Prop} {s:Shared} {κ:SortKind} {a₀:Array Keyed} {pd:Array (Nat×Nat×Nat)}
theorem SQ.size{st:SortSt}(h:SQ κ a₀ pd st):(arrOf st).size=a₀.size:=h.perm.size_eq
theorem SQ.setArr{st:SortSt}(h:SQ κ a₀ pd st){xs:Array Keyed}(hp:xs.Perm (arrOf st)):SQ κ a₀ pd (setArr st xs):=⟨hp.trans h.perm,h.kind,h.failed,h.pend⟩
theorem SQ.at{st:SortSt}(h:SQ κ a₀ pd st){i:Nat}(hi:i<a₀.size):∃p,(arrOf st)[i]?=some p/\p∈a₀.toList:=by
 have BS:i<(arrOf st).size:=by rw[h.size];exact hi
 exact⟨(arrOf st)[i],cj _ i BS,(iH.mp h.perm).mem_iff.mp (by simp)⟩
theorem mU{st:SortSt}{x y:Keyed}{Q:Option Bool->SortSt->Prop}(hC:q_ prog w A s κ a₀)(hk:kindOf st=κ)(hx:x∈a₀.toList)(hy:y∈a₀.toList)(h:∀b,Q (some b) st):wpS (model prog w) A E s (lt' x y) Q st:=by
 rw[lt'_eq];refine az (eR ?_);rw[hk];refine az (iY (wpAny_attempt (hC x y hx hy _ _ fun b=>⟨rfl,?_⟩)));exact aB (h b)
theorem aV{st:SortSt}{arr:Array Keyed}{i:Nat}{p:Keyed}{Q:Keyed->SortSt->Prop}(hi:arr[i]?=some p)(h:Q p st):wpS (model prog w) A E s (elem' arr i) Q st:=by
 rw[elem'_eq,hi];exact aB h
theorem dH{st:SortSt}{i j:Nat}{Q:Option Bool->SortSt->Prop}(hC:q_ prog w A s κ a₀)(hB:SQ κ a₀ pd st)(hi:i<a₀.size)(hj:j<a₀.size)(h:∀b,Q (some b) st):wpS (model prog w) A E s (ltAt' i j) Q st:=by
 obtain⟨p,e1,m1⟩:=hB.at hi;obtain⟨q,e2,m2⟩:=hB.at hj;rw[ltAt'_eq];refine az (eR ?_);exact az (aV e1 (az (aV e2 (mU hC hB.kind m1 m2 h))))
theorem eO{st:SortSt}{i j:Nat}{Q:Unit->SortSt->Prop}(hB:SQ κ a₀ pd st)(h:∀aL,SQ κ a₀ pd aL->Q () aL):wpS (model prog w) A E s (reverseSlice' i j) Q st:=by
 rw[reverseSlice'_eq];exact gE (h _ (hB.setArr (mirror_perm _ _ _ _)))
theorem Af{st:SortSt}{i j:Nat}{Q:Unit->SortSt->Prop}(hB:SQ κ a₀ pd st)(h:∀aL,SQ κ a₀ pd aL->Q () aL):wpS (model prog w) A E s (moveDown' i j) Q st:=by
 rw[moveDown'_eq];exact gE (h _ (hB.setArr (bubble_perm _ _ _)))
theorem CK{st:SortSt}{lo n ok:Nat}{Q:Bool->SortSt->Prop}(hC:q_ prog w A s κ a₀)(hn:lo+n<=a₀.size)(hB:SQ κ a₀ pd st)(h:∀aL,SQ κ a₀ pd aL->Q true aL):wpS (model prog w) A E s (binarySort' lo n ok) Q st:=by
 rw[binarySort'_eq];refine az (dO (dN (I:=fun _ c aL=>c=(none,())/\SQ κ a₀ pd aL) (Q:=fun c aL=>c=(none,())/\SQ κ a₀ pd aL) ?_ (fun c aL hh=>hh) ⟨rfl,hB⟩) ?_)
 .rintro k c aL Yt Pi ⟨rfl,Pj⟩;dsimp only;refine az (dO (dN (I:=fun _ c F8=>(∃l r,c=(none,l,r)/\r<=k)/\SQ κ a₀ pd F8) (Q:=fun c F8=>(∃l r,c=(none,l,r)/\r<=k)/\SQ κ a₀ pd F8) ?_ (fun c aL hh=>hh) ⟨⟨_,_,rfl,aG _⟩,Pj⟩) ?_)
  .rintro x c qX _ _ ⟨⟨l,r,rfl,hr⟩,oo⟩;dsimp only;by_cases se:l>=r
   .rw[ao se];exact aB ⟨⟨_,_,rfl,hr⟩,oo⟩
   .rw[am se];refine az (dH hC oo (by lia) (by lia) fun b=>?_);cases b
    .exact aB ⟨⟨_,_,rfl,hr⟩,oo⟩
    .exact aB ⟨⟨_,_,rfl,by lia⟩,oo⟩
  .rintro c qX ⟨⟨l,r,rfl,hr⟩,oo⟩;dsimp only;exact az (Af oo fun uN lv=>aB ⟨rfl,lv⟩)
 .rintro c aL ⟨rfl,Pj⟩;exact aB (h aL Pj)
end
theorem vt(left:Bool)(key:Keyed)(arr:Array Keyed)(base n i_:Nat):ft left key arr base n i_=(do
 let qq (i:Nat):StateT SortSt Sem (Option Bool):=do
  let x <- elem' arr (base+i)
  if left then lt' x key else return (<-lt' key x).map (!·)
 let mut lastofs:=0
 let mut ofs:=1
 let mut lo:=0
 let mut hi:=0
 let some right <- qq i_|return none
 if right then
  let mV:=n-i_
  for _ in [0:n] do
   if ofs>=mV then break
   let some more <- qq (i_+ofs)|return none
   if !more then break
   lastofs:=ofs
   ofs:=2*ofs+1
  lo:=i_+lastofs+1
  hi:=i_+min ofs mV
 else
  let mV:=i_+1
  for _ in [0:n] do
   if ofs>=mV then break
   let some Ag <- qq (i_-ofs)|return none
   if Ag then break
   lastofs:=ofs
   ofs:=2*ofs+1
  lo:=i_+1-min ofs mV
  hi:=i_-lastofs
 for _ in [0:n] do
  if lo>=hi then break
  let m:=lo+(hi-lo) / 2
  let some more <- qq m|return none
  if more then lo:=m+1 else hi:=m
 return some hi):=rfl
section
variable {prog:Program} {w:World} {A:Around} {E:Value->Shared->Prop} {s:Shared} {κ:SortKind} {a₀:Array Keyed} {pd:Array (Nat×Nat×Nat)}
theorem eW{st:SortSt}{left:Bool}{key:Keyed}{arr:Array Keyed}{j:Nat}{Q:Option Bool->SortSt->Prop}(hC:q_ prog w A s κ a₀)(hk:kindOf st=κ)(n6:key∈a₀.toList)(tw:∀x∈arr.toList,x∈a₀.toList)(hj:j<arr.size)(h:∀b,Q (some b) st):
  wpS (model prog w) A E s (do
  let x <- elem' arr j
  if left then lt' x key else return (<-lt' key x).map (!·)) Q st:=by
 have hm:arr[j]∈a₀.toList:=tw _ (by simp);refine az (aV (cj arr j hj) ?_);cases left
 .rw[am (by decide)];exact az (mU hC hk n6 hm fun b=>aB (h (!b)))
 .rw[ao rfl];exact mU hC hk hm n6 h
theorem dW{st:SortSt}{left:Bool}{key:Keyed}{arr:Array Keyed}{base n i_:Nat}{Q:Option Nat->SortSt->Prop}(hC:q_ prog w A s κ a₀)(hk:kindOf st=κ)(n6:key∈a₀.toList)(tw:∀x∈arr.toList,x∈a₀.toList)(hn:base+n<=arr.size)(hh:i_<n)(h:∀k,k<=n->Q (some k) st):wpS (model prog w) A E s (ft left key arr base n i_) Q st:=by
 rw[vt];refine az (eW hC hk n6 tw (by lia) fun right=>?_);cases right
 .dsimp only;rw[am (by decide)];refine az (dO (dN (I:=fun _ c aL=>(∃l o,c=(none,l,o))/\st=aL) (Q:=fun c aL=>(∃l o,c=(none,l,o))/\st=aL) ?_ (fun c aL hh=>hh) ⟨⟨_,_,rfl⟩,rfl⟩) ?_)
  .rintro x c aL _ _ ⟨⟨l,o,rfl⟩,rfl⟩;dsimp only;by_cases se:o>=i_+1
   .rw[ao se];exact aB ⟨⟨_,_,rfl⟩,rfl⟩
   .rw[am se];refine az (eW hC hk n6 tw (by lia) fun Ag=>?_);cases Ag
    .exact aB ⟨⟨_,_,rfl⟩,rfl⟩
    .exact aB ⟨⟨_,_,rfl⟩,rfl⟩
  .rintro c aL ⟨⟨l,o,rfl⟩,rfl⟩;dsimp only;refine az (dO (dN (I:=fun _ c aL=>(∃l u,c=(none,l,u)/\u<=n)/\st=aL) (Q:=fun c aL=>(∃l u,c=(none,l,u)/\u<=n)/\st=aL) ?_ (fun c aL hh=>hh) ⟨⟨_,_,rfl,by lia⟩,rfl⟩) ?_)
   .rintro x c aL _ _ ⟨⟨l,u,rfl,hu⟩,rfl⟩;dsimp only;by_cases se:l>=u
    .rw[ao se];exact aB ⟨⟨_,_,rfl,hu⟩,rfl⟩
    .rw[am se];refine az (eW hC hk n6 tw (by lia) fun more=>?_);cases more
     .exact aB ⟨⟨_,_,rfl,by lia⟩,rfl⟩
     .exact aB ⟨⟨_,_,rfl,hu⟩,rfl⟩
   .rintro c aL ⟨⟨l,u,rfl,hu⟩,rfl⟩;exact aB (h u hu)
 .dsimp only;rw[ao rfl];refine az (dO (dN (I:=fun _ c aL=>(∃l o,c=(none,l,o))/\st=aL) (Q:=fun c aL=>(∃l o,c=(none,l,o))/\st=aL) ?_ (fun c aL hh=>hh) ⟨⟨_,_,rfl⟩,rfl⟩) ?_)
  .rintro x c aL _ _ ⟨⟨l,o,rfl⟩,rfl⟩;dsimp only;by_cases se:o>=n-i_
   .rw[ao se];exact aB ⟨⟨_,_,rfl⟩,rfl⟩
   .rw[am se];refine az (eW hC hk n6 tw (by lia) fun more=>?_);cases more
    .exact aB ⟨⟨_,_,rfl⟩,rfl⟩
    .exact aB ⟨⟨_,_,rfl⟩,rfl⟩
  .rintro c aL ⟨⟨l,o,rfl⟩,rfl⟩;dsimp only;refine az (dO (dN (I:=fun _ c aL=>(∃l u,c=(none,l,u)/\u<=n)/\st=aL) (Q:=fun c aL=>(∃l u,c=(none,l,u)/\u<=n)/\st=aL) ?_ (fun c aL hh=>hh) ⟨⟨_,_,rfl,by lia⟩,rfl⟩) ?_)
   .rintro x c aL _ _ ⟨⟨l,u,rfl,hu⟩,rfl⟩;dsimp only;by_cases se:l>=u
    .rw[ao se];exact aB ⟨⟨_,_,rfl,hu⟩,rfl⟩
    .rw[am se];refine az (eW hC hk n6 tw (by lia) fun more=>?_);cases more
     .exact aB ⟨⟨_,_,rfl,by lia⟩,rfl⟩
     .exact aB ⟨⟨_,_,rfl,hu⟩,rfl⟩
   .rintro c aL ⟨⟨l,u,rfl,hu⟩,rfl⟩;exact aB (h u hu)
end
structure SM(κ:SortKind)(ar:Array Keyed)(pd:Array (Nat×Nat×Nat))(st:SortSt):Prop where
 arr:arrOf st=ar
 kind:kindOf st=κ
 failed:failedOf st=none
 pend:pendingOf st=pd
abbrev lw:=Option (Array Keyed)
abbrev o9:=StateT SortSt Sem
def sf{τ:Type}(c:Bool)(d:Prop)[Decidable d](r:Array Keyed)(t:τ):o9 (ForInStep (lw×τ)):=if c then pure (.done (some r,t)) else if d then pure (.done (none,t)) else pure (.yield (none,t))
def TW{α β γ:Type}(N:Nat)(f:Nat->lw×α×β×γ×Nat×Nat->o9 (ForInStep (lw×α×β×γ×Nat×Nat)))(g:lw×α×β×γ×Nat×Nat×Nat->o9 (ForInStep (lw×α×β×γ×Nat×Nat×Nat)))(s:lw×α×β×γ×Nat):o9 (ForInStep (lw×α×β×γ×Nat)):=do
 let t <- forIn [0:N] ((none,s.2.1,s.2.2.1,s.2.2.2.1,0,0):lw×α×β×γ×Nat×Nat) fun _ t=>f s.2.2.2.2 t
 match t.1 with
 |some r=>pure (.done (some r,t.2.1,t.2.2.1,t.2.2.2.1,s.2.2.2.2))
 |none=>do
  liftM (rule "list.sort.gallop")
  let u <- forIn [0:N] ((none,t.2.1,t.2.2.1,t.2.2.2.1,s.2.2.2.2+1,t.2.2.2.2.1,t.2.2.2.2.2):lw×α×β×γ×Nat×Nat×Nat) fun _ u=>g u
  match u.1 with
  |some r=>pure (.done (some r,u.2.1,u.2.2.1,u.2.2.2.1,u.2.2.2.2.1))
  |none=>do
   fE (u.2.2.2.2.1+1)
   pure (.yield (none,u.2.1,u.2.2.1,u.2.2.2.1,u.2.2.2.2.1+1))
def Nk{α β γ:Type}(N:Nat)(f:Nat->lw×α×β×γ×Nat×Nat->o9 (ForInStep (lw×α×β×γ×Nat×Nat)))(g:lw×α×β×γ×Nat×Nat×Nat->o9 (ForInStep (lw×α×β×γ×Nat×Nat×Nat)))(x:α)(y:β)(z:γ):o9 (Array Keyed):=do
 let st <- get
 let s <- forIn [0:N] ((none,x,y,z,gallopOf st):lw×α×β×γ×Nat) fun _ s=>TW N f g s
 match s.1 with
 |some r=>pure r
 |none=>liftM (unsupported "internal:list.sort.merge-bound")
section
variable {prog:Program} {w:World} {A:Around} {E:Value->Shared->Prop} {s:Shared} {κ:SortKind} {a₀:Array Keyed} {pd:Array (Nat×Nat×Nat)} {ar:Array Keyed} {F:Array Keyed->Prop}
def GP{τ:Type}(κ:SortKind)(ar:Array Keyed)(pd:Array (Nat×Nat×Nat))(F:Array Keyed->Prop)(D J:τ->Prop)(r:ForInStep (lw×τ))(st:SortSt):Prop:=SM κ ar pd st/\
 ((∃x t,r=.done (some x,t)/\F x)\/(∃t,r=.done (none,t)/\D t)\/∃t,r=.yield (none,t)/\J t)
theorem dI{τ:Type}{D J:τ->Prop}{st:SortSt}{x:Array Keyed}{t:τ}(m:SM κ ar pd st)(h:F x):wpS (model prog w) A E s (pure (.done (some x,t))) (GP κ ar pd F D J) st:=aB ⟨m,.inl ⟨_,_,rfl,h⟩⟩
theorem f8{τ:Type}{D J:τ->Prop}{c:Bool}{d:Prop}[Decidable d]{r:Array Keyed}{t:τ}{st:SortSt}(m:SM κ ar pd st)(h1:c=true->F r)(h2:c=false->D t/\J t):wpS (model prog w) A E s (sf c d r t) (GP κ ar pd F D J) st:=by
 unfold sf;cases c
 .rw[am bV];split
  .exact aB ⟨m,.inr (.inl ⟨_,rfl,(h2 rfl).1⟩)⟩
  .exact aB ⟨m,.inr (.inr ⟨_,rfl,(h2 rfl).2⟩)⟩
 .rw[ao rfl];exact dI m (h1 rfl)
theorem kq{τ:Type}{D:τ->Prop}{J:Nat->τ->Prop}{N:Nat}{f:lw×τ->o9 (ForInStep (lw×τ))}{t:τ}{st:SortSt}{Q:lw×τ->SortSt->Prop}(m:SM κ ar pd st)(hJ:J 0 t)(up:∀t,J N t->D t)(b:∀t st,SM κ ar pd st->∀i,J i t->wpS (model prog w) A E s (f (none,t)) (GP κ ar pd F D (J (i+1))) st)(h1:∀x t aL,SM κ ar pd aL->F x->Q (some x,t) aL)(h2:∀t aL,SM κ ar pd aL->D t->Q (none,t) aL):wpS (model prog w) A E s (forIn [0:N] ((none,t):lw×τ) fun _ c=>f c) Q st:=by
 refine dN (I:=fun i c aL=>c.1=none/\SM κ ar pd aL/\J i c.2) ?_ ?_ ⟨rfl,m,hJ⟩
 .rintro i ⟨_,t⟩ aL _ _ ⟨rfl,m',j⟩;refine dO (b t aL m' i j) ?_;rintro r qX ⟨m2,⟨x,t,rfl,h⟩|⟨t,rfl,h⟩|⟨t,rfl,h⟩⟩
  .exact h1 _ _ _ m2 h
  .exact h2 _ _ m2 h
  .exact⟨rfl,m2,h⟩
 .rintro⟨_,t⟩ aL ⟨rfl,m',j⟩;rw[Nat.max_eq_right (cu _)] at j;exact h2 _ _ m' (up _ j)
theorem wE{α β γ:Type}{N:Nat}{f:Nat->lw×α×β×γ×Nat×Nat->o9 (ForInStep (lw×α×β×γ×Nat×Nat))}{g:lw×α×β×γ×Nat×Nat×Nat->o9 (ForInStep (lw×α×β×γ×Nat×Nat×Nat))}{x:α}{y:β}{z:γ}{J:Nat->α->β->γ->Prop}{st:SortSt}{Q:Array Keyed->SortSt->Prop}(m:SM κ ar pd st)(h0:J 0 x y z)(dn:∀i k x y z,J (i+k) x y z->J i x y z)(no:∀x y z,¬ J N x y z)(N1:1<=N)(hf:∀mg n k x y z p st,SM κ ar pd st->J (n+k) x y z->wpS (model prog w) A E s (f mg (none,x,y,z,p)) (GP κ ar pd F (fun t=>J (n+1) t.1 t.2.1 t.2.2.1) fun t=>J (n+(k+1)) t.1 t.2.1 t.2.2.1) st)(hg:∀n x y z p st,SM κ ar pd st->J n x y z->wpS (model prog w) A E s (g (none,x,y,z,p)) (GP κ ar pd F (fun t=>J n t.1 t.2.1 t.2.2.1) fun t=>J n t.1 t.2.1 t.2.2.1) st)(h:∀x aL,F x->SM κ ar pd aL->Q x aL):wpS (model prog w) A E s (Nk N f g x y z) Q st:=by
 unfold Nk;refine az (eR ?_);refine az (kq (F:=F) (D:=fun _=>False) (J:=fun n (t:α×β×γ×Nat)=>J n t.1 t.2.1 t.2.2.1) m h0 (fun t h=>no _ _ _ h) ?_ (fun x t st m hx=>aB (h _ _ hx m)) fun t st m j=>j.elim);intro t st m i j;unfold TW;refine az (kq (F:=F) (D:=fun t=>J (i+1) t.1 t.2.1 t.2.2.1) (J:=fun n (t:α×β×γ×Nat×Nat)=>J (i+n) t.1 t.2.1 t.2.2.1) m j (fun t h=>dn _ (N-1) _ _ _ (by rw[show i+1+(N-1)=i+N by lia];exact h)) (fun t st m n j=>hf _ _ _ _ _ _ _ _ m j) (fun x t st m hx=>dI m hx) ?_);intro t st m j;refine az (iY (gb ⟨rfl,?_⟩));refine az (kq (F:=F) (D:=fun t=>J (i+1) t.1 t.2.1 t.2.2.1) (J:=fun n (t:α×β×γ×Nat×Nat×Nat)=>J (i+1) t.1 t.2.1 t.2.2.1) m j (fun _ h=>h) (fun t st m n j=>hg _ _ _ _ _ _ m j) (fun x t st m hx=>dI m hx) ?_);intro t st m j;refine az (gE ?_);exact aB ⟨⟨m.arr,m.kind,m.failed,m.pend⟩,.inr (.inr ⟨_,rfl,j⟩)⟩
end
abbrev ig(a b out:Array Keyed)(ia ib:Nat):=out++a.extract ia a.size++b.extract ib b.size
abbrev qr(a b out:Array Keyed)(ia ib:Nat):=out++b.extract ib b.size++a.extract ia a.size
abbrev EK ρ:=lw×Array Keyed×Nat×Nat×ρ
def TX(a b:Array Keyed)(mg:Nat)(t:EK (Nat×Nat)):o9 (ForInStep (EK (Nat×Nat))):=do
 let x <- elem' b t.2.2.2.1
 let y <- elem' a t.2.2.1
 let some w <- lt' x y|pure (.done (some (ig a b t.2.1 t.2.2.1 t.2.2.2.1),t.2.1,t.2.2.1,t.2.2.2.1,t.2.2.2.2.1,t.2.2.2.2.2))
 if w then do
  let x <- elem' b t.2.2.2.1
  sf (t.2.2.2.1+1==b.size) (t.2.2.2.2.2+1>=mg) (ig a b (t.2.1.push x) t.2.2.1 (t.2.2.2.1+1)) (t.2.1.push x,t.2.2.1,t.2.2.2.1+1,0,t.2.2.2.2.2+1)
 else do
  let x <- elem' a t.2.2.1
  sf (t.2.2.1+1+1==a.size) (t.2.2.2.2.1+1>=mg) (qr a b (t.2.1.push x) (t.2.2.1+1) t.2.2.2.1) (t.2.1.push x,t.2.2.1+1,t.2.2.2.1,t.2.2.2.2.1+1,0)
def Pk(a b out:Array Keyed)(ia ib mg ac bc:Nat):o9 (ForInStep (EK (Nat×Nat×Nat))):=do
 let x <- elem' a ia
 sf (ia+1+1==a.size) ((ac<7&&bc<7)=true) (qr a b (out.push x) (ia+1) ib) (out.push x,ia+1,ib,mg,ac,bc)
def Pl(a b out:Array Keyed)(ia ib mg ac bc:Nat):o9 (ForInStep (EK (Nat×Nat×Nat))):=do
 let x <- elem' b ib
 if ib+1==b.size then pure (.done (some (ig a b (out.push x) ia (ib+1)),out.push x,ia,ib+1,mg,ac,bc))
 else do
  let y <- elem' a ia
  let some k <- ft true y b (ib+1) (b.size-(ib+1)) 0|pure (.done (some (ig a b (out.push x) ia (ib+1)),out.push x,ia,ib+1,mg,ac,bc))
  if k > 0 then
   if ib+1+k==b.size then pure (.done (some (ig a b (out.push x++b.extract (ib+1) (ib+1+k)) ia (ib+1+k)),out.push x++b.extract (ib+1) (ib+1+k),ia,ib+1+k,mg,ac,k))
   else Pk a b (out.push x++b.extract (ib+1) (ib+1+k)) ia (ib+1+k) mg ac k
  else Pk a b (out.push x) ia (ib+1) mg ac k
def Pm(a b out:Array Keyed)(ia ib mg ac bc:Nat):o9 (ForInStep (EK (Nat×Nat×Nat))):=do
 fE mg
 let y <- elem' b ib
 let some k <- ft false y a ia (a.size-ia) 0|pure (.done (some (ig a b out ia ib),out,ia,ib,mg,ac,bc))
 if k > 0 then
  if ia+k+1==a.size then pure (.done (some (qr a b (out++a.extract ia (ia+k)) (ia+k) ib),out++a.extract ia (ia+k),ia+k,ib,mg,k,bc))
  else if ia+k==a.size then pure (.done (some (ig a b (out++a.extract ia (ia+k)) (ia+k) ib),out++a.extract ia (ia+k),ia+k,ib,mg,k,bc))
  else Pl a b (out++a.extract ia (ia+k)) (ia+k) ib mg k bc
 else Pl a b out ia ib mg k bc
def TY(a b:Array Keyed)(t:EK (Nat×Nat×Nat)):o9 (ForInStep (EK (Nat×Nat×Nat))):=
 if t.2.2.2.2.1 > 1 then Pm a b t.2.1 t.2.2.1 t.2.2.2.1 (t.2.2.2.2.1-1) t.2.2.2.2.2.1 t.2.2.2.2.2.2 else Pm a b t.2.1 t.2.2.1 t.2.2.2.1 t.2.2.2.2.1 t.2.2.2.2.2.1 t.2.2.2.2.2.2
theorem sg(a b:Array Keyed):mS a b=(do
 liftM (rule "list.sort.merge-lo")
 let x <- elem' b 0
 if 1==b.size then pure (ig a b #[x] 0 1) else if 0+1==a.size then pure (qr a b #[x] 0 1) else Nk (a.size+b.size) (TX a b) (TY a b) #[x] 0 1):=by kernel_rfl
def PI(a b out:Array Keyed)(ia ib:Nat):Prop:=out.toList.Perm (a.toList.take ia++b.toList.take ib)
theorem si{l:List Keyed}{i:Nat}(h:i<l.length):l.take (i+1)=l.take i++[l[i]]:=by rw[iJ,cr h];rfl
theorem PI.o_{a b out:Array Keyed}{ia ib:Nat}(h:PI a b out ia ib)(hi:ia<a.size):PI a b (out.push a[ia]) (ia+1) ib:=by
 unfold PI at h |-;rw[jS,si (by simpa using hi),cz];refine(h.append_right _).trans ?_;rw[cz];refine kN _ ?_;have:a.toList[ia]'(by simpa using hi)=a[ia]:=by simp
 rw[this];exact gQ
theorem PI.pb{a b out:Array Keyed}{ia ib:Nat}(h:PI a b out ia ib)(hi:ib<b.size):PI a b (out.push b[ib]) ia (ib+1):=by
 unfold PI at h |-;rw[jS,si (by simpa using hi),<-cz];have:b.toList[ib]'(by simpa using hi)=b[ib]:=by simp
 rw[this];exact h.append_right _
theorem cJ{a:Array Keyed}{i j:Nat}:(a.extract i j).toList=(a.toList.drop i).take (j-i):=by
 rw[t9,List.extract_eq_take_drop]
theorem PI.xW{a b out:Array Keyed}{ia ib:Nat}(h:PI a b out ia ib)(k:Nat):PI a b (out++a.extract ia (ia+k)) (ia+k) ib:=by
 unfold PI at h |-;rw[du,cJ,Nat.add_sub_cancel_left,List.take_add,cz];refine(h.append_right _).trans ?_;rw[cz];exact kN _ gQ
theorem PI.xX{a b out:Array Keyed}{ia ib:Nat}(h:PI a b out ia ib)(k:Nat):PI a b (out++b.extract ib (ib+k)) ia (ib+k):=by
 unfold PI at h |-;rw[du,cJ,Nat.add_sub_cancel_left,List.take_add,<-cz];exact h.append_right _
theorem PI.done{a b out:Array Keyed}{ia ib:Nat}(h:PI a b out ia ib):(out++a.extract ia a.size++b.extract ib b.size).Perm (a++b):=by
 rw[iH];unfold PI at h;rw[du,du,du,cJ,cJ];have e1:(a.toList.drop ia).take (a.size-ia)=a.toList.drop ia:=pF (by simp);have e2:(b.toList.drop ib).take (b.size-ib)=b.toList.drop ib:=pF (by simp);rw[e1,e2];refine((h.append_right _).append_right _).trans ?_;conv=>rhs;rw[<-oA ia a.toList,<-oA ib b.toList]
 rw[cz,cz,cz];refine kN _ ?_;rw[<-cz,<-cz];exact tX _ gQ
theorem PI.last{a b out:Array Keyed}{ia ib:Nat}(h:PI a b out ia ib):(out++b.extract ib b.size++a.extract ia a.size).Perm (a++b):=by
 refine Array.Perm.trans ?_ h.done;rw[iH];rw[du,du,du,du,cz,cz];exact kN _ gQ
section
variable {prog:Program} {w:World} {A:Around} {E:Value->Shared->Prop} {s:Shared} {κ:SortKind} {a₀:Array Keyed} {pd:Array (Nat×Nat×Nat)} {ar:Array Keyed} {a b out:Array Keyed} {ia ib mg ac bc n:Nat} {st:SortSt}
def JL(a b:Array Keyed)(n:Nat)(out:Array Keyed)(ia ib:Nat):Prop:=PI a b out ia ib/\ia+1<a.size/\ib<b.size/\n<=ia+ib
abbrev GL{ρ:Type}(κ:SortKind)(ar:Array Keyed)(pd:Array (Nat×Nat×Nat))(a b:Array Keyed)(n m:Nat):ForInStep (EK ρ)->SortSt->Prop:=GP κ ar pd (fun x=>x.Perm (a++b)) (fun t=>JL a b n t.1 t.2.1 t.2.2.1) fun t=>JL a b m t.1 t.2.1 t.2.2.1
theorem wF(hB:SM κ ar pd st)(h:JL a b n out ia ib):wpS (model prog w) A E s (Pk a b out ia ib mg ac bc) (GL κ ar pd a b n n) st:=by
 obtain⟨p,la,lb,li⟩:=h;refine az (aV (cj a ia (by lia)) ?_);have p:=p.o_ (show ia<a.size by lia);refine f8 hB (fun _=>p.last) fun f=>?_;have g:=jU f;have j:JL a b n (out.push a[ia]) (ia+1) ib:=⟨p,by lia,lb,by lia⟩
 exact⟨j,j⟩
theorem wG(hC:q_ prog w A s κ a₀)(ha:∀x∈a.toList,x∈a₀.toList)(hb:∀x∈b.toList,x∈a₀.toList)(hB:SM κ ar pd st)(h:JL a b n out ia ib):wpS (model prog w) A E s (Pl a b out ia ib mg ac bc) (GL κ ar pd a b n n) st:=by
 obtain⟨p,la,lb,li⟩:=h;refine az (aV (cj b ib lb) ?_);have p:=p.pb lb;split
 .exact dI hB p.done
 next f=>
 have g:ib+1≠b.size:=by simpa using f
 refine az (aV (cj a ia (by lia)) ?_);refine az (dW hC hB.kind (ha _ (by simp)) hb (by lia) (by lia) fun k hk=>?_);dsimp only;split
 .split
  .exact dI hB (p.xX k).done
  next f=>
  have g:ib+1+k≠b.size:=by simpa using f
  exact wF hB ⟨p.xX k,la,by lia,by lia⟩
 .exact wF hB ⟨p,la,by lia,by lia⟩
theorem CL(hC:q_ prog w A s κ a₀)(ha:∀x∈a.toList,x∈a₀.toList)(hb:∀x∈b.toList,x∈a₀.toList)(hB:SM κ ar pd st)(h:JL a b n out ia ib):wpS (model prog w) A E s (Pm a b out ia ib mg ac bc) (GL κ ar pd a b n n) st:=by
 obtain⟨p,la,lb,li⟩:=h;refine az (gE ?_);refine az (aV (cj b ib lb) ?_);have oo:SM κ ar pd (SortSt.mk' (kindOf st) (arrOf st) (pendingOf st) mg (failedOf st)):=⟨hB.arr,hB.kind,hB.failed,hB.pend⟩
 refine az (dW hC oo.kind (hb _ (by simp)) ha (by lia) (by lia) fun k hk=>?_);dsimp only;split
 .split
  .exact dI oo (p.xW k).last
  next f=>
  split
  .exact dI oo (p.xW k).done
  next f'=>
  have g:ia+k+1≠a.size:=by simpa using f
  have g':ia+k≠a.size:=by simpa using f'
  exact wG hC ha hb oo ⟨p.xW k,by lia,lb,by lia⟩
 .exact wG hC ha hb oo ⟨p,la,lb,li⟩
theorem CM{k:Nat}(hC:q_ prog w A s κ a₀)(ha:∀x∈a.toList,x∈a₀.toList)(hb:∀x∈b.toList,x∈a₀.toList)(hB:SM κ ar pd st)(h:JL a b (n+k) out ia ib){q:Nat×Nat}:wpS (model prog w) A E s (TX a b mg (none,out,ia,ib,q)) (GL κ ar pd a b (n+1) (n+(k+1))) st:=by
 obtain⟨p,la,lb,li⟩:=h;refine az (aV (cj b ib lb) (az (aV (cj a ia (by lia)) (az (mU hC hB.kind (hb _ (by simp)) (ha _ (by simp)) fun w=>?_)))));cases w
 .refine az (aV (cj a ia (by lia)) ?_);have p:=p.o_ (show ia<a.size by lia);refine f8 hB (fun _=>p.last) fun f=>?_;have g:=jU f;exact⟨⟨p,by dsimp only;lia,lb,by dsimp only;lia⟩,p,by dsimp only;lia,lb,by dsimp only;lia⟩
 .refine az (aV (cj b ib lb) ?_);have p:=p.pb lb;refine f8 hB (fun _=>p.done) fun f=>?_;have g:=jU f;exact⟨⟨p,la,by dsimp only at g |-;lia,by dsimp only;lia⟩,p,la,by dsimp only at g |-;lia,by dsimp only;lia⟩
theorem sj{Q:Array Keyed->SortSt->Prop}(hC:q_ prog w A s κ a₀)(hB:SM κ ar pd st)(ha:∀x∈a.toList,x∈a₀.toList)(hb:∀x∈b.toList,x∈a₀.toList)(a1:1<=a.size)(b1:1<=b.size)(h:∀out aL,out.Perm (a++b)->SM κ ar pd aL->Q out aL):wpS (model prog w) A E s (mS a b) Q st:=by
 rw[sg];refine az (iY (gb ⟨rfl,?_⟩));refine az (aV (cj b 0 (by lia)) ?_);have p0:PI a b #[b[0]] 0 1:=by
  have:PI a b #[] 0 0:=by unfold PI;simp
  exact this.pb (by lia)
 split
 .exact aB (h _ _ p0.done hB)
 next f=>
 split
 .exact aB (h _ _ p0.last hB)
 next f'=>
 have g:1≠b.size:=by simpa using f
 have g':0+1≠a.size:=by simpa using f'
 refine wE (J:=JL a b) hB ⟨p0,by lia,by lia,by lia⟩ (fun i k x y z h=>⟨h.1,h.2.1,h.2.2.1,by have:=h.2.2.2;lia⟩) (fun x y z h=>by have:=h.2;lia) (by lia) (fun mg n k x y z p st m j=>CM hC ha hb m j) (fun n x y z p st m j=>?_) h;unfold TY;split <;> exact CL hC ha hb m j
end
abbrev ii(a b out:Array Keyed)(na nb:Nat):=a.extract 0 na++b.extract 0 nb++out.reverse
abbrev lK(a b out:Array Keyed)(na nb:Nat):=b.extract 0 nb++a.extract 0 na++out.reverse
abbrev EM ρ:=lw×Nat×Nat×Array Keyed×ρ
def TZ(a b:Array Keyed)(mg:Nat)(t:EM (Nat×Nat)):o9 (ForInStep (EM (Nat×Nat))):=do
 let x <- elem' b (t.2.2.1-1)
 let y <- elem' a (t.2.1-1)
 let some w <- lt' x y|pure (.done (some (ii a b t.2.2.2.1 t.2.1 t.2.2.1),t.2.1,t.2.2.1,t.2.2.2.1,t.2.2.2.2.1,t.2.2.2.2.2))
 if w then do
  let x <- elem' a (t.2.1-1)
  sf (t.2.1-1==0) (t.2.2.2.2.1+1>=mg) (ii a b (t.2.2.2.1.push x) (t.2.1-1) t.2.2.1) (t.2.1-1,t.2.2.1,t.2.2.2.1.push x,t.2.2.2.2.1+1,0)
 else do
  let x <- elem' b (t.2.2.1-1)
  sf (t.2.2.1-1==1) (t.2.2.2.2.2+1>=mg) (lK a b (t.2.2.2.1.push x) t.2.1 (t.2.2.1-1)) (t.2.1,t.2.2.1-1,t.2.2.2.1.push x,0,t.2.2.2.2.2+1)
def Pn(a b:Array Keyed)(na nb:Nat)(out:Array Keyed)(mg ac bc:Nat):o9 (ForInStep (EM (Nat×Nat×Nat))):=do
 let x <- elem' a (na-1)
 sf (na-1==0) ((ac<7&&bc<7)=true) (ii a b (out.push x) (na-1) nb) (na-1,nb,out.push x,mg,ac,bc)
def Po(a b:Array Keyed)(na nb:Nat)(out:Array Keyed)(mg ac bc:Nat):o9 (ForInStep (EM (Nat×Nat×Nat))):=do
 let x <- elem' b (nb-1)
 if nb-1==1 then pure (.done (some (lK a b (out.push x) na (nb-1)),na,nb-1,out.push x,mg,ac,bc))
 else do
  let y <- elem' a (na-1)
  let some k <- ft true y b 0 (nb-1) (nb-1-1)|pure (.done (some (ii a b (out.push x) na (nb-1)),na,nb-1,out.push x,mg,ac,bc))
  if nb-1-k > 0 then
   if k==1 then pure (.done (some (lK a b (out.push x++(b.extract k (nb-1)).reverse) na k),na,k,out.push x++(b.extract k (nb-1)).reverse,mg,ac,nb-1-k))
   else if k==0 then pure (.done (some (ii a b (out.push x++(b.extract k (nb-1)).reverse) na k),na,k,out.push x++(b.extract k (nb-1)).reverse,mg,ac,nb-1-k))
   else Pn a b na k (out.push x++(b.extract k (nb-1)).reverse) mg ac (nb-1-k)
  else Pn a b na (nb-1) (out.push x) mg ac (nb-1-k)
def Pp(a b:Array Keyed)(na nb:Nat)(out:Array Keyed)(mg ac bc:Nat):o9 (ForInStep (EM (Nat×Nat×Nat))):=do
 fE mg
 let y <- elem' b (nb-1)
 let some k <- ft false y a 0 na (na-1)|pure (.done (some (ii a b out na nb),na,nb,out,mg,ac,bc))
 if na-k > 0 then
  if k==0 then pure (.done (some (ii a b (out++(a.extract k na).reverse) k nb),k,nb,out++(a.extract k na).reverse,mg,na-k,bc))
  else Po a b k nb (out++(a.extract k na).reverse) mg (na-k) bc
 else Po a b na nb out mg (na-k) bc
def T4(a b:Array Keyed)(t:EM (Nat×Nat×Nat)):o9 (ForInStep (EM (Nat×Nat×Nat))):=
 if t.2.2.2.2.1 > 1 then Pp a b t.2.1 t.2.2.1 t.2.2.2.1 (t.2.2.2.2.1-1) t.2.2.2.2.2.1 t.2.2.2.2.2.2 else Pp a b t.2.1 t.2.2.1 t.2.2.2.1 t.2.2.2.2.1 t.2.2.2.2.2.1 t.2.2.2.2.2.2
theorem sk(a b:Array Keyed):mT a b=(do
 liftM (rule "list.sort.merge-hi")
 let x <- elem' a (a.size-1)
 if a.size-1==0 then pure (ii a b #[x] (a.size-1) b.size) else if b.size==1 then pure (lK a b #[x] (a.size-1) b.size) else Nk (a.size+b.size) (TZ a b) (T4 a b) (a.size-1) b.size #[x]):=by kernel_rfl
def PH(a b out:Array Keyed)(na nb:Nat):Prop:=out.toList.Perm (a.toList.drop na++b.toList.drop nb)
theorem PH.o_{a b out:Array Keyed}{na nb:Nat}(h:PH a b out na nb)(h1:1<=na)(hi:na-1<a.size):PH a b (out.push a[na-1]) (na-1) nb:=by
 unfold PH at h |-;have e:a.toList.drop (na-1)=a[na-1]::a.toList.drop na:=by
  have:=pE (l:=a.toList) (i:=na-1) (by simpa using hi);rw[this,Nat.sub_add_cancel h1];simp
 rw[jS,e];refine(h.append_right _).trans ?_;exact gQ
theorem PH.pb{a b out:Array Keyed}{na nb:Nat}(h:PH a b out na nb)(h1:1<=nb)(hi:nb-1<b.size):PH a b (out.push b[nb-1]) na (nb-1):=by
 unfold PH at h |-;have e:b.toList.drop (nb-1)=b[nb-1]::b.toList.drop nb:=by
  have:=pE (l:=b.toList) (i:=nb-1) (by simpa using hi);rw[this,Nat.sub_add_cancel h1];simp
 rw[jS,e];refine(h.append_right _).trans ?_;rw[cz];exact kN _ gQ
theorem jG{l:List Keyed}{i j:Nat}(h:i<=j):l.drop i=(l.drop i).take (j-i)++l.drop j:=by
 have:=(oA (j-i) (l.drop i)).symm;rw[List.drop_drop,show i+(j-i)=j by lia] at this;exact this
theorem PH.xW{a b out:Array Keyed}{na nb:Nat}(h:PH a b out na nb){k:Nat}(hk:k<=na):PH a b (out++(a.extract k na).reverse) k nb:=by
 unfold PH at h |-;rw[du,t8,cJ];conv=>rhs;rw[jG hk]
 refine((h.append_left _).trans ?_ |> fun z=>(List.Perm.trans gQ ((pO _).append_right _)).trans z);rw[cz]
theorem PH.xX{a b out:Array Keyed}{na nb:Nat}(h:PH a b out na nb){k:Nat}(hk:k<=nb):PH a b (out++(b.extract k nb).reverse) na k:=by
 unfold PH at h |-;rw[du,t8,cJ];conv=>rhs;rw[jG hk]
 refine(h.append_right _).trans ?_;rw[cz];refine kN _ ?_;exact gQ.trans ((pO _).append_right _)
theorem Kj{a:Array Keyed}{j:Nat}:(a.extract 0 j).toList=a.toList.take j:=by rw[cJ,uB,Nat.sub_zero]
theorem PH.done{a b out:Array Keyed}{na nb:Nat}(h:PH a b out na nb):(a.extract 0 na++b.extract 0 nb++out.reverse).Perm (a++b):=by
 rw[iH];unfold PH at h;rw[du,du,du,t8,Kj,Kj];conv=>rhs;rw[<-oA na a.toList,<-oA nb b.toList]
 refine(kN _ ((pO _).trans h)).trans ?_;rw[cz,cz];refine kN _ ?_;rw[<-cz,<-cz];exact tX _ gQ
theorem PH.first{a b out:Array Keyed}{na nb:Nat}(h:PH a b out na nb):(b.extract 0 nb++a.extract 0 na++out.reverse).Perm (a++b):=by
 refine Array.Perm.trans ?_ h.done;rw[iH];rw[du,du,du,du];exact tX _ gQ
section
variable {prog:Program} {w:World} {A:Around} {E:Value->Shared->Prop} {s:Shared} {κ:SortKind} {a₀:Array Keyed} {pd:Array (Nat×Nat×Nat)} {ar:Array Keyed} {a b out:Array Keyed} {na nb mg ac bc n:Nat} {st:SortSt}
def JH(a b:Array Keyed)(n na nb:Nat)(out:Array Keyed):Prop:=PH a b out na nb/\1<=na/\2<=nb/\na<=a.size/\nb<=b.size/\n+na+nb<=a.size+b.size
abbrev GH{ρ:Type}(κ:SortKind)(ar:Array Keyed)(pd:Array (Nat×Nat×Nat))(a b:Array Keyed)(n m:Nat):ForInStep (EM ρ)->SortSt->Prop:=GP κ ar pd (fun x=>x.Perm (a++b)) (fun t=>JH a b n t.1 t.2.1 t.2.2.1) fun t=>JH a b m t.1 t.2.1 t.2.2.1
theorem wH(hB:SM κ ar pd st)(p:PH a b out na nb)(la:1<=na)(lb:2<=nb)(ma:na<=a.size)(mb:nb<=b.size)(li:n+na+nb<=a.size+b.size+1):wpS (model prog w) A E s (Pn a b na nb out mg ac bc) (GH κ ar pd a b n n) st:=by
 refine az (aV (cj a (na-1) (by lia)) ?_);have p:=p.o_ la (show na-1<a.size by lia);refine f8 hB (fun _=>p.done) fun f=>?_;have g:=jU f;have j:JH a b n (na-1) nb (out.push a[na-1]):=⟨p,by lia,lb,by lia,mb,by lia⟩
 exact⟨j,j⟩
theorem wI(hC:q_ prog w A s κ a₀)(ha:∀x∈a.toList,x∈a₀.toList)(hb:∀x∈b.toList,x∈a₀.toList)(hB:SM κ ar pd st)(h:JH a b n na nb out):wpS (model prog w) A E s (Po a b na nb out mg ac bc) (GH κ ar pd a b n n) st:=by
 obtain⟨p,la,lb,ma,mb,li⟩:=h;refine az (aV (cj b (nb-1) (by lia)) ?_);have p:=p.pb (show 1<=nb by lia) (show nb-1<b.size by lia);split
 .exact dI hB p.first
 next f=>
 have g:nb-1≠1:=by simpa using f
 refine az (aV (cj a (na-1) (by lia)) ?_);refine az (dW hC hB.kind (ha _ (by simp)) hb (by lia) (by lia) fun k hk=>?_);dsimp only;split
 .split
  .exact dI hB (p.xX hk).first
  next f=>
  split
  .exact dI hB (p.xX hk).done
  next f'=>
  have g:k≠1:=by simpa using f
  have g':k≠0:=by simpa using f'
  exact wH hB (p.xX hk) la (by lia) ma (by lia) (by lia)
 .exact wH hB p la (by lia) ma (by lia) (by lia)
theorem CN(hC:q_ prog w A s κ a₀)(ha:∀x∈a.toList,x∈a₀.toList)(hb:∀x∈b.toList,x∈a₀.toList)(hB:SM κ ar pd st)(h:JH a b n na nb out):wpS (model prog w) A E s (Pp a b na nb out mg ac bc) (GH κ ar pd a b n n) st:=by
 obtain⟨p,la,lb,ma,mb,li⟩:=h;refine az (gE ?_);refine az (aV (cj b (nb-1) (by lia)) ?_);have oo:SM κ ar pd (SortSt.mk' (kindOf st) (arrOf st) (pendingOf st) mg (failedOf st)):=⟨hB.arr,hB.kind,hB.failed,hB.pend⟩
 refine az (dW hC oo.kind (hb _ (by simp)) ha (by lia) (by lia) fun k hk=>?_);dsimp only;split
 .split
  .exact dI oo (p.xW hk).done
  next f=>
  have g:k≠0:=by simpa using f
  exact wI hC ha hb oo ⟨p.xW hk,by lia,lb,by lia,mb,by lia⟩
 .exact wI hC ha hb oo ⟨p,la,lb,ma,mb,li⟩
theorem CO{k:Nat}(hC:q_ prog w A s κ a₀)(ha:∀x∈a.toList,x∈a₀.toList)(hb:∀x∈b.toList,x∈a₀.toList)(hB:SM κ ar pd st)(h:JH a b (n+k) na nb out){q:Nat×Nat}:wpS (model prog w) A E s (TZ a b mg (none,na,nb,out,q)) (GH κ ar pd a b (n+1) (n+(k+1))) st:=by
 obtain⟨p,la,lb,ma,mb,li⟩:=h;refine az (aV (cj b (nb-1) (by lia)) (az (aV (cj a (na-1) (by lia)) (az (mU hC hB.kind (hb _ (by simp)) (ha _ (by simp)) fun w=>?_)))));cases w
 .refine az (aV (cj b (nb-1) (by lia)) ?_);have p:=p.pb (show 1<=nb by lia) (show nb-1<b.size by lia);refine f8 hB (fun _=>p.first) fun f=>?_;have g:nb-1≠1:=jU f;have j:JH a b (n+(k+1)) na (nb-1) (out.push b[nb-1]):=⟨p,la,by lia,ma,by lia,by lia⟩
  exact⟨⟨p,la,j.2.2.1,ma,j.2.2.2.2.1,by have:=j.2.2.2.2.2;dsimp only;lia⟩,j⟩
 .refine az (aV (cj a (na-1) (by lia)) ?_);have p:=p.o_ la (show na-1<a.size by lia);refine f8 hB (fun _=>p.done) fun f=>?_;have g:na-1≠0:=jU f;have j:JH a b (n+(k+1)) (na-1) nb (out.push a[na-1]):=⟨p,by lia,lb,by lia,mb,by lia⟩
  exact⟨⟨p,j.2.1,lb,j.2.2.2.1,mb,by have:=j.2.2.2.2.2;dsimp only;lia⟩,j⟩
theorem so{Q:Array Keyed->SortSt->Prop}(hC:q_ prog w A s κ a₀)(hB:SM κ ar pd st)(ha:∀x∈a.toList,x∈a₀.toList)(hb:∀x∈b.toList,x∈a₀.toList)(a1:1<=a.size)(b1:1<=b.size)(h:∀out aL,out.Perm (a++b)->SM κ ar pd aL->Q out aL):wpS (model prog w) A E s (mT a b) Q st:=by
 rw[sk];refine az (iY (gb ⟨rfl,?_⟩));refine az (aV (cj a (a.size-1) (by lia)) ?_);have p0:PH a b #[a[a.size-1]] (a.size-1) b.size:=by
  have:PH a b #[] a.size b.size:=by unfold PH;simp
  exact this.o_ a1 (by lia)
 split
 .exact aB (h _ _ p0.done hB)
 next f=>
 split
 .exact aB (h _ _ p0.first hB)
 next f'=>
 have g:a.size-1≠0:=by simpa using f
 have g':b.size≠1:=by simpa using f'
 refine wE (J:=JH a b) hB ⟨p0,by lia,by lia,by lia,by lia,by lia⟩ (fun i k x y z h=>⟨h.1,h.2.1,h.2.2.1,h.2.2.2.1,h.2.2.2.2.1,by have:=h.2.2.2.2.2;lia⟩) (fun x y z h=>by have:=h.2;lia) (by lia) (fun mg n k x y z p st m j=>CO hC ha hb m j) (fun n x y z p st m j=>?_) h;unfold T4;split <;> exact CN hC ha hb m j
end
section
variable {prog:Program} {w:World} {A:Around} {E:Value->Shared->Prop} {s:Shared} {κ:SortKind} {a₀:Array Keyed} {pd:Array (Nat×Nat×Nat)}
theorem xY{st:SortSt}{lo kr:Nat}{Q:Option Nat->SortSt->Prop}(hC:q_ prog w A s κ a₀)(hn:lo+kr<=a₀.size)(h1:1<=kr)(hB:SQ κ a₀ pd st)(h:∀n aL,SQ κ a₀ pd aL->1<=n->n<=kr->Q (some n) aL):wpS (model prog w) A E s (countRun' lo kr) Q st:=by
 rw[countRun'_eq];refine az (dO (dN (I:=fun i c aL=>SQ κ a₀ pd aL/\∃m,c=(none,m)/\m=i) (Q:=fun c aL=>SQ κ a₀ pd aL/\∃m,c=(none,m)/\1<=m/\m<=kr) ?_ ?_ ⟨hB,_,rfl,rfl⟩) ?_)
 .rintro i c IC ID u_ ⟨Ah,m,rfl,rfl⟩;dsimp only;refine az (dH hC Ah (by lia) (by lia) fun b1=>?_);cases b1
  .exact aB ⟨Ah,_,rfl,rfl⟩
  .exact aB ⟨Ah,_,rfl,by lia,by lia⟩
 .rintro c IC ⟨Ah,m,rfl,rfl⟩;exact⟨Ah,_,rfl,by lia,by lia⟩
 .rintro c IC ⟨Ah,n,rfl,n1,n2⟩;dsimp only;by_cases e1:(n==kr)=true
  .rw[ao e1];exact aB (h n IC Ah n1 n2)
  rw[am e1];have g1:¬ (n=kr):=by simpa using e1
  by_cases e2:n > 1
  .rw[ao e2];refine az (dH hC Ah (by lia) (by lia) fun b2=>?_);cases b2
   .dsimp only;rw[am (by decide)];refine az (eO Ah fun qX oo=>?_);refine az (iY (gb ⟨rfl,?_⟩));refine az (dO (dN (I:=fun i c aL=>SQ κ a₀ pd aL/\∃m q,c=(none,m,q)/\m=i) (Q:=fun c aL=>SQ κ a₀ pd aL/\∃m q,c=(none,m,q)/\1<=m/\m<=kr) ?_ ?_ ⟨oo,_,_,rfl,rfl⟩) ?_)
    .rintro i c uN ID u_ ⟨lv,m,q,rfl,rfl⟩;dsimp only;refine az (dH hC lv (by lia) (by lia) fun b3=>?_);cases b3
     .dsimp only;rw[am (by decide)];refine az (dH hC lv (by lia) (by lia) fun b4=>?_);cases b4
      .exact aB ⟨lv,_,_,rfl,rfl⟩
      .exact aB ⟨lv,_,_,rfl,by lia,by lia⟩
     .dsimp only;rw[ao rfl];split
      .exact az (eO lv fun nX F9=>aB ⟨F9,_,_,rfl,rfl⟩)
      .exact aB ⟨lv,_,_,rfl,rfl⟩
    .rintro c uN ⟨lv,m,q,rfl,rfl⟩;exact⟨lv,_,_,rfl,by lia,by lia⟩
    .rintro c uN ⟨lv,m,q,rfl,m1,m2⟩;dsimp only;split
     .refine az (eO lv fun nX F9=>?_);refine az (eO F9 fun qY F_=>?_);refine az (dO (dN (I:=fun i c aL=>SQ κ a₀ pd aL/\∃m,c=(none,m)/\m=i) (Q:=fun c aL=>SQ κ a₀ pd aL/\∃m,c=(none,m)/\1<=m/\m<=kr) ?_ ?_ ⟨F_,_,rfl,rfl⟩) ?_)
      .rintro i c vv ID u_ ⟨ja,m,rfl,rfl⟩;dsimp only;refine az (dH hC ja (by lia) (by lia) fun b6=>?_);cases b6
       .exact aB ⟨ja,_,rfl,rfl⟩
       .exact aB ⟨ja,_,rfl,by lia,by lia⟩
      .rintro c vv ⟨ja,m,rfl,rfl⟩;exact⟨ja,_,rfl,by lia,by lia⟩
      .rintro c vv ⟨ja,m,rfl,h1,h2⟩;exact aB (h m vv ja h1 h2)
     .refine az (eO lv fun qY F_=>?_);refine az (dO (dN (I:=fun i c aL=>SQ κ a₀ pd aL/\∃m,c=(none,m)/\m=i) (Q:=fun c aL=>SQ κ a₀ pd aL/\∃m,c=(none,m)/\1<=m/\m<=kr) ?_ ?_ ⟨F_,_,rfl,rfl⟩) ?_)
      .rintro i c vv ID u_ ⟨ja,m,rfl,rfl⟩;dsimp only;refine az (dH hC ja (by lia) (by lia) fun b6=>?_);cases b6
       .exact aB ⟨ja,_,rfl,rfl⟩
       .exact aB ⟨ja,_,rfl,by lia,by lia⟩
      .rintro c vv ⟨ja,m,rfl,rfl⟩;exact⟨ja,_,rfl,by lia,by lia⟩
      .rintro c vv ⟨ja,m,rfl,h1,h2⟩;exact aB (h m vv ja h1 h2)
   .exact aB (h n IC Ah n1 n2)
  .rw[am e2];have oo:=Ah;refine az (iY (gb ⟨rfl,?_⟩));refine az (dO (dN (I:=fun i c aL=>SQ κ a₀ pd aL/\∃m q,c=(none,m,q)/\m=i) (Q:=fun c aL=>SQ κ a₀ pd aL/\∃m q,c=(none,m,q)/\1<=m/\m<=kr) ?_ ?_ ⟨oo,_,_,rfl,rfl⟩) ?_)
   .rintro i c uN ID u_ ⟨lv,m,q,rfl,rfl⟩;dsimp only;refine az (dH hC lv (by lia) (by lia) fun b3=>?_);cases b3
    .dsimp only;rw[am (by decide)];refine az (dH hC lv (by lia) (by lia) fun b4=>?_);cases b4
     .exact aB ⟨lv,_,_,rfl,rfl⟩
     .exact aB ⟨lv,_,_,rfl,by lia,by lia⟩
    .dsimp only;rw[ao rfl];split
     .exact az (eO lv fun nX F9=>aB ⟨F9,_,_,rfl,rfl⟩)
     .exact aB ⟨lv,_,_,rfl,rfl⟩
   .rintro c uN ⟨lv,m,q,rfl,rfl⟩;exact⟨lv,_,_,rfl,by lia,by lia⟩
   .rintro c uN ⟨lv,m,q,rfl,m1,m2⟩;dsimp only;split
    .refine az (eO lv fun nX F9=>?_);refine az (eO F9 fun qY F_=>?_);refine az (dO (dN (I:=fun i c aL=>SQ κ a₀ pd aL/\∃m,c=(none,m)/\m=i) (Q:=fun c aL=>SQ κ a₀ pd aL/\∃m,c=(none,m)/\1<=m/\m<=kr) ?_ ?_ ⟨F_,_,rfl,rfl⟩) ?_)
     .rintro i c vv ID u_ ⟨ja,m,rfl,rfl⟩;dsimp only;refine az (dH hC ja (by lia) (by lia) fun b6=>?_);cases b6
      .exact aB ⟨ja,_,rfl,rfl⟩
      .exact aB ⟨ja,_,rfl,by lia,by lia⟩
     .rintro c vv ⟨ja,m,rfl,rfl⟩;exact⟨ja,_,rfl,by lia,by lia⟩
     .rintro c vv ⟨ja,m,rfl,h1,h2⟩;exact aB (h m vv ja h1 h2)
    .refine az (eO lv fun qY F_=>?_);refine az (dO (dN (I:=fun i c aL=>SQ κ a₀ pd aL/\∃m,c=(none,m)/\m=i) (Q:=fun c aL=>SQ κ a₀ pd aL/\∃m,c=(none,m)/\1<=m/\m<=kr) ?_ ?_ ⟨F_,_,rfl,rfl⟩) ?_)
     .rintro i c vv ID u_ ⟨ja,m,rfl,rfl⟩;dsimp only;refine az (dH hC ja (by lia) (by lia) fun b6=>?_);cases b6
      .exact aB ⟨ja,_,rfl,rfl⟩
      .exact aB ⟨ja,_,rfl,by lia,by lia⟩
     .rintro c vv ⟨ja,m,rfl,rfl⟩;exact⟨ja,_,rfl,by lia,by lia⟩
     .rintro c vv ⟨ja,m,rfl,h1,h2⟩;exact aB (h m vv ja h1 h2)
end
abbrev IE:=Nat×Nat×Nat
def f9:List IE->Nat->Nat->Prop
 |[],s,e=>s=e
 |r::rs,s,e=>r.1=s/\1<=r.2.1/\f9 rs (s+r.2.1) e
theorem f9.le:∀ {l:List IE} {s e:Nat},f9 l s e->s<=e
 |[],_,_,h=>mj h
 |r::rs,s,e,⟨_,h2,h3⟩=>by have:=h3.le;lia
theorem f9.two:∀ {l:List IE} {s e i:Nat} {x y:IE},f9 l s e->l[i]?=some x->l[i+1]?=some y->
  x.1+x.2.1=y.1/\y.1+y.2.1<=e/\1<=x.2.1/\1<=y.2.1/\∀p,f9 ((l.set i (x.1,x.2.1+y.2.1,p)).eraseIdx (i+1)) s e
 |r::q::rs,s,e,0,x,y,⟨h1,h2,h3,h4,h5⟩,hx,hy=>by
  obtain rfl:=bh hx;obtain rfl:=bh hy;have:=h5.le;refine⟨by lia,by lia,h2,h4,fun p=>⟨h1,by show 1<=r.2.1+q.2.1;lia,?_⟩⟩;show f9 rs (s+(r.2.1+q.2.1)) e;rw[<-Nat.add_assoc];exact h5
 |r::rs,s,e,i+1,x,y,⟨h1,h2,h3⟩,hx,hy=>by
  obtain⟨a1,a2,a3,a4,a5⟩:=f9.two (i:=i) h3 hx hy;exact⟨a1,a2,a3,a4,fun p=>⟨h1,h2,a5 p⟩⟩
theorem f9.push:∀ {l:List IE} {s e n p:Nat},f9 l s e->1<=n->f9 (l++[(e,n,p)]) s (e+n)
 |[],s,e,n,p,h,hn=>⟨h.symm,hn,by rw[h];rfl⟩
 |r::rs,s,e,n,p,⟨h1,h2,h3⟩,hn=>⟨h1,h2,f9.push h3 hn⟩
theorem f9.pw:∀ {l:List IE} {s e:Nat} (i p:Nat),f9 l s e->f9 (l.modify i fun r=>(r.1,r.2.1,p)) s e
 |[],s,e,i,p,h=>by cases i <;> exact h
 |r::rs,s,e,0,p,⟨h1,h2,h3⟩=>⟨h1,h2,h3⟩
 |r::rs,s,e,i+1,p,⟨h1,h2,h3⟩=>⟨h1,h2,f9.pw i p h3⟩
theorem CP{M:Model}{A:Around}{E:Value->Shared->Prop}{s:Shared}{σ:Type}{x:σ}{Q:PUnit->σ->Prop}{st:σ}(h:Q ⟨⟩ x):wpS M A E s (set x:StateT σ Sem PUnit) Q st:=by
 unfold wpS;rw[StateT.run_set];exact wpAny_pure ⟨rfl,h⟩
theorem sq(i:Nat):mergeAt' i=(do
 let s <- get
 let (some (sa,na,Kk),some (sb,nb,_)):=((pendingOf s)[i]?,(pendingOf s)[i+1]?)|unsupported "internal:list.sort.pending"
 set (setPending s (((pendingOf s).setIfInBounds i (sa,na+nb,Kk)).eraseIdxIfInBounds (i+1)))
 let some k <- ft false (<-elem' (arrOf s) sb) (arrOf s) sa na 0|return false
 let (sa,na):=(sa+k,na-k)
 if na==0 then return true
 let some nb <- ft true (<-elem' (arrOf s) (sa+na-1)) (arrOf s) sb nb (nb-1)|return false
 if nb==0 then return true
 let x:=(arrOf s).extract sa sb
 let y:=(arrOf s).extract sb (sb+nb)
 let merged <- if na<=nb then mS x y else mT x y
 modify fun s=>setArr s (merged.toList.zipIdx.foldl (fun a (p,j)=>a.setIfInBounds (sa+j) p) (arrOf s))
 return (failedOf (<-get)).isNone):=rfl
theorem mW{sa:Nat}:∀ (l:List Keyed) (k:Nat) (arr:Array Keyed),sa+k+l.length<=arr.size->
  ((l.zipIdx k).foldl (fun (a:Array Keyed) (x:Keyed×Nat)=>a.setIfInBounds (sa+x.2) x.1) arr).toList=arr.toList.take (sa+k)++l++arr.toList.drop (sa+k+l.length)
 |[],k,arr,_=>by simp
 |x::l,k,arr,h=>by
  rw[dv] at h;have hs:sa+k<arr.toList.length:=by rw[iI];lia
  rw[List.zipIdx_cons,lY,mW l (k+1) _ (by rw[Array.size_setIfInBounds];lia),yO];dsimp only;have e1:(arr.toList.set (sa+k) x).take (sa+(k+1))=arr.toList.take (sa+k)++[x]:=by
   rw[<-Nat.add_assoc,iJ,kM hs,List.take_set_of_le (aG _)];rfl
  have e2:(arr.toList.set (sa+k) x).drop (sa+(k+1)+l.length)=arr.toList.drop (sa+k+(x::l).length):=by
   rw[List.drop_set_of_lt (by lia),dv];congr 1;lia
  rw[e1,e2,cz,cz,cz];rfl
section
variable {prog:Program} {w:World} {A:Around} {E:Value->Shared->Prop} {s:Shared} {κ:SortKind} {a₀:Array Keyed}
def SR(κ:SortKind)(a₀:Array Keyed)(lo:Nat)(st:SortSt):Prop:=∃pd,SQ κ a₀ pd st/\f9 pd.toList 0 lo/\lo<=a₀.size
theorem ij{st:SortSt}{i lo:Nat}{Q:Bool->SortSt->Prop}(hC:q_ prog w A s κ a₀)(hB:SR κ a₀ lo st)(hi:i+1<(pendingOf st).size)(h:∀aL,SR κ a₀ lo aL->Q true aL):wpS (model prog w) A E s (mergeAt' i) Q st:=by
 obtain⟨pd,hq,hr,M8⟩:=hB;rw[hq.pend] at hi;rw[sq];refine az (eR ?_);have e1:pd[i]?=some pd[i]:=cj pd i (by lia);have e2:pd[i+1]?=some pd[i+1]:=cj pd (i+1) hi;obtain⟨a1,a2,a3,a4,a5⟩:=hr.two (i:=i) (x:=pd[i]) (y:=pd[i+1]) (by simpa using e1) (by simpa using e2);rw[hq.pend,e1,e2];revert a1 a2 a3 a4 a5;generalize pd[i]=x;generalize pd[i+1]=y;obtain⟨sa,na,pw⟩:=x;obtain⟨sb,nb,Yu⟩:=y;intro a1 a2 a3 a4 a5;dsimp only at a1 a2 a3 a4 a5 |-;obtain⟨CQ,Kl⟩:∃CQ,CQ=(pd.setIfInBounds i (sa,na+nb,pw)).eraseIdxIfInBounds (i+1):=⟨_,rfl⟩
 have yD:f9 CQ.toList 0 lo:=by
  rw[Kl,Array.toList_eraseIdxIfInBounds,yO];exact a5 pw
 refine az (CP ?_);rw[<-Kl];have ED:SM κ (arrOf st) CQ (setPending st CQ):=⟨rfl,hq.kind,hq.failed,rfl⟩
 have fq:=hq.size;have tw:∀x∈(arrOf st).toList,x∈a₀.toList:=fun x hx=>(iH.mp hq.perm).mem_iff.mp hx;have eT:∀aL,SM κ (arrOf st) CQ aL->SR κ a₀ lo aL:=fun aL m=>⟨CQ,⟨by rw[m.arr];exact hq.perm,m.kind,m.failed,m.pend⟩,yD,M8⟩
 refine az (aV (cj (arrOf st) sb (by lia)) ?_);refine az (dW hC ED.kind (tw _ (by simp)) tw (by lia) (by lia) fun k hk=>?_);dsimp only;by_cases f1:(na-k==0)=true
 .rw[ao f1];exact aB (h _ (eT _ ED))
 rw[am f1];have g1:¬ (na-k=0):=by simpa using f1
 refine az (aV (cj (arrOf st) (sa+k+(na-k)-1) (by lia)) ?_);refine az (dW hC ED.kind (tw _ (by simp)) tw (by lia) (by lia) fun k2 Pi=>?_);dsimp only;by_cases f2:(k2==0)=true
 .rw[ao f2];exact aB (h _ (eT _ ED))
 rw[am f2];have g2:¬ (k2=0):=by simpa using f2
 have hx:∀x∈((arrOf st).extract (sa+k) sb).toList,x∈a₀.toList:=fun x hx=>tw x (by rw[cJ] at hx;exact l0 (lZ hx));have hy:∀x∈((arrOf st).extract sb (sb+k2)).toList,x∈a₀.toList:=fun x hx=>tw x (by rw[cJ] at hx;exact l0 (lZ hx));have sx:((arrOf st).extract (sa+k) sb).size=sb-(sa+k):=by rw[Array.size_extract];lia
 have sy:((arrOf st).extract sb (sb+k2)).size=k2:=by rw[Array.size_extract];lia
 have last:∀ (out:Array Keyed) (aL:SortSt),out.Perm ((arrOf st).extract (sa+k) sb++(arrOf st).extract sb (sb+k2))->SM κ (arrOf st) CQ aL->wpS (model prog w) A E s (do
   modify fun s=>setArr s (out.toList.zipIdx.foldl (fun a (p,j)=>a.setIfInBounds (sa+k+j) p) (arrOf s))
   return (failedOf (<-get)).isNone) Q aL:=by
  intro out aL hp m;refine az (gE ?_);refine az (eR (aB ?_));have T5:out.toList.length=sb-(sa+k)+k2:=by
   rw[iI,hp.size_eq,Array.size_append,sx,sy]
  have wl:=mW (sa:=sa+k) out.toList 0 (arrOf aL) (by rw[m.arr,T5];lia);have pm:(out.toList.zipIdx.foldl (fun a (p,j)=>a.setIfInBounds (sa+k+j) p) (arrOf aL)).Perm (arrOf st):=by
   rw[iH];refine(pT wl).trans ?_;rw[m.arr,T5,Nat.add_zero];have Ix:=iH.mp hp;rw[du,cJ,cJ] at Ix;refine((Ix.append_left _).append_right _).trans ?_;have e1:(arrOf st).toList.drop (sa+k)=((arrOf st).toList.drop (sa+k)).take (sb-(sa+k))++(arrOf st).toList.drop sb:=jG (by lia);have e2:(arrOf st).toList.drop sb=((arrOf st).toList.drop sb).take (sb+k2-sb)++(arrOf st).toList.drop (sb+k2):=jG (by lia);have e3:sa+k+(sb-(sa+k)+k2)=sb+k2:=by lia
   rw[e3];refine pT ?_;conv=>rhs;rw[<-oA (sa+k) (arrOf st).toList,e1,e2]
   simp only[cz]
  have hf:(failedOf aL).isNone=true:=by rw[m.failed];rfl
  show Q (failedOf aL).isNone _;rw[hf];exact h _ ⟨CQ,⟨pm.trans hq.perm,m.kind,m.failed,m.pend⟩,yD,M8⟩
 by_cases f3:na-k<=k2
 .rw[ao f3];exact az (sj hC ED hx hy (by lia) (by lia) fun out aL hp m=>last out aL hp m)
 .rw[am f3];exact az (so hC ED hx hy (by lia) (by lia) fun out aL hp m=>last out aL hp m)
theorem sr{c:Prop}[Decidable c]{x:Nat}:(if c then x-1 else x)<=x:=by split <;> lia
theorem SR.pw{lo:Nat}{st:SortSt}(h:SR κ a₀ lo st)(i p:Nat):SR κ a₀ lo (setPending st ((pendingOf st).modify i fun r=>(r.1,r.2.1,p))):=by
 obtain⟨pd,hq,hr,hl⟩:=h;refine⟨_,⟨hq.perm,hq.kind,hq.failed,rfl⟩,?_,hl⟩;show f9 ((pendingOf st).modify i fun r=>(r.1,r.2.1,p)).toList 0 lo;rw[hq.pend,Array.toList_modify];exact hr.pw i p
theorem SR.push{lo n:Nat}{st:SortSt}(h:SR κ a₀ lo st)(h1:1<=n)(hn:lo+n<=a₀.size):SR κ a₀ (lo+n) (setPending st ((pendingOf st).push (lo,n,0))):=by
 obtain⟨pd,hq,hr,hl⟩:=h;refine⟨_,⟨hq.perm,hq.kind,hq.failed,rfl⟩,?_,hn⟩;show f9 ((pendingOf st).push (lo,n,0)).toList 0 (lo+n);rw[hq.pend,jS];exact hr.push h1
theorem pc{st:SortSt}{Q:Unit->SortSt->Prop}(hC:q_ prog w A s κ a₀)(hp:(arrOf st).Perm a₀)(hk:kindOf st=κ)(hf:failedOf st=none)(Wj:pendingOf st=#[])(h:∀aL,(arrOf aL).Perm a₀->failedOf aL=none->Q () aL):wpS (model prog w) A E s sortRuns' Q st:=by
 have h0:SR κ a₀ 0 st:=⟨#[],⟨hp,hk,hf,Wj⟩,rfl,cu _⟩
 have fq:(arrOf st).size=a₀.size:=hp.size_eq;rw[sortRuns'_eq];refine az (eR ?_);dsimp only;rw[fq];refine az (dO (dN (I:=fun _ c aL=>∃lo,c=(none,lo)/\SR κ a₀ lo aL) (Q:=fun c aL=>∃lo,c=(none,lo)/\SR κ a₀ lo aL) ?_ (fun c aL hh=>hh) ⟨0,rfl,h0⟩) ?_)
 .rintro i c IC _ _ ⟨lo,rfl,hR⟩;dsimp only;by_cases e1:lo>=a₀.size
  .rw[ao e1];exact aB ⟨lo,rfl,hR⟩
  rw[am e1];have M8:lo<a₀.size:=by lia
  obtain⟨pd,hq,hr,hl⟩:=hR;refine az (xY hC (by lia) (by lia) hq fun n qX Nd n1 n2=>?_);dsimp only;by_cases hm:n<minRun' a₀.size a₀.size 0
  .rw[ao hm];refine az (iY (gb ⟨rfl,?_⟩));refine az (CK hC (by lia) Nd fun uN Tv=>?_);simp only[pX,jk,eh];have BU:SR κ a₀ lo uN:=⟨pd,Tv,hr,hl⟩
   refine az (eR ?_);cases hb:(pendingOf uN).back? with
   |none=>
    dsimp only;exact az (gE (aB ⟨_,rfl,BU.push (by lia) (by lia)⟩))
   |some r=>
    obtain⟨s1,Wk,Wl⟩:=r;dsimp only;refine az (dO (dN (I:=fun _ c aL=>c=(none,())/\SR κ a₀ lo aL) (Q:=fun c aL=>c=(none,())/\SR κ a₀ lo aL) ?_ (fun c aL hh=>hh) ⟨rfl,BU⟩) ?_)
    .rintro x c nX _ _ ⟨rfl,su⟩;refine az (eR ?_);by_cases hs:(pendingOf nX).size > 1
     .rw[ao hs,cj (pendingOf nX) ((pendingOf nX).size-2) (by lia)];generalize (pendingOf nX)[(pendingOf nX).size-2]=r4;obtain⟨_,_,Km⟩:=r4;dsimp only;split
      .exact aB ⟨rfl,su⟩
      .refine az (ij hC su (by lia) fun qY Kn=>?_);simp only[pX,jk,eh];exact aB ⟨rfl,Kn⟩
     .rw[am hs];exact aB ⟨rfl,su⟩
    .rintro c nX ⟨rfl,su⟩;dsimp only;exact az (gE (az (gE (aB ⟨_,rfl,(su.pw _ _).push (by lia) (by lia)⟩))))
  .rw[am hm];have BU:SR κ a₀ lo qX:=⟨pd,Nd,hr,hl⟩
   refine az (eR ?_);cases hb:(pendingOf qX).back? with
   |none=>
    dsimp only;exact az (gE (aB ⟨_,rfl,BU.push (by lia) (by lia)⟩))
   |some r=>
    obtain⟨s1,Wk,Wl⟩:=r;dsimp only;refine az (dO (dN (I:=fun _ c aL=>c=(none,())/\SR κ a₀ lo aL) (Q:=fun c aL=>c=(none,())/\SR κ a₀ lo aL) ?_ (fun c aL hh=>hh) ⟨rfl,BU⟩) ?_)
    .rintro x c nX _ _ ⟨rfl,su⟩;refine az (eR ?_);by_cases hs:(pendingOf nX).size > 1
     .rw[ao hs,cj (pendingOf nX) ((pendingOf nX).size-2) (by lia)];generalize (pendingOf nX)[(pendingOf nX).size-2]=r4;obtain⟨_,_,Km⟩:=r4;dsimp only;split
      .exact aB ⟨rfl,su⟩
      .refine az (ij hC su (by lia) fun qY Kn=>?_);simp only[pX,jk,eh];exact aB ⟨rfl,Kn⟩
     .rw[am hs];exact aB ⟨rfl,su⟩
    .rintro c nX ⟨rfl,su⟩;dsimp only;exact az (gE (az (gE (aB ⟨_,rfl,(su.pw _ _).push (by lia) (by lia)⟩))))
 .rintro c IC ⟨lo,rfl,hR⟩;dsimp only;refine az (dO (dN (I:=fun _ c aL=>c=(none,())/\SR κ a₀ lo aL) (Q:=fun c aL=>c=(none,())/\SR κ a₀ lo aL) ?_ (fun c aL hh=>hh) ⟨rfl,hR⟩) ?_)
  .rintro x c nX _ _ ⟨rfl,su⟩;refine az (eR ?_);by_cases hs:(pendingOf nX).size<=1
   .rw[ao hs];exact aB ⟨rfl,su⟩
   rw[am hs];refine az (ij hC su ?_ fun qY Kn=>?_)
   .exact jj (Nat.succ_le_succ sr) (show (pendingOf nX).size-2+1<(pendingOf nX).size by lia)
   .simp only[pX,jk,eh];exact aB ⟨rfl,Kn⟩
  .rintro c nX ⟨rfl,pd,hq,_⟩;exact aB (h _ hq.perm hq.failed)
end
end PyProof.Rows
namespace L2
open PySem PySem.Spec PyProof.Rows PySem.W
def gn(h:Heap)(vs:List Value):Prop:=∀v∈vs,∃a o n x t y u,v=Value.ref a/\h.get? a=some o/\o.cls=.type "tuple"/\o.data=.seq #[.int x t,.int y u] n
theorem gn.d7{h:Heap}:∀ {vs:List Value},gn h vs->∃fs,KatTups h vs fs/\fs.length=vs.length/\∀v∈fs,∃n t,v=Value.int n t
 |[],_=>⟨[],trivial,rfl,fun v hv=>nomatch hv⟩
 |v::vs,hp=>by
  obtain⟨fs,k1,k2,k3⟩:=gn.d7 (vs:=vs) fun b hb=>hp b (bS _ hb);obtain⟨a,o,n,x,t,y,u,rfl,e,c,d⟩:=hp v bU;refine⟨.int x t::fs,KatTups.cons e c d rfl k1,by simp[k2],fun v hv=>?_⟩;rcases aR.mp hv with z|z
  .exact⟨x,t,z⟩
  .exact k3 v z
section
variable {prog:Program} {w:World} {A:Around} {E:Value->Shared->Prop} {s:Shared}
theorem xZ{vs:List Value}(hp:gn s.heap vs):q_ prog w A s (tuples' true) (vs.toArray.zip vs.toArray):=by
 have mem:∀x∈(vs.toArray.zip vs.toArray).toList,x.1∈vs:=by
  intro x hx;rw[Array.toList_zip] at hx;exact(jW hx).1
 intro x y hx hy Q E' q;obtain⟨a,o,n,x1,t1,x2,t2,e1,eo,_,ed⟩:=hp x.1 (mem x hx);obtain⟨b,o',n',y1,u1,y2,u2,e2,Wm,_,Wn⟩:=hp y.1 (mem y hy);rw[e1,e2];refine kat_lt eo ed Wm Wn (kat_cons (uC ?_));by_cases h1:x1=y1
 .rw[eQ.mpr h1];refine kat_yes (kat_cons (uC ?_));by_cases h2:x2=y2
  .rw[eQ.mpr h2];exact kat_yes (kat_nil (q _))
  .rw[lT.mpr h2];exact kat_no (kat_one _ _ (lt_int (q _)))
 .rw[lT.mpr h1];exact kat_no (oneLt_int (q _))
theorem CS{vs:List Value}:((vs.toArray.zip vs.toArray).map (·.2)).toList=vs:=by
 rw[l7,Array.toList_zip];show (vs.zip vs).map (·.2)=vs;rw[<-List.unzip_snd,List.unzip_zip_right (aG _)]
theorem lx{a:Addr}{vs:List Value}{n:Nat}{P:PySem.Fin->Shared->Prop}(ho:s.heap.get? a=some (seqObj "list" vs.toArray n))(hp:gn s.heap vs)(hz:vs.length<=4096)(h:∀ (out:Array Value),out.toList.Perm vs->P (.done (.ret .none)) { s with heap:=sortedHeap s.heap a vs out }):
  wpAny (model prog w) A (Builtin.«list.sort» ⟨[.ref a],[]⟩) P E s:=by
 rw[list_sort_plain];have ha:a<s.heap.objs.size:=bg ho;have Iw:vs.toArray.size<=sizeLine:=by rw[bT,d6];lia
 refine aq (listItems_at ho rfl ?_);refine aq (iX ho rfl ?_ Iw (cu _));obtain⟨e1,Ga⟩:∃e1,(s.heap.update a (Obj.mapSeq fun _=>#[])).get? a=some (seqObj "list" #[] e1):=⟨_,j3 ho (fun _=>#[])⟩
 refine aq (mn Ga rfl ?_);refine aq (wpAny_newTuple ?_ (by show vs.length<=_;rw[d6];lia));refine aq (p6 ?_ (cu _));refine gB ?_;have IF:(((s.heap.update a (Obj.mapSeq fun _=>#[])).push (seqObj "tuple" vs.toArray 0)).push (seqObj "list" #[] 0)).get? a=some (seqObj "list" #[] e1):=by
  rw[ff _ _ _ (by rw[fv,gA];exact bf (cZ ha)),ff _ _ _ (by rw[gA];exact bf ha)];exact Ga
 have EN:gn (((s.heap.update a (Obj.mapSeq fun _=>#[])).push (seqObj "tuple" vs.toArray 0)).push (seqObj "list" #[] 0)) vs:=by
  intro v hv;obtain⟨b,o,n,x,t,y,u,ev,e,c,d⟩:=hp v hv;have hb:b<s.heap.objs.size:=bg e;have jQ:b≠a:=by
   rintro rfl;rw[ho] at e;cases e;exact absurd (Value.type.inj c) (by decide)
  refine⟨b,o,n,x,t,y,u,ev,?_,c,d⟩;rw[ff _ _ _ (by rw[fv,gA];exact bf (cZ hb)),ff _ _ _ (by rw[gA];exact bf hb),oB _ _ _ _ jQ];exact e
 show wpAny (model prog w) A _ P E { s with heap:=((s.heap.update a (Obj.mapSeq fun _=>#[])).push (seqObj "tuple" vs.toArray 0)).push (seqObj "list" #[] 0) };dsimp only;have eT:∀aL:SortSt,(arrOf aL).Perm (vs.toArray.zip vs.toArray)->P (.done (.ret .none)) { s with heap:=sortedHeap s.heap a vs ((arrOf aL).map (·.2)) }:=by
  intro aL Nl;refine h _ ?_;have:=(iH.mp Nl).map (·.2);rw[<-l7,<-l7,CS] at this;exact this
 have T6:(vs.toArray.zip vs.toArray).size=vs.length:=by simp
 by_cases h2:vs.toArray.size<2
 .rw[ao h2,ao h2];refine aq (wpAny_pure ?_);rw[StateT.run_pure];refine aq (wpAny_pure ?_);dsimp only;refine aq (mn IF rfl ?_);refine aq (iX IF rfl ?_ (cu _) (by show ((vs.toArray.zip vs.toArray).map (·.2)).size<=_;rw[gT,T6,d6];lia));simp only[ul,jk,eh];exact wpAny_pure (eT (SortSt.mk' general' (vs.toArray.zip vs.toArray) #[] 7 none) (pU _))
 .rw[am h2,am h2];have dC:2<=vs.length:=by rw[bT] at h2;lia
  obtain⟨fs,k1,k2,k3⟩:=EN.d7;refine aq (kat_kind (T:=.type "int") k1 (by lia) (fun v hv=>?_) rfl ?_)
  .obtain⟨m,t,rfl⟩:=k3 v hv;exact .now
  refine aq (fj (pc (a₀:=vs.toArray.zip vs.toArray) (κ:=tuples' true) (st:=SortSt.mk' (tuples' true) (vs.toArray.zip vs.toArray) #[] 7 none)
   (Q:=fun _ aL=>(arrOf aL).Perm (vs.toArray.zip vs.toArray)/\failedOf aL=none) (xZ EN) (pU _) rfl rfl rfl fun aL b1 b2=>⟨b1,b2⟩) ?_ fun _ _ e=>e)
  rintro⟨⟨⟩,aL⟩ s' ⟨rfl,Nl,hf⟩;dsimp only;refine aq (mn IF rfl ?_);refine aq (iX IF rfl ?_ (cu _) (by refine bp (mj ((gT ..).trans (Nl.size_eq.trans T6))) ?_;rw[d6];lia));rw[hf];simp only[ul,jk,eh];exact wpAny_pure (eT aL Nl)
theorem qt{l:Addr}{vs:List Value}{Q:Value->Shared->Prop}(hl:s.heap.IsList l vs.toArray)(hp:gn s.heap vs)(hz:vs.length<=4096)(h:∀ (out:Array Value),out.toList.Perm vs->Q (.ref (s.heap.objs.size+1)) { s with heap:=sortedAll s.heap vs out }):
  wpAny (model prog w) A (call (.builtin "sorted") [.ref l]) Q E s:=by
 have Iw:vs.length<=sizeLine:=by rw[d6];lia
 refine Calls.call_function_entry kind_sorted plain_sorted entry_sorted (args_sorted1 _) ?_;unfold Builtin.«sorted»;refine aq (m:=checkCount "sorted" 1 1 _) (wpAny_pure ?_);refine aq (collect_list hl ?_ Iw);refine aq (p6 ?_ Iw);have fq:((s.heap.push (seqObj "list" #[] 0)).update s.heap.objs.size (Obj.mapSeq (·++vs.toArray))).objs.size=s.heap.objs.size+1:=by
  rw[gA,fv]
 have vX:(((s.heap.push (seqObj "list" #[] 0)).update s.heap.objs.size (Obj.mapSeq (·++vs.toArray))).push (seqObj "list" vs.toArray 0)).get? (s.heap.objs.size+1)=some (seqObj "list" vs.toArray 0):=by
  rw[<-fq];exact ci _ rfl
 have CU:gn (((s.heap.push (seqObj "list" #[] 0)).update s.heap.objs.size (Obj.mapSeq (·++vs.toArray))).push (seqObj "list" vs.toArray 0)) vs:=by
  intro v hv;obtain⟨b,o,n,x,t,y,u,ev,e,c,d⟩:=hp v hv;have hb:b<s.heap.objs.size:=bg e;refine⟨b,o,n,x,t,y,u,ev,?_,c,d⟩;rw[ff _ _ _ (by rw[fq];exact bf (cZ hb)),oB _ _ _ _ (bf hb),ff _ _ _ (bf hb)];exact e
 show wpAny _ _ _ _ _ { s with heap:=((s.heap.push (seqObj "list" #[] 0)).update s.heap.objs.size (Obj.mapSeq (·++vs.toArray))).push (seqObj "list" vs.toArray 0) };rw[fq];refine aq (gB (jY slot_list_sort ⟨_,vX,rfl⟩ entry_list_sort (lx vX CU hz fun out a1=>⟨_,rfl,?_⟩) (args_list_sort _)));exact wpAny_pure ⟨_,rfl,h out a1⟩
end
theorem mX:∀ {as:List Addr} {its:List Value},aK (as.map V.ref) its->its=as.map Value.ref
 |[],_,r=>by cases r;rfl
 |a::as,_,r=>by
  cases r with
  |cons r rr=>
   obtain rfl:=(show _=Value.ref a from r)
   rw[mX rr];rfl
theorem pe:∀ {as:List Addr},aK (as.map V.ref) (as.map Value.ref)
 |[]=>.nil
 |_::_=>.cons rfl pe
theorem x_{as:List Addr}{vs:List Value}(h:vs.Perm (as.map Value.ref)):∃tD:List Addr,vs=tD.map Value.ref/\tD.Perm as:=by
 let un:Value->Addr:=fun v=>match v with|.ref a=>a|_=>0
 refine⟨vs.map un,?_,?_⟩
 .rw[gC];have:∀v∈vs,(Value.ref ∘ un) v=v:=by
   intro v hv;obtain⟨a,_,rfl⟩:=ck.mp (h.mem_iff.mp hv);rfl
  conv=>lhs;rw[<-j4 vs]
  exact l3 fun v hv=>(this v hv).symm
 .have:=h.map un;rw[gC] at this;have e:as.map (un ∘ Value.ref)=as:=by
   conv=>rhs;rw[<-j4 as]
   exact l3 fun a _=>rfl
  rw[e] at this;exact this
def Ai(K:PySem.W.Frag):List V->Hp->VK->Prop:=fun xs H Q=>∃ (l:Addr) (as:List Addr),xs=[.ref l]/\bD K H l (as.map V.ref)/\(∀a∈as,∃x y:Int,cQ K H a [.int x,.int y])/\as.length<=4096/\
 ∀ (D:Addr) (tD:List Addr),H D=none->tD.Perm as->Q (.ref D) (upd H D (.lst (tD.map V.ref)))
theorem vw{X:Cx}:dE X (.builtin "sorted") (Ai X.K):=by
 intro ae s σ H xs us Q I r h;obtain⟨l,as,rfl,hl,hp,hz,q⟩:=h;obtain⟨u1,rfl,r1⟩:=r.one;obtain rfl:u1=Value.ref l:=r1;obtain⟨its,rv,pl,_⟩:=I.list hl;have vg:=mX rv;subst vg;have Wo:gn s.heap (as.map Value.ref):=by
  intro v hv;obtain⟨a,ha,rfl⟩:=ck.mp hv;obtain⟨x,y,Nm⟩:=hp a ha;obtain⟨its,r,⟨o,e,c,n,d⟩,_⟩:=I.tuple Nm;obtain⟨u1,u2,rfl,r1,r2⟩:=r.two;obtain⟨t,rfl⟩:=r1;obtain⟨t',rfl⟩:=r2;exact⟨a,o,n,x,t,y,t',rfl,e,c,d⟩
 refine qt pl.isList Wo (by rw[aT];exact hz) fun out Ko=>?_;obtain⟨tD,eo,pa⟩:=x_ Ko;have xS:out=(tD.map Value.ref).toArray:=by rw[<-eo]
 subst xS;have Pq:((s.heap.push (seqObj "list" #[] 0)).update s.heap.objs.size (Obj.mapSeq (·++(as.map Value.ref).toArray))).objs.size=s.heap.objs.size+1:=by rw[gA,fv]
 have k1:∀b u,s.heap.get? b=some u->(((s.heap.push (seqObj "list" #[] 0)).update s.heap.objs.size (Obj.mapSeq (·++(as.map Value.ref).toArray))).push (seqObj "list" (as.map Value.ref).toArray 0)).get? b=some u:=fun b u e=>by
  have hb:b<s.heap.objs.size:=bg e;rw[ff _ _ _ (by rw[Pq];exact bf (cZ hb)),oB _ _ _ _ (bf hb),ff _ _ _ (bf hb)];exact e
 have vX:(((s.heap.push (seqObj "list" #[] 0)).update s.heap.objs.size (Obj.mapSeq (·++(as.map Value.ref).toArray))).push (seqObj "list" (as.map Value.ref).toArray 0)).get? (s.heap.objs.size+1)=some (seqObj "list" (as.map Value.ref).toArray 0):=by
  rw[<-Pq];exact ci _ rfl
 have IG:(((s.heap.push (seqObj "list" #[] 0)).update s.heap.objs.size (Obj.mapSeq (·++(as.map Value.ref).toArray))).push (seqObj "list" (as.map Value.ref).toArray 0)).objs.size=s.heap.objs.size+2:=by rw[fv,Pq]
 show EP X ae σ Q (.ref (s.heap.objs.size+1)) { s with heap:=sortedHeap (((s.heap.push (seqObj "list" #[] 0)).update s.heap.objs.size (Obj.mapSeq (·++(as.map Value.ref).toArray))).push (seqObj "list" (as.map Value.ref).toArray 0)) (s.heap.objs.size+1) (as.map Value.ref) (tD.map Value.ref).toArray };revert k1 vX IG;generalize ((s.heap.push (seqObj "list" #[] 0)).update s.heap.objs.size (Obj.mapSeq (·++(as.map Value.ref).toArray))).push (seqObj "list" (as.map Value.ref).toArray 0)=h1;intro k1 vX IG;obtain⟨e1,Ga⟩:∃e1,(h1.update (s.heap.objs.size+1) (Obj.mapSeq fun _=>(#[]:Array Value))).get? (s.heap.objs.size+1)=some (seqObj "list" #[] e1):=⟨_,j3 vX (fun _=>#[])⟩
 have IF:(((h1.update (s.heap.objs.size+1) (Obj.mapSeq fun _=>(#[]:Array Value))).push (seqObj "tuple" (as.map Value.ref).toArray 0)).push (seqObj "list" #[] 0)).get? (s.heap.objs.size+1)=some (seqObj "list" #[] e1):=by
  rw[ff _ _ _ (by rw[fv,gA,IG];exact bf (cZ (kQ _))),ff _ _ _ (by rw[gA,IG];exact bf (kQ _))];exact Ga
 obtain⟨e2,Wp⟩:∃e2,(sortedHeap h1 (s.heap.objs.size+1) (as.map Value.ref) (tD.map Value.ref).toArray).get? (s.heap.objs.size+1)=some (seqObj "list" (tD.map Value.ref).toArray e2):=⟨_,j3 IF (fun _=>(tD.map Value.ref).toArray)⟩
 have keep:∀b u,s.heap.get? b=some u->(sortedHeap h1 (s.heap.objs.size+1) (as.map Value.ref) (tD.map Value.ref).toArray).get? b=some u:=fun b u e=>by
  have hb:b<s.heap.objs.size:=bg e;unfold sortedHeap;rw[oB _ _ _ _ (bf (cZ hb)),ff _ _ _ (by rw[fv,gA,IG];exact bf (cZ (cZ (cZ hb)))),ff _ _ _ (by rw[gA,IG];exact bf (cZ (cZ hb))),oB _ _ _ _ (bf (cZ hb))];exact k1 b u e
 have EO:s.heap.get? (s.heap.objs.size+1)=none:=pM (by lia);refine⟨.ref (s.heap.objs.size+1),_,I.EA (t':=s.toks) (o:=.lst (tD.map V.ref)) keep EO ⟨?_,tD.map Value.ref,e2,pe,Wp⟩,rfl,q _ tD (I.aW.mK EO) pa⟩;rw[aT,pa.length_eq];exact bp hz (by decide)
open PySem PySem.Spec PyProof.Rows
section
variable {prog:Program} {w:World} {A:Around} {E:Value->Shared->Prop} {s:Shared}
end
section
variable {X:Cx}
end
end L2
namespace iF
abbrev Ts:=List (Int×Int)
def T(ts:Ts)(a b:Nat):Prop:=(((a:Nat):Int),((b:Nat):Int))∈ts
instance (ts:Ts) (a b:Nat):Decidable (T ts a b):=inferInstanceAs (Decidable (_∈_))
def eZ(ts:Ts):Nat->Nat->Nat->Prop
 |0,a,b=>a=b
 |k+1,a,b=>∃c,eZ ts k a c/\T ts c b
theorem eZ.trans(h:eZ ts k a b):∀ {l:Nat} {c:Nat},eZ ts l b c->eZ ts (k+l) a c
 |0,_,e=>by cases e;exact h
 |l+1,_,⟨d,w,t⟩=>⟨d,h.trans w,t⟩
theorem eZ.one(h:T ts a b):eZ ts 1 a b:=⟨a,rfl,h⟩
theorem eZ.cons(h:T ts a b)(w:eZ ts k b c):eZ ts (k+1) a c:=by
 have:=(eZ.one h).trans w;rwa [Nat.add_comm] at this
def pf(ts:Ts)(a b d:Nat):Prop:=eZ ts d a b/\∀k,eZ ts k a b->d<=k
theorem pf.uniq(h:pf ts a b d)(g:pf ts a b e):d=e:=Nat.le_antisymm (h.2 _ g.1) (g.2 _ h.1)
open Classical in
noncomputable def far(ts:Ts)(a b:Nat):Nat:=if h:∃d,pf ts a b d then h.choose else 0
theorem Gb(h:pf ts a b d):far ts a b=d:=by
 unfold far;have hx:∃d,pf ts a b d:=⟨d,h⟩
 rw[dif_pos hx];exact hx.choose_spec.uniq h
structure ik(n:Nat)(ts:Ts):Prop where
 n1:2<=n
 n2:n<=32
 nd:ts.Nodup
 rg:∀t∈ts,(0<=t.1/\t.1<n)/\(0<=t.2/\t.2<n)
 ne:∀t∈ts,t.1≠t.2
 Nn:∀h:Int,(ts.filter fun t=>decide (t.1=h)).length=(ts.filter fun t=>decide (t.2=h)).length
 most:∀h:Int,(ts.filter fun t=>decide (t.1=h)).length<=8
 con:∀a b,a<n->b<n->∃k,eZ ts k a b
theorem ya(f:α->Int):∀ (l:List α) (n:Nat),(∀x∈l,0<=f x/\f x<n)->(∀h:Int,(l.filter fun t=>decide (f t=h)).length<=8)->l.length<=8*n:=by
 intro l n;induction n generalizing l with
 |zero=>
  intro h _;cases l with
  |nil=>simp
  |cons x xs=>have:=h x bU;lia
 |succ n ih=>
  intro h h8;have e:l.length=(l.filter fun t=>decide (f t=(n:Int))).length+(l.filter fun t=>!decide (f t=(n:Int))).length:=by
   induction l with
   |nil=>rfl
   |cons x xs Wq=>
    have:=Wq (fun y hy=>h y (bS _ hy)) (fun hh=>bp (by rw[gR];split <;> simp) (h8 hh));by_cases q:f x=(n:Int) <;> simp[gR,q] <;> lia
  have i2:=ih (l.filter fun t=>!decide (f t=(n:Int))) (fun x hx=>by
   have a:=h x (iL.mp hx |>.1);have b:=(iL.mp hx).2;simp at b;lia) (fun hh=>by
   refine bp ?_ (h8 hh);exact(List.filter_sublist.filter _).length_le)
  have:=h8 (n:Int);lia
theorem ik.len(F:ik n ts):ts.length<=256:=by
 have:=ya (·.1) ts n (fun t ht=>(F.rg t ht).1) F.most;have:=F.n2;lia
theorem ik.T7(F:ik n ts)(h:T ts a b):a<n/\b<n/\a≠b:=by
 have q:=F.rg _ h;have q2:=F.ne _ h;refine⟨by have:=q.1;simp at this;lia,by have:=q.2;simp at this;lia,fun e=>q2 (by rw[e])⟩
def dt(n:Nat)(ts:Ts)(h:Nat):List Nat:=((List.range n).map fun s=>(h+s) % n).filter fun o=>decide (T ts h o)
theorem il(F:ik n ts)(hh:h<n):o∈dt n ts h↔T ts h o:=by
 unfold dt;rw[iL,pN];refine⟨fun z=>z.2,fun z=>⟨?_,z⟩⟩;obtain⟨_,h2,_⟩:=F.T7 z;refine ck.mpr ⟨if h<=o then o-h else o+n-h,d5.mpr (by split <;> lia),?_⟩;split
 .rw[show h+(o-h)=o by lia,pP h2]
 .rw[show h+(o+n-h)=o+n by lia,Nat.add_mod_right,pP h2]
theorem wJ(F:ik n ts)(hh:h<n)(ho:o∈dt n ts h):o<n:=(F.T7 ((il F hh).mp ho)).2.1
def key(n h o:Nat):Int:=((o:Int)-(h:Int)) % (n:Int)
theorem Aj(hh:h<n)(hs:s<n):key n h ((h+s) % n)=(s:Int):=by
 unfold key;by_cases c:h+s<n
 .rw[pP c,show (((h+s:Nat):Int)-(h:Int))=(s:Int) by lia];exact Int.emod_eq_of_lt (by lia) (by lia)
 .have e:(h+s) % n=h+s-n:=by
   rw[Nat.mod_eq_sub_mod (by lia),pP (by lia)]
  rw[e,show ((((h+s-n:Nat)):Int)-(h:Int))=(s:Int)-(n:Int) by lia,Int.sub_emod_right];exact Int.emod_eq_of_lt (by lia) (by lia)
theorem sv(hh:h<n):(dt n ts h).Pairwise fun a b=>key n h a<key n h b:=by
 unfold dt;refine List.Pairwise.filter _ ?_;refine l5.mpr ?_;refine List.Pairwise.imp_of_mem ?_ (List.pairwise_lt_range (n:=n));intro a b ha hb T8;rw[Aj hh (d5.mp ha),Aj hh (d5.mp hb)];lia
theorem k7{α:Type}{k:α->Int}:∀ {a b:List α},a.Pairwise (fun x y=>k x<k y)->b.Pairwise (fun x y=>k x<k y)->(∀x,x∈a↔x∈b)->a=b
 |[],[],_,_,_=>rfl
 |[],y::ys,_,_,h=>absurd ((h y).mpr bU) (by simp)
 |x::xs,[],_,_,h=>absurd ((h x).mp bU) (by simp)
 |x::xs,y::ys,ha,hb,h=>by
  obtain⟨a1,a2⟩:=List.pairwise_cons.mp ha;obtain⟨b1,b2⟩:=List.pairwise_cons.mp hb;have e:x=y:=by
   rcases aR.mp ((h x).mp bU) with z|z
   .exact z
   .rcases aR.mp ((h y).mpr bU) with z'|z'
    .exact z'.symm
    .have q1:=b1 x z;have q2:=a1 y z';lia
  subst e;refine congrArg (x::·) (k7 a2 b2 fun z=>⟨fun hz=>?_,fun hz=>?_⟩)
  .rcases aR.mp ((h z).mp (bS _ hz)) with q|q
   .subst q;exact absurd (a1 _ hz) (by lia)
   .exact q
  .rcases aR.mp ((h z).mpr (bS _ hz)) with q|q
   .subst q;exact absurd (b1 _ hz) (by lia)
   .exact q
structure yb(n:Nat)(ts:Ts)(s i:Nat)(R:List Nat)(f:Nat->Nat):Prop where
 nd:R.Nodup
 lt:∀x∈R,x<n
 st:s∈R
 z:f s=0
 wk:∀x∈R,eZ ts (f x) s x
 up:R.Pairwise fun a b=>f a<=f b
 bd:∀u,R[i]?=some u->∀x∈R,f x<=f u+1
 cl:∀j u,j<i->R[j]?=some u->∀v,T ts u v->v∈R/\f v<=f u+1
theorem yb.start(hs:s<n):yb n ts s 0 [s] (fun _=>0):=
 ⟨by simp,fun x hx=>by simp at hx;lia,by simp,rfl,fun x hx=>by simp at hx;subst hx;rfl,by simp,fun u _ x _=>by lia,fun j u h=>absurd h (by lia)⟩
def put(f:Nat->Nat)(v k:Nat):Nat->Nat:=fun y=>if y=v then k else f y
theorem im:put f v k v=k:=by simp[put]
theorem eC(h:x≠v):put f v k x=f x:=by simp[put,h]
theorem yb.add(B:yb n ts s i R f)(hu:R[i]?=some u)(hv:v<n)(t:T ts u v)(hn:v∉R):yb n ts s i (R++[v]) (put f v (f u+1)):=by
 have T9:u∈R:=cX hu;have nv:∀x∈R,x≠v:=fun x hx e=>hn (e ▸ hx);have hi:i<R.length:=(dD.mp hu).1;refine⟨?_,fun x hx=>?_,fK _ B.st,by rw[eC (nv s B.st)];exact B.z,fun x hx=>?_,?_,fun w hw x hx=>?_,fun j w hj hw x hx=>?_⟩
 .rw[List.nodup_append];exact⟨B.nd,by simp,fun a ha b hb e=>by simp at hb;subst hb;exact hn (e ▸ ha)⟩
 .rcases cE.mp hx with z|z
  .exact B.lt x z
  .simp at z;lia
 .rcases cE.mp hx with z|z
  .rw[eC (nv x z)];exact B.wk x z
  .simp at z;subst z;rw[im];exact⟨u,B.wk u T9,t⟩
 .rw[List.pairwise_append];refine⟨B.up.imp_of_mem fun {a b} ha hb h=>by rw[eC (nv a ha),eC (nv b hb)];exact h,by simp,fun a ha b hb=>?_⟩;simp at hb;subst hb;rw[eC (nv a ha),im];exact B.bd u hu a ha
 .have Wr:w=u:=by
   rw[oz hi,hu] at hw;exact(bh hw).symm
  subst Wr;rw[eC (nv w T9)];rcases cE.mp hx with z|z
  .rw[eC (nv x z)];exact B.bd w hu x z
  .simp at z;subst z;rw[im];exact aG _
 .rw[oz (by lia)] at hw;obtain⟨a,b⟩:=B.cl j w hj hw x hx;refine⟨fK _ a,?_⟩;rw[eC (nv x a),eC (nv w (cX hw))];exact b
theorem yb.next(B:yb n ts s i R f)(hu:R[i]?=some u)(h:∀v,T ts u v->v∈R/\f v<=f u+1):yb n ts s (i+1) R f:=by
 refine⟨B.nd,B.lt,B.st,B.z,B.wk,B.up,fun w hw x hx=>?_,fun j w hj hw v hv=>?_⟩
 .have h1:=B.bd u hu x hx;have h2:f u<=f w:=by
   have hi:i<R.length:=(dD.mp hu).1;have BS:i+1<R.length:=(dD.mp hw).1;have:=yQ.mp B.up i (i+1) hi BS (by lia);rw[cr hi] at hu;rw[cr BS] at hw;rw[bh hu,bh hw] at this;exact this
  lia
 .by_cases e:j=i
  .subst e;rw[hu] at hw;cases hw;exact h v hv
  .exact B.cl j w (by lia) hw v hv
theorem gp:∀ {n:Nat} {R:List Nat},R.Nodup->(∀x∈R,x<n)->R.length<=n:=by
 intro n R hn hl;have key:∀ (a b:List Nat),a.Nodup->(∀x∈a,x∈b)->a.length<=b.length:=by
  intro a;induction a with
  |nil=>intro b _ _;exact cu _
  |cons x xs ih=>
   intro b hn hs;obtain⟨h1,h2⟩:=fQ.mp hn;have hx:x∈b:=hs x bU;have:=ih (b.erase x) h2 fun y hy=>(List.mem_erase_of_ne (fun (e:y=x)=>h1 (e ▸ hy))).mpr (hs y (bS _ hy));rw[yU hx] at this;have:0<b.length:=List.length_pos_of_mem hx;rw[dv];lia
 have:=key R (List.range n) hn fun x hx=>d5.mpr (hl x hx);rwa [iK] at this
theorem yb.done(B:yb n ts s i R f)(F:ik n ts)(hi:R.length<=i)(hx:x<n):x∈R/\f x=far ts s x:=by
 have cl:∀u∈R,∀v,T ts u v->v∈R/\f v<=f u+1:=fun u hu v hv=>by
  obtain⟨j,hj,e⟩:=List.mem_iff_getElem.mp hu;exact B.cl j u (by lia) (by rw[cr hj,e]) v hv
 have walk:∀k x,eZ ts k s x->x∈R/\f x<=k:=by
  intro k;induction k with
  |zero=>intro x e;cases e;exact⟨B.st,by rw[B.z];exact aG _⟩
  |succ k ih=>
   rintro x ⟨c,w,t⟩;obtain⟨c1,c2⟩:=ih c w;obtain⟨d1,d2⟩:=cl c c1 x t;exact⟨d1,by lia⟩
 obtain⟨k,w⟩:=F.con s x (B.lt s B.st) hx;obtain⟨m,_⟩:=walk k x w;exact⟨m,(Gb ⟨B.wk x m,fun k w=>(walk k x w).2⟩).symm⟩
theorem eZ.mono(h:∀t∈ts,t∈Pr):∀ {k a b:Nat},eZ ts k a b->eZ Pr k a b
 |0,_,_,e=>e
 |_+1,_,_,⟨c,w,t⟩=>⟨c,w.mono h,h _ t⟩
theorem ik.perm(F:ik n ts)(p:Pr.Perm ts):ik n Pr:=
  ⟨F.n1,F.n2,p.nodup_iff.mpr F.nd,fun t ht=>F.rg t (p.mem_iff.mp ht),fun t ht=>F.ne t (p.mem_iff.mp ht),fun h=>by rw[(p.filter _).length_eq,(p.filter _).length_eq];exact F.Nn h,
   fun h=>by rw[(p.filter _).length_eq];exact F.most h,fun a b ha hb=>let ⟨k,w⟩:=F.con a b ha hb;⟨k,w.mono fun t ht=>p.mem_iff.mpr ht⟩⟩
theorem CV{xs:List Nat}{k:Nat}(h:k<xs.length):xs.getD k 0=xs[k]:=by rw[dS,cr h];rfl
end iF
namespace L2
open PySem PySem.Spec PyProof.Rows
section
variable {X:Cx}
def EQ(K:PySem.W.Frag):List V->Hp->VK->Prop:=fun xs H Q=>∃ (p C tp:Addr) (cs:List Addr) (b:Bool),xs=[.ref p,.ref tp]/\jA K C/\H p=some (oj p (.ref C))/\cQ K H tp (cs.map V.ref)/\PySem.W.kitAny K (.ref C) (cs.map Value.ref)=some b/\Q (.bl b) H
theorem yc:dE X (.builtin "isinstance") (EQ X.K):=by
 intro ae s σ H xs us Q I r h;obtain⟨p,C,tp,cs,b,rfl,T,ea,ht,e,q⟩:=h;obtain⟨u1,u2,rfl,r1,r2⟩:=r.two;obtain rfl:u1=Value.ref p:=r1;obtain rfl:u2=Value.ref tp:=r2;have p1:Ez p (.ref C) s.heap:=(I.aW p _ ea).1;obtain⟨its,rv,⟨⟨OS,od,JV,q0⟩,eo,zH,n,hd⟩,_⟩:=I.tuple ht;have vg:=mX rv;subst vg;simp only at zH hd;subst zH;subst hd;exact PySem.W.kia_tup (mL T) I.iN p1 eo e (fun z=>nomatch z) fun tk=>⟨.bl b,H,I.tok tk,rfl,q⟩
end
end L2
namespace iF
abbrev vx(u:Int×Int):Int×Int:=(u.2,u.1)
def mY(ps:Ts):Ts:=ps.flatMap fun u=>[u,vx u]
theorem io:∀ {ps:Ts},(mY ps).Perm (ps++ps.map vx)
 |[]=>List.Perm.refl _
 |u::ps=>by
  have ih:=io (ps:=ps);show (u::vx u::mY ps).Perm (u::(ps++vx u::ps.map vx));refine List.Perm.cons _ ?_;exact(ih.cons _).trans List.perm_middle.symm
theorem CW(h:u∈mY ps):vx u∈mY ps:=by
 obtain⟨v,hv,hu⟩:=uv.mp h;refine uv.mpr ⟨v,hv,?_⟩;rcases aR.mp hu with e|e
 .rw[e];exact bS _ (cy.mpr rfl)
 .rw[cy.mp e];exact bU
theorem CY:u∈mY ps↔u∈ps\/vx u∈ps:=by
 rw[(io (ps:=ps)).mem_iff,cE];refine or_congr Iff.rfl ⟨fun h=>?_,fun h=>ck.mpr ⟨_,h,rfl⟩⟩;obtain⟨v,hv,rfl⟩:=ck.mp h;exact hv
theorem CZ:((mY ps).map vx).Perm (mY ps):=by
 refine((io (ps:=ps)).map vx).trans (List.Perm.trans ?_ (io (ps:=ps)).symm);rw[c_,gC];have e:ps.map (vx ∘ vx)=ps:=(l3 fun u _=>rfl).trans (j4 ps);rw[e];exact gQ
def yd(x:Nat):List Nat->Bool
 |[]=>false
 |y::ys=>Nat.beq x y||yd x ys
theorem mZ:∀ {ys:List Nat},yd x ys=true↔x∈ys
 |[]=>by simp[yd]
 |y::ys=>by
  unfold yd;rw[uz,mZ (ys:=ys),aR];exact or_congr ⟨fun h=>tY h,fun h=>by rw[h];exact Nat.beq_refl y⟩ Iff.rfl
def No:List Nat->Bool
 |[]=>true
 |x::xs=>!yd x xs&&No xs
theorem Ak:∀ {xs:List Nat},No xs=true->xs.Nodup
 |[],_=>uA
 |x::xs,h=>by
  unfold No at h;rw[fg] at h;refine fQ.mpr ⟨fun z=>?_,Ak h.2⟩;rw[mZ.mpr z] at h;exact absurd h.1 (by decide)
abbrev k9(q:Nat×Nat):Int×Int:=((q.1:Int),(q.2:Int))
def Np(qs:List (Nat×Nat)):List Nat:=qs.flatMap fun q=>[64*q.1+q.2,64*q.2+q.1]
def II(c:Nat):Int×Int:=(((c / 64:Nat):Int),((c % 64:Nat):Int))
theorem vy(h:b<64):II (64*a+b)=((a:Int),(b:Int)):=by
 unfold II;rw[show (64*a+b) / 64=a by lia,show (64*a+b) % 64=b by lia]
theorem qu:∀ {qs:List (Nat×Nat)},(∀q∈qs,q.1<64/\q.2<64)->(Np qs).map II=mY (qs.map k9)
 |[],_=>rfl
 |q::qs,h=>by
  have ih:=qu (qs:=qs) fun x hx=>h x (bS _ hx);obtain⟨h1,h2⟩:=h q bU;show II (64*q.1+q.2)::II (64*q.2+q.1)::(Np qs).map II=k9 q::vx (k9 q)::mY (qs.map k9);rw[ih,vy h2,vy h1]
def b1(b:Bool):Nat:=cond b 1 0
def C0(h:Nat):List (Nat×Nat)->Nat
 |[]=>0
 |q::qs=>b1 (Nat.beq q.1 h)+(b1 (Nat.beq q.2 h)+C0 h qs)
theorem wK{h:Nat}:∀ {qs:List (Nat×Nat)},((mY (qs.map k9)).filter fun t=>decide (t.1=(h:Int))).length=C0 h qs
 |[]=>rfl
 |q::qs=>by
  have ih:=wK (h:=h) (qs:=qs);have e:∀a:Nat,(if decide ((a:Int)=(h:Int))=true then 1 else 0)=b1 (Nat.beq a h):=fun a=>by
   by_cases c:a=h
   .subst c;rw[ao (by simp),Nat.beq_refl];rfl
   .rw[am (by simp;lia),show Nat.beq a h=false from Bool.eq_false_iff.mpr fun z=>c (tY z)];rfl
  show ((k9 q::vx (k9 q)::mY (qs.map k9)).filter _).length=b1 (Nat.beq q.1 h)+(b1 (Nat.beq q.2 h)+C0 h qs);rw[<-ih,<-e q.1,<-e q.2,gR,gR];split <;> split <;> simp <;> lia
def wL(n:Nat)(qs:List (Nat×Nat)):Bool:=Nat.ble 2 n&&(Nat.ble n 32&&(No (Np qs)&&(qs.all (fun q=>Nat.blt q.1 n&&(Nat.blt q.2 n&&!Nat.beq q.1 q.2))&&((List.range n).all (fun h=>Nat.ble (C0 h qs) 8) &&
 (List.range n).all (fun v=>Nat.beq v 0||(List.range v).reverse.any (fun u=>yd (64*u+v) (Np qs)))))))
theorem m6(h:Nat.blt a b=true):a<b:=pH h
theorem sw(h:wL n qs=true):ik n (mY (qs.map k9))/\∀q∈qs,q.1<64/\q.2<64:=by
 unfold wL at h;simp only[fg,lX,d5,uz,List.any_eq_true,List.mem_reverse] at h;obtain⟨h1,h2,h3,h4,h5,h6⟩:=h;have h1:=pH h1;have h2:=pH h2;have Ps:∀q∈qs,q.1<64/\q.2<64:=fun q hq=>⟨by have:=m6 (h4 q hq).1;lia,by have:=m6 (h4 q hq).2.1;lia⟩
 have mem:∀t∈mY (qs.map k9),∃q∈qs,t=k9 q\/t=vx (k9 q):=fun t ht=>by
  rcases CY.mp ht with z|z
  .obtain⟨q,hq,e⟩:=ck.mp z;exact⟨q,hq,.inl e.symm⟩
  .obtain⟨q,hq,e⟩:=ck.mp z;exact⟨q,hq,.inr (by rw[e])⟩
 have rg:∀t∈mY (qs.map k9),((0<=t.1/\t.1<n)/\(0<=t.2/\t.2<n))/\t.1≠t.2:=fun t ht=>by
  obtain⟨q,hq,e⟩:=mem t ht;have a:=m6 (h4 q hq).1;have b:=m6 (h4 q hq).2.1;have c:q.1≠q.2:=fun z=>by have:=(h4 q hq).2.2;rw[z,Nat.beq_refl] at this;exact absurd this (by decide)
  rcases e with rfl|rfl
  .exact⟨⟨⟨by show (0:Int)<=(q.1:Int);lia,by show (q.1:Int)<n;lia⟩,by show (0:Int)<=(q.2:Int);lia,by show (q.2:Int)<n;lia⟩,by show ((q.1:Nat):Int)≠(q.2:Nat);lia⟩
  .exact⟨⟨⟨by show (0:Int)<=(q.2:Int);lia,by show (q.2:Int)<n;lia⟩,by show (0:Int)<=(q.1:Int);lia,by show (q.1:Int)<n;lia⟩,by show ((q.2:Nat):Int)≠(q.1:Nat);lia⟩
 have Nn:∀h:Int,((mY (qs.map k9)).filter fun t=>decide (t.1=h)).length=((mY (qs.map k9)).filter fun t=>decide (t.2=h)).length:=fun h=>by
  rw[<-(CZ (ps:=qs.map k9)).filter (fun t=>decide (t.1=h)) |>.length_eq,List.filter_map,aT];rfl
 have nd:(mY (qs.map k9)).Nodup:=by
  rw[<-qu Ps];refine List.Pairwise.map _ (fun a b T8 e=>T8 ?_) (List.nodup_iff_pairwise_ne.mp (Ak h3));have e1:a / 64=b / 64:=pW (congrArg Prod.fst e);have e2:a % 64=b % 64:=pW (congrArg Prod.snd e);lia
 refine⟨⟨h1,h2,nd,fun t ht=>(rg t ht).1,fun t ht=>(rg t ht).2,Nn,fun h=>?_,fun a b ha hb=>?_⟩,Ps⟩
 .by_cases c:0<=h/\h<n
  .have:=pH (h5 h.toNat (by lia));rw[<-wK,Int.toNat_of_nonneg c.1] at this;exact this
  .have e:(mY (qs.map k9)).filter (fun t=>decide (t.1=h))=[]:=List.filter_eq_nil_iff.mpr fun t ht e=>c ((show t.1=h from uk e) ▸ (rg t ht).1.1);rw[e];exact cu _
 .have Cu:∀v,v<n->(∃k,eZ (mY (qs.map k9)) k 0 v)/\∃k,eZ (mY (qs.map k9)) k v 0:=by
   intro v;induction v using Nat.strongRecOn with
   |ind v ih=>
    intro hv;rcases h6 v hv with e|⟨u,hu,t1⟩
    .have e:=tY e;subst e;exact⟨⟨0,rfl⟩,0,rfl⟩
    .obtain⟨⟨k,w⟩,l,w'⟩:=ih u hu (by lia);have t:T (mY (qs.map k9)) u v:=by
      have:=ck.mpr ⟨_,mZ.mp t1,vy (a:=u) (b:=v) (by lia)⟩;rw[qu Ps] at this;exact this
     have t':T (mY (qs.map k9)) v u:=CW t;exact⟨⟨k+1,u,w,t⟩,l+1,eZ.cons t' w'⟩
  obtain⟨_,k,w⟩:=Cu a ha;obtain⟨⟨l,w'⟩,_⟩:=Cu b hb;exact⟨_,w.trans w'⟩
end iF
namespace L2
open PySem PySem.Spec PyProof.Rows
def vz(scope:Scope)(aI:List (Str×Addr))(qual:Str)(f c L:Addr):Env:=
 { scope:=scope,locals:=L,globals:=mainGlobals,cells:=aI,qual:=qual++".<locals>.",func:=some f,code:=.ref c,frame:=some L,builtins:=builtinsNs }
def sA(X:Cx)(NB:List Str)(scope:Scope)(aI:List (Str×Addr))(qual:Str)(f c:Addr)(s:Shared)(H:Hp):Cx:=
 { X with A:=X.A.in1.in1.deeper (vz scope aI qual f c s.heap.objs.size),N:=NB,s₀:=s,H₀:=H,env:=vz scope aI qual f c s.heap.objs.size,outer:=X.stack,stack:=vz scope aI qual f c s.heap.objs.size::X.stack,ex:=[],fn:=fun _=>false,pn:=[],xe:=fun _ _=>False }
structure Al(X:Cx)(NB:List Str)(src:List (Option Nat))(scope:Scope)(qual:Str)(params:Arguments)(body:Expr)(y:Str):Prop where
 bs:cI NB src scope X
 bind:∀aI pm c iS v,bindArgs (PySem.W.kla_fn "<lambda>" qual params body scope aI pm (.ref c) iS) ⟨[v],[]⟩=pure [(y,v)]
 y0:NB[0]?=some y
 s0:src[0]?=some none
 ly:scope.names.lookup y=some .local
 i9:∀z∈scope.names,z.2≠.cell
 co:scope.isCoroutine=false
 gen:scope.isGenerator=false
section
variable {X:Cx} {ae:List (Addr×Obj)} {σ:St} {H:Hp} {s:Shared} {NB:List Str} {src:List (Option Nat)} {scope:Scope} {qual:Str} {params:Arguments} {body:Expr} {y:Str} {aI:List (Str×Addr)} {f c:Addr} {h₁:Heap} {t₁:Nat} {v:V} {u:Value}
theorem C1(I:av X ae σ H s)(S:Al X NB src scope qual params body y)(hd:X.A.handled=none)(c1:∀x c,aI.lookup x=some c->X.env.cells.lookup x=some c)(c2:∀x,(x,NameKind.free)∈scope.names->∃c,aI.lookup x=some c)(hn:h₁.Ns s.heap.objs.size (fun x=>[(y,u)].lookup x))(hk:∀b o,s.heap.get? b=some o->h₁.get? b=some o)(rv:bq v u):
  av (sA X NB scope aI qual f c s H) [] ((tu src σ).set 0 (some v)) H { s with heap:=h₁,toks:=t₁ }:=by
 have i8:∀x c,aI.lookup x=some c->∃v,s.heap.IsCell c v:=fun x c e=>I.cell x c (c1 x c e);have B:=S.bs;refine⟨⟨I.ok.mod,B.kind,rfl,rfl,aG _,fun x y c e1 e2=>I.ok.inj x y c (c1 x c e1) (c1 y c e2),fun x hx=>?_,(fun x c z e=>by cases z),fun _=>hd,uq I.ok.frames,.inr ⟨rfl,rfl⟩,(fun b hb=>by cases hb),I.bs,bp I.ok.tf I.sz,(fun b o e hb=>by cases hb),(fun b hb=>by cases hb),I.stack,I.fm⟩,
  rfl,I.bare,Un.kept hk,⟨_,hn,fun i x w e1 e2 e3=>?_⟩,fun x c e=>?_,I.aW.fresh (aG _),fun x c e=>I.dR x c (c1 x c e),fun p hp=>absurd (show p∈([]:List (Addr×Obj)) from hp) (by simp),I.aW.kept hk,?_⟩
 .have hx:scope.names.lookup x=some .cell\/scope.names.lookup x=some .free:=hx;rcases hx with z|z
  .exact absurd rfl (S.i9 _ (fc z))
  .exact c2 x (fc z)
 .have e1:NB[i]?=some x:=e1;cases i with
  |zero=>
   rw[S.y0] at e1;cases e1;have hl:0<(tu src σ).length:=by
    unfold tu;rw[aT];exact(dD.mp S.s0).1
   rw[kM hl] at e2;cases e2;exact⟨u,rv,.inl ⟨S.ly,by simp⟩⟩
  |succ i=>
   rw[lS (by lia)] at e2;obtain⟨j,hj,hv⟩:=wf e2;obtain⟨hN,hF⟩:=B.src (i+1) x j e1 hj;obtain⟨m0,Vm,M9⟩:=I.loc;have u4:=fc hF;have kx:=B.free _ u4 rfl;have Jm:Io X.env.scope x:=by
    rcases kx with z|z
    .exact .inr (.inl z)
    .exact .inr (.inr z)
   obtain⟨u',r,l⟩:=M9 j x w hN hv Jm;obtain⟨c',hc⟩:=c2 x u4;refine⟨u',r,.inr ⟨.inr hF,c',hc,?_⟩⟩;rcases l with ⟨BP,_⟩|⟨_,Kp,e,z⟩
   .have zG:X.env.scope.names.lookup x=some .local:=BP;rcases kx with z|z <;> (rw[z] at zG;cases zG)
   .rw[c1 x c' hc] at e;cases e;obtain⟨o,ho,y6⟩:=z;exact⟨o,hk _ _ ho,y6⟩
 .obtain⟨v,o,ho,y6⟩:=i8 x c e;exact⟨v,o,hk _ _ ho,y6⟩
 .show ((tu src σ).set 0 (some v)).length=NB.length;unfold tu;rw[l_,aT];exact B.len
theorem Am(hr:bQ k X.A)(S:Al X NB src scope qual params body y)(I:av X ae σ H s)(hf:H f=some (eN f qual params body scope X.env.cells c))(hc:H c=some (dz c qual))(rv:bq v u)(hb:∀aI s H,PE (sA X NB scope aI qual f c s H) body te)(h:te ((tu src σ).set 0 (some v)) H Q):
  wpAny (model X.prog X.w) X.A.in1.in1 (call (.ref f) [u]) (EP X ae σ Q) (fun _ _=>False) s:=by
 obtain⟨aI,pm,iS,c1,c2,Ct⟩:=(I.aW f _ hf).1;have J8:s.heap.CodeRec (.ref c) qual:=(I.aW c _ hc).1;have r9:X.A.in1.in1.depth<recursionLimit:=by
  have:=hr.dp;show X.A.depth<_;lia
 refine gX (t6 r9 Ct rfl S.co S.gen rfl J8 ?_);rw[S.bind];refine wpAny_pure (ui S.i9 (fun x hx=>by rw[cy.mp hx];exact S.ly) (fun h₁ CG EJ=>⟨I.nolimit.fresh _ EJ,?_⟩) S.bs.kind);have CH:∀b o,s.heap.get? b=some o->h₁.get? b=some o:=fun b o e=>EJ.extBut b o (bf (bg e)) (bJ _ e);refine tZ ?_;have J:=C1 (f:=f) (c:=c) (t₁:=s.toks+1) I S hr.hd c1 c2 CG CH rv;refine fj (hb aI s H [] _ _ H Q J h) (fun w s' ⟨v',H',J',r',q'⟩=>?_) fun _ _ z=>z.elim;exact⟨v',H',I.vY (ch:=[]) J'.os J'.base J'.aW J'.bare (fun b hb=>by cases hb),r',q'⟩
end
def Kq(kz:Nat->Int)(a b:Nat):Prop:=kz a=kz a/\a=a/\b=b
structure BV(ns:List Nat)(kz:Nat->Int)(ps:List Keyed):Prop where
 len:ps.length=ns.length
 at_:∀ (i n:Nat),ns[i]?=some n->∃t u,ps[i]?=some (Value.int (kz n) t,Value.int (n:Int) u)
theorem BV.mem(P:BV ns kz ps)(h:p∈ps):∃n∈ns,∃t u,p=(Value.int (kz n) t,Value.int (n:Int) u):=by
 obtain⟨i,hi,e⟩:=ub h;have hn:i<ns.length:=by rw[<-P.len];exact hi
 obtain⟨t,u,e2⟩:=P.at_ i ns[i] (cr hn);rw[cr hi] at e2;exact⟨_,jl hn,t,u,by rw[<-e];exact bh e2⟩
theorem BV.map(P:BV ns kz ps):ps.map (fun p=>(numOf p.2).toNat)=ns:=by
 refine um fun i=>?_;rw[bw];cases e:ns[i]? with
 |none=>
  have:ns.length<=i:=List.getElem?_eq_none_iff.mp e;rw[lR (by rw[P.len];exact this)];rfl
 |some n=>
  obtain⟨t,u,e2⟩:=P.at_ i n e;rw[e2];rfl
theorem BV.cmp(P:BV ns kz a.toList):q_ prog w A s oneType' a:=fun x y hx hy Q E h=>by
 obtain⟨n,_,t,u,rfl⟩:=P.mem hx;obtain⟨m,_,t',u',rfl⟩:=P.mem hy;rw[keyLt'_oneType];exact oneLt_int (h _)
theorem BV.out{ns:List Nat}{kz:Nat->Int}{a b:Array Keyed}(P:BV ns kz a.toList)(hp:b.Perm a):
  ∃out:List Nat,out.Perm ns/\out.Pairwise (Kq kz)/\aK (out.map fun (x:Nat)=>V.int (x:Int)) (b.map (·.2)).toList:=by
 have hl:b.toList.Perm a.toList:=iH.mp hp;have mem:∀p∈b.toList,∃n∈ns,∃t u,p=(Value.int (kz n) t,Value.int (n:Int) u):=fun p h=>P.mem (hl.mem_iff.mp h);refine⟨b.toList.map fun p=>(numOf p.2).toNat,by rw[<-P.map];exact hl.map _,?_,?_⟩
 .exact yQ.mpr fun _ _ _ _ _=>⟨rfl,rfl,rfl⟩
 .rw[l7,gC];have go:∀l:List Keyed,(∀p∈l,∃n∈ns,∃t u,p=(Value.int (kz n) t,Value.int (n:Int) u))->aK (l.map ((fun (x:Nat)=>V.int (x:Int)) ∘ fun p=>(numOf p.2).toNat)) (l.map (·.2)):=fun l=>by
   induction l with
   |nil=>intro _;exact .nil
   |cons x l ih=>
    intro h;obtain⟨n,_,t,u,rfl⟩:=h x bU;exact .cons ⟨u,rfl⟩ (ih fun p hp=>h p (bS _ hp))
  exact go _ mem
section
variable {X:Cx} {ae:List (Addr×Obj)} {σ:St} {H:Hp} {s:Shared}
theorem av.Kr(I:av X ae σ H s)(f:eK X ae H a)(new:bX X.prog X.w (upd H a o) s.heap a o):av X ae σ (upd H a o) s:=by
 have ne:∀ {b u},H b=some u->b≠a:=fun {b u} e z=>by rw[z,f.1] at e;cases e
 obtain⟨h,g,d,t,os⟩:=s;refine I.step (g':=g) (d':=d) (t':=t) (h':=h) (ch:=[a]) (fun b hb=>?_) (fun b o _ _ _ e _=>e) (fun b o _ _ _ e _=>⟨o.slots,e⟩) (fun b o hc _ n=>by rw[ah (fun z=>hc (by simp[z]))];exact n)
  (fun b o _ e=>⟨o,e⟩) (fun b xs e=>by rw[ah (ne e)];exact e) (fun b o u e=>by rw[ah (ne e)];exact e) (fun b ps e=>⟨#[],by rw[ah (ne e),e];simp⟩) (fun m hm=>hm) (fun b u e=>?_) I.bare
 .have e:b=a:=by simpa using hb
  subst e;exact⟨f.2.2.2.1,f.2.1,f.2.2.2.2.1,f.2.2.2.2.2⟩
 .by_cases hb:b=a
  .subst hb;rw[af] at e;cases e;exact new
  .rw[ah hb] at e;exact(I.aW b u e).iE (fun _ _ _ q=>q) (fun d q=>by rw[ah (ne q)];exact q) fun d xs q=>by rw[ah (ne q)];exact q
variable {NB:List Str} {src:List (Option Nat)} {scope:Scope} {qual:Str} {params:Arguments} {body:Expr} {y:Str} {f c:Addr} {te:TE} {k:Nat} {ns:List Nat} {kz:Nat->Int} {its:List Value} {a kS:Addr} {e1:Nat}
theorem sB{st:SortSt}{jb:Array Value}{e:Nat}{E:Value->Shared->Prop}{A:Around}(I:av X ae σ H s)(fa:eK X ae H a)(fk:eK X ae H kS)(Gc:kS≠a)(oa:s.heap.get? a=some (seqObj "list" #[] e1))(ok:s.heap.get? kS=some (seqObj "list" jb e))(hk:jb.size<64)(EI:(arrOf st).size<64)(Ws:failedOf st=none){out:List Nat}(hv:aK (out.map fun (x:Nat)=>V.int (x:Int)) ((arrOf st).map (·.2)).toList){P:PySem.Fin->Shared->Prop}(h:∀s',av X ae σ (upd H a (.lst (out.map fun (x:Nat)=>V.int (x:Int)))) s'->P (.done (.ret .none)) s'):
  wpAny (model X.prog X.w) A (ksk_tail a false e1 (.ref kS) st) P E s:=by
 have s1:=oC s.heap kS (Obj.mapSeq fun _=>(#[]:Array Value));have Pu:(s.heap.update kS (Obj.mapSeq fun _=>(#[]:Array Value))).get? a=some (seqObj "list" #[] e1):=(s1.2 a Gc.symm).trans oa;have s2:=oC (s.heap.update kS (Obj.mapSeq fun _=>(#[]:Array Value))) a (Obj.mapSeq fun _=>(arrOf st).map (·.2));obtain⟨c2,IJ⟩:∃c2,((s.heap.update kS (Obj.mapSeq fun _=>(#[]:Array Value))).update a (Obj.mapSeq fun _=>(arrOf st).map (·.2))).get? a=some (seqObj "list" ((arrOf st).map (·.2)) c2):=⟨_,j3 Pu fun _=>(arrOf st).map (·.2)⟩
 have J1:=I.turned (t':=s.toks) (h':=s.heap.update kS (Obj.mapSeq fun _=>(#[]:Array Value))) (it:=kS) (fun b o hb q=>(s1.2 b hb).trans q) fk.1 fk.2.1 fk.2.2.2.1 fk.2.2.2.2.1 fk.2.2.2.2.2;have J2:=J1.turned (t':=s.toks) (h':=(s.heap.update kS (Obj.mapSeq fun _=>(#[]:Array Value))).update a (Obj.mapSeq fun _=>(arrOf st).map (·.2))) (it:=a) (fun b o hb q=>(s2.2 b hb).trans q) fa.1 fa.2.1 fa.2.2.2.1 fa.2.2.2.2.1 fa.2.2.2.2.2;have J3:=J2.Kr fa (o:=.lst (out.map fun (x:Nat)=>V.int (x:Int))) ⟨?_,((arrOf st).map (·.2)).toList,c2,hv,by rw[IJ]⟩
 .unfold ksk_tail;try dsimp only
  refine aq (iX ok rfl ?_ (by rw[d6];lia) (cu _));refine aq (wpAny_letGo ?_);refine aq (mn Pu rfl ?_);simp only[jk,eh];refine aq (iX Pu rfl ?_ (cu _) (by rw[gT,d6];lia));rw[Ws];simp only[ul,jk,eh];exact wpAny_pure (h _ J3)
 .have:=hv.length;rw[this,iI,gT,d6];lia
theorem C2{jb:Array Value}{e:Nat}{E:Value->Shared->Prop}{A:Around}(I:av X ae σ H s)(fa:eK X ae H a)(fk:eK X ae H kS)(Gc:kS≠a)(oa:s.heap.get? a=some (seqObj "list" #[] e1))(ok:s.heap.get? kS=some (seqObj "list" jb e))(hk:IntsAre jb.toList (ns.map kz))(hP:BV ns kz (jb.zip its.toArray).toList)(hl:its.length=ns.length)(EI:ns.length<64)(Nq:ns.Pairwise (·<·))(Nr:∀n∈ns,n<64){P:PySem.Fin->Shared->Prop}(h:∀s' (out:List Nat),out.Perm ns->out.Pairwise (Kq kz)->av X ae σ (upd H a (.lst (out.map fun (x:Nat)=>V.int (x:Int)))) s'->P (.done (.ret .none)) s'):
  wpAny (model X.prog X.w) A (ksk_end a false its.toArray e1 (.ref kS) jb) P E s:=by
 have fq:jb.size=ns.length:=by
  have h1:=hk.length;rw[iI,aT] at h1;exact h1
 have Yv:(jb.zip its.toArray).size=ns.length:=by rw[Array.size_zip,fq,bT,hl,Nat.min_self]
 unfold ksk_end;simp only[jk,eh];by_cases h2:its.toArray.size<2
 .rw[ao h2,ao h2];refine aq (wpAny_pure ?_);rw[StateT.run_pure];refine aq (wpAny_pure ?_);try dsimp only
  rw[bT,hl] at h2;obtain⟨out,o1,o2,o3⟩:=hP.out (b:=jb.zip its.toArray) (pU _);exact sB (st:=SortSt.mk' general' (jb.zip its.toArray) #[] 7 none) I fa fk Gc oa ok (by lia) (by show (jb.zip its.toArray).size<64;lia) rfl o3 fun s' J=>h s' out o1 o2 J
 .rw[am h2,am h2];rw[bT,hl] at h2;rw[ksk_kind hk (by lia)];refine aq (wpAny_pure ?_);refine aq (fj (pc (st:=SortSt.mk' oneType' (jb.zip its.toArray) #[] 7 none) (a₀:=jb.zip its.toArray) (κ:=oneType')
   (Q:=fun _ aL=>(arrOf aL).Perm (jb.zip its.toArray)/\failedOf aL=none)
   hP.cmp (pU _) rfl rfl rfl fun aL a1 a2=>⟨a1,a2⟩) ?_ fun _ _ e=>e)
  rintro⟨⟨⟩,aL⟩ s' ⟨rfl,hp,hf⟩;try dsimp only
  obtain⟨out,o1,o2,o3⟩:=hP.out hp;exact sB I fa fk Gc oa ok (by lia) (by rw[hp.size_eq];lia) hf o3 fun s' J=>h s' out o1 o2 J
theorem An(hr:bQ k X.A)(S:Al X NB src scope qual params body y)(hb:∀aI s H,PE (sA X NB scope aI qual f c s H) body te)(I:av X ae σ H s)(hf:H f=some (eN f qual params body scope X.env.cells c))(hc:H c=some (dz c qual))(hv:aK (ns.map fun (x:Nat)=>V.int (x:Int)) its)(EI:ns.length<64)(Nq:ns.Pairwise (·<·))(Nr:∀n∈ns,n<64)(fa:eK X ae H a)(fk:eK X ae H kS)(Gc:kS≠a)(oa:s.heap.get? a=some (seqObj "list" #[] e1))(ok:s.heap.get? kS=some (seqObj "list" #[] 0))(Ks:∀n∈ns,∀H',aF H H'->te ((tu src σ).set 0 (some (.int (n:Nat)))) H' fun v sC=>v=.int (kz n)/\aF H' sC)(h:∀H' s' (out:List Nat),aF H H'->H' a=none->out.Perm ns->out.Pairwise (Kq kz)->av X ae σ (upd H' a (.lst (out.map fun (x:Nat)=>V.int (x:Int)))) s'->P (.done (.ret .none)) s'):
  wpAny (model X.prog X.w) X.A.in1.in1 (ksk_rest a (.ref f) false its.toArray e1 (.ref kS)) P E s:=by
 have hl:its.length=ns.length:=by have:=hv.length;rw[aT] at this;exact this.symm
 unfold ksk_rest;refine aq (gb ?_);first
  |rw[List.forIn_toArray]
  |(rw[<-ug];simp only[List.toList_toArray])
  |rw[<-ug]
 have Ku:∀ {p:Addr×Obj} {b:Addr} {o:Obj} {H':Hp} {s':Shared},eK X ae H b->H' b=none->s'.heap.get? b=some o->(∀v,o.data≠.cell v)->p=(b,o)->s'.heap.get? p.1=some p.2/\H' p.1=none/\p.1≠X.env.locals/\p.1∉X.fs/\∀v,p.2.data≠.cell v:=fun {p b o H' s'} F n e d z=>by
  subst z;exact⟨e,n,F.2.1,F.2.2.1,d⟩
 have two:∀ {H':Hp} {s':Shared} {oK:Obj} {Kv:List (Addr×Obj)},av X Kv σ H' s'->(∀p∈ae,p∈Kv)->H' a=none->H' kS=none->s'.heap.get? a=some (seqObj "list" #[] e1)->s'.heap.get? kS=some oK->(∀v,oK.data≠.cell v)->av X (ae++[(kS,oK),(a,seqObj "list" #[] e1)]) σ H' s':=fun {H' s' oK Kv} J sub na nk ea ek d=>J.js fun p hp=>by
  rcases cE.mp hp with z|z
  .exact J.pin p (cU _ (sub p z))
  .rcases aR.mp z with z|z
   .exact Ku fk nk ek d z
   .exact Ku fa na ea (fun v z=>by cases z) (cy.mp z)
 refine aq (ksk_fold (fun i s'=>∃H' kA e,aF H H'/\av X (ae++[(kS,seqObj "list" kA e),(a,seqObj "list" #[] e1)]) σ H' s'/\IntsAre kA.toList ((ns.take i).map kz)) its 0 s
  ⟨H,#[],0,aF.refl _,two I (fun p z=>z) fa.1 fk.1 oa ok (fun v z=>by cases z),by simpa using IntsAre.nil⟩ ?step ?done)
 case step=>
  rintro j x s' hx ⟨H',kA,e,sm,J,hk⟩;simp only[mi] at hk |-;have hj:j<ns.length:=by rw[<-hl];exact(dD.mp hx).1
  have T_:ns[j]?=some ns[j]:=cr hj;obtain⟨u,hu,ru⟩:=hv.get (i:=j) (x:=V.int ((ns[j]:Nat):Int)) (by rw[bw,T_];rfl);rw[hx] at hu;cases hu;refine aq (wpAny_attempt (fj (Am hr S J (sm _ _ hf) (sm _ _ hc) ru hb (Ks ns[j] (jl hj) H' sm)) (fun w n_ he=>?_) fun _ _ hF=>hF.elim));obtain⟨v,sC,J2,⟨uY,Wt⟩⟩:=he;obtain⟨rfl,BW⟩:=Wt;obtain⟨t2,rfl⟩:∃t,w=Value.int (kz ns[j]) t:=uY;try dsimp only
  have nk:=J2.pin (kS,seqObj "list" kA e) (cU _ (cU _ (.head _)));have na:=J2.pin (a,seqObj "list" #[] e1) (cU _ (cU _ (.tail _ (.head _))));have s1:=oC n_.heap kS (Obj.mapSeq (·.push (.int (kz ns[j]) t2)));obtain⟨c2,IJ⟩:∃c2,(n_.heap.update kS (Obj.mapSeq (·.push (.int (kz ns[j]) t2)))).get? kS=some (seqObj "list" (kA.push (.int (kz ns[j]) t2)) c2):=⟨_,j3 nk.1 (·.push (.int (kz ns[j]) t2))⟩
  have hz:kA.size<=64:=by
   have h1:=hk.length;rw[iI,aT,jT] at h1;lia
  have J3:=(J2.js (pins':=ae) fun p hp=>J2.pin p (cU _ (fK _ hp))).turned (t':=n_.toks) (h':=n_.heap.update kS (Obj.mapSeq (·.push (.int (kz ns[j]) t2)))) (it:=kS) (fun b o hb q=>(s1.2 b hb).trans q) nk.2.1 fk.2.1 fk.2.2.2.1 fk.2.2.2.2.1 fk.2.2.2.2.2;refine aq (iX nk.1 rfl ?_ (by rw[d6];lia) (bp (mj (Array.size_push ..)) (by rw[d6];lia)));refine wpAny_pure ⟨rfl,sC,_,c2,sm.trans BW,two J3 (fun p z=>z) na.2.1 nk.2.1 ((s1.2 a Gc.symm).trans na.1) IJ (fun v z=>by cases z),?_⟩;have ek:(ns.take (j+1)).map kz=(ns.take j).map kz++[kz ns[j]]:=by rw[iJ,T_,Option.toList_some,c_];rfl
  have ea:(kA.push (Value.int (kz ns[j]) t2)).toList=kA.toList++[Value.int (kz ns[j]) t2]:=by simp
  rw[ea,ek];exact ksk_snoc hk
 case done=>
  rintro s' ⟨H',kA,e,sm,J,hk⟩;have BP:IntsAre kA.toList (ns.map kz):=by
   have e3:ns.take (0+its.length)=ns:=pF (by lia);rw[e3] at hk;exact hk
  have nk:=J.pin (kS,seqObj "list" kA e) (cU _ (cU _ (.head _)));have na:=J.pin (a,seqObj "list" #[] e1) (cU _ (cU _ (.tail _ (.head _))));try dsimp only
  refine aq (listItems_at nk.1 rfl ?_);have hP:BV ns kz (kA.zip its.toArray).toList:=by
   rw[ksk_zip];have l1:=BP.length;rw[aT] at l1;refine⟨by rw[List.length_zip,l1,hl,Nat.min_self],fun i n hn=>?_⟩;have hi:i<ns.length:=(dD.mp hn).1;obtain⟨u,hu,t',rfl⟩:=hv.get (i:=i) (x:=V.int ((n:Nat):Int)) (by rw[bw,hn];rfl);have Ua:i<kA.toList.length:=by rw[l1];exact hi
   obtain⟨m,t,em,en⟩:=BP.at i kA.toList[i] (cr Ua);rw[bw,hn] at en;cases en;refine⟨t,t',?_⟩;rw[yR];exact⟨by rw[cr Ua,em],hu⟩
  exact C2 (J.js (pins':=ae) fun p hp=>J.pin p (cU _ (fK _ hp))) ⟨na.2.1,fa.2⟩ ⟨nk.2.1,fk.2⟩ Gc na.1 nk.1 BP hP hl EI Nq Nr fun s2 out o1 o2 J2=>h H' s2 out sm na.2.1 o1 o2 J2
end
def Gd(X:Cx)(NB:List Str)(src:List (Option Nat))(qual:Str)(params:Arguments)(body:Expr)(scope:Scope)(te:TE):St->List V->List V->Hp->VK->Prop:=fun σ vs zs H Q=>
 ∃ (l f c:Addr) (ns:List Nat) (kz:Nat->Int),vs=[.ref l]/\zs=[.ref f]/\bD X.K H l (ns.map fun (x:Nat)=>V.int (x:Int))/\ns.length<64/\ns.Pairwise (·<·)/\(∀n∈ns,n<64)/\H f=some (eN f qual params body scope X.env.cells c)/\H c=some (dz c qual)/\
  (∀n∈ns,∀H',aF H H'->te ((tu src σ).set 0 (some (.int (n:Nat)))) H' fun v sC=>v=.int (kz n)/\aF H' sC)/\
  ∀ (r:Addr) (H':Hp) (out:List Nat),aF H H'->H' r=none->out.Perm ns->out.Pairwise (Kq kz)->Q (.ref r) (upd H' r (.lst (out.map fun (x:Nat)=>V.int (x:Int))))
theorem vA(hr:bQ k X.A)(S:Al X NB src scope qual params body y)(hb:∀f c aI s H,PE (sA X NB scope aI qual f c s H) body te):
  vk X "sorted" ["key"] (Gd X NB src qual params body scope te):=by
 intro ae s σ H vs zs us ws Q I r rz h;obtain⟨l,f,c,ns,kz,rfl,rfl,hl,EI,Nq,Nr,hf,hc,Ks,q⟩:=h;obtain⟨u1,rfl,r1⟩:=r.one;obtain rfl:u1=Value.ref l:=r1;obtain⟨w1,rfl,O8⟩:=rz.one;obtain rfl:w1=Value.ref f:=O8;obtain⟨its,rv,pl,hz⟩:=I.list hl;have Yw:its.length=ns.length:=by have:=rv.length;rw[aT] at this;exact this.symm
 show wpAny (model X.prog X.w) X.A (call (.builtin "sorted") [.ref l] [(Str.ofString "key",.ref f)]) _ _ s;refine call_function_entry_kw kind_sorted plain_sorted entry_sorted (ksk_s1 _ _) ?_;unfold Builtin.«sorted»;refine aq (m:=checkCount "sorted" 1 1 _) (wpAny_pure ?_);refine aq (collect_list pl.isList ?_ (by rw[d6];lia));refine aq (p6 ?_ (by rw[d6];lia));have fq:((s.heap.push (seqObj "list" #[] 0)).update s.heap.objs.size (Obj.mapSeq (·++its.toArray))).objs.size=s.heap.objs.size+1:=by
  rw[gA,fv]
 have vX:(((s.heap.push (seqObj "list" #[] 0)).update s.heap.objs.size (Obj.mapSeq (·++its.toArray))).push (seqObj "list" its.toArray 0)).get? (s.heap.objs.size+1)=some (seqObj "list" its.toArray 0):=by
  rw[<-fq];exact ci _ rfl
 have keep:∀b o,s.heap.get? b=some o->(((s.heap.push (seqObj "list" #[] 0)).update s.heap.objs.size (Obj.mapSeq (·++its.toArray))).push (seqObj "list" its.toArray 0)).get? b=some o:=fun b o q=>by
  have dB:b<s.heap.objs.size:=bg q;rw[ff _ _ _ (by rw[fq];exact bf (cZ dB)),oB _ _ _ _ (bf dB),ff _ _ _ (bf dB)];exact q
 show wpAny _ _ _ _ _ { s with heap:=((s.heap.push (seqObj "list" #[] 0)).update s.heap.objs.size (Obj.mapSeq (·++its.toArray))).push (seqObj "list" its.toArray 0) };rw[fq];have BR:(((s.heap.push (seqObj "list" #[] 0)).update s.heap.objs.size (Obj.mapSeq (·++its.toArray))).push (seqObj "list" its.toArray 0)).objs.size=s.heap.objs.size+2:=by rw[fv,fq]
 generalize (((s.heap.push (seqObj "list" #[] 0)).update s.heap.objs.size (Obj.mapSeq (·++its.toArray))).push (seqObj "list" its.toArray 0))=h1 at *;refine aq (gB (wpAny_call_entry_kw slot_list_sort ⟨_,vX,rfl⟩ entry_list_sort ?body (ksk_l1 _ _)));case body=>
  have Wu:=ksk_t1 f (s.heap.objs.size+1);show wpAny (model X.prog X.w) X.A.in1.in1 (Builtin.«list.sort» ⟨[.ref (s.heap.objs.size+1)],[(Str.ofString "key",.ref f)]⟩) _ _ _;rw[Wu];have s1:=oC h1 (s.heap.objs.size+1) (Obj.mapSeq fun _=>(#[]:Array Value));obtain⟨e1,Ga⟩:∃e1,(h1.update (s.heap.objs.size+1) (Obj.mapSeq fun _=>(#[]:Array Value))).get? (s.heap.objs.size+1)=some (seqObj "list" #[] e1):=⟨_,j3 vX fun _=>#[]⟩
  have Yx:((h1.update (s.heap.objs.size+1) (Obj.mapSeq fun _=>(#[]:Array Value))).push (seqObj "tuple" its.toArray 0)).objs.size=s.heap.objs.size+3:=by rw[fv,gA,BR]
  unfold ksk_tree;refine aq (listItems_at vX rfl ?_);refine aq (iX vX rfl ?_ (by rw[bT,d6];lia) (cu _));refine aq (mn Ga rfl ?_);refine aq (wpAny_newTuple ?_ (by show its.length<=_;rw[d6];lia));refine aq (p6 ?_ (cu _));refine gB ?_;have Kw:∀b o,s.heap.get? b=some o->(((h1.update (s.heap.objs.size+1) (Obj.mapSeq fun _=>(#[]:Array Value))).push (seqObj "tuple" its.toArray 0)).push (seqObj "list" #[] 0)).get? b=some o:=fun b o e=>
   bJ _ (bJ _ ((s1.2 b (bf (cZ (bg e)))).trans (keep b o e)))
  have I2:av X ae σ H { s with heap:=((h1.update (s.heap.objs.size+1) (Obj.mapSeq fun _=>(#[]:Array Value))).push (seqObj "tuple" its.toArray 0)).push (seqObj "list" #[] 0) }:=I.kept (t':=s.toks) Kw;refine An hr S (hb f c) I2 hf hc rv EI Nq Nr (I.rA (by lia) (I.aW.fresh (by lia))) (I.rA (b:=((h1.update (s.heap.objs.size+1) (Obj.mapSeq fun _=>(#[]:Array Value))).push (seqObj "tuple" its.toArray 0)).objs.size) (by lia) (I.aW.fresh (by lia))) (by lia) (bJ _ (bJ _ Ga)) (ci _ rfl) Ks fun H' s' out sm na o1 o2 J=>⟨_,rfl,?_⟩
  exact wpAny_pure ⟨_,rfl,.ref (s.heap.objs.size+1),_,J,rfl,q _ H' out sm na o1 o2⟩
def ba(cells:List (Str×Addr))(a:Addr):Prop:=∃x,cells.lookup x=some a
abbrev jH(h0:Heap)(b:Addr):HO:=.ext fun h=>h.get? b=h0.get? b
open Classical in
noncomputable def eD(S:Addr->Prop)(h0:Heap)(H:Hp):Hp:=fun b=>if S b then some (jH h0 b) else H b
open Classical in
noncomputable def qv(S:Addr->Prop)(H:Hp):Hp:=fun b=>if S b then none else H b
section
variable {S:Addr->Prop} {h0 h h':Heap} {H H':Hp} {b:Addr} {P:Program} {w:World} {fs:List Addr}
theorem jI(e:S b):eD S h0 H b=some (jH h0 b):=ao e
theorem aN(e:¬ S b):eD S h0 H b=H b:=am e
theorem gq(e:S b):qv S H b=none:=ao e
theorem ce(e:¬ S b):qv S H b=H b:=am e
theorem dJ(e:H b=none):qv S H b=none:=by
 by_cases c:S b
 .exact gq c
 .rw[ce c];exact e
theorem wM(x:gZ P w H h)(l:∀a,S a->H a=some (jH h0 a)):gZ P w (qv S H) h:=fun a o e=>by
 by_cases c:S a
 .rw[gq c] at e;cases e
 .rw[ce c] at e;exact(x a o e).iE (fun _ _ _ q=>q) (fun d q=>by rw[ce fun z=>by rw[l d z] at q;cases q];exact q) fun d xs q=>by rw[ce fun z=>by rw[l d z] at q;cases q];exact q
theorem m7(x:gZ P w H h)(l:∀a,S a->H a=none/\h.get? a=h0.get? a/\∃o,h0.get? a=some o):gZ P w (eD S h0 H) h:=fun a o e=>by
 by_cases c:S a
 .rw[jI c] at e;cases e;obtain⟨_,e1,o,e2⟩:=l a c;exact⟨e1,⟨o,e1.trans e2⟩,fun h1 h2 z k=>(k o (z.trans e2)).trans e2.symm⟩
 .rw[aN c] at e;exact(x a o e).iE (fun _ _ _ q=>q) (fun d q=>by rw[aN fun z=>by rw[(l d z).1] at q;cases q];exact q) fun d xs q=>by rw[aN fun z=>by rw[(l d z).1] at q;cases q];exact q
theorem Ge(u:Un fs [] (eD S h0 H) H' h h')(l:∀a,S a->H a=none/\h.get? a=h0.get? a/\a∉fs)(l':∀a,S a->h'.get? a=h0.get? a):Un fs [] H (qv S H') h h' where
 keep:=fun b o e n hb hx=>by
  by_cases c:S b
  .rw[l' b c,<-(l b c).2.1];exact e
  .exact u.keep b o e (by rw[aN c];exact n) hb hx
 slot:=fun b o e n hb hx=>u.slot b o e (by rw[aN fun z=>(l b z).2.2 hb];exact n) hb hx
 free:=fun b o e n hx=>by
  by_cases c:S b
  .exact gq c
  .exact dJ (u.free b o e (by rw[aN c];exact n) hx)
 there:=u.there
 d7:=fun b xs e=>by
  have c:¬ S b:=fun z=>by rw[(l b z).1] at e;cases e
  rw[ce c];exact u.d7 b xs (by rw[aN c];exact e)
 eJ:=fun b o v e=>by
  have c:¬ S b:=fun z=>by rw[(l b z).1] at e;cases e
  rw[ce c];exact u.eJ b o v (by rw[aN c];exact e)
 eS:=fun b ps e=>by
  have c:¬ S b:=fun z=>by rw[(l b z).1] at e;cases e
  rw[ce c];exact u.eS b ps (by rw[aN c];exact e)
theorem C3(u:Un fs [] (qv S H) H' h h')(l:∀a,S a->H a=some (jH h0 a)):Un fs [] H (eD S h0 H') h h' where
 keep:=fun b o e n hb hx=>u.keep b o e (dJ n) hb hx
 slot:=fun b o e n hb hx=>u.slot b o e (dJ n) hb hx
 free:=fun b o e n hx=>by
  have c:¬ S b:=fun z=>by rw[l b z] at n;cases n
  rw[aN c];exact u.free b o e (dJ n) hx
 there:=u.there
 d7:=fun b xs e=>by
  have c:¬ S b:=fun z=>by rw[l b z] at e;cases e
  rw[aN c];exact u.d7 b xs (by rw[ce c];exact e)
 eJ:=fun b o v e=>by
  have c:¬ S b:=fun z=>by rw[l b z] at e;cases e
  rw[aN c];exact u.eJ b o v (by rw[ce c];exact e)
 eS:=fun b ps e=>by
  have c:¬ S b:=fun z=>by rw[l b z] at e;cases e
  rw[aN c];exact u.eS b ps (by rw[ce c];exact e)
end
structure ye(cells:List (Str×Addr))(h0:Heap)(H:Hp):Prop where
 inj:∀x y c,cells.lookup x=some c->cells.lookup y=some c->x=y
 at_:∀a,ba cells a->H a=some (jH h0 a)
 cell:∀x c,cells.lookup x=some c->∃v,h0.IsCell c v
def sE(cells:List (Str×Addr))(h0:Heap)(x:Str)(v:V):Prop:=∃u c,bq v u/\cells.lookup x=some c/\h0.IsCell c (some u)
def Gf(X:Cx)(sp:Sp)(t:TA):TE:=fun σ H Q=>t σ H fun vs H1=>(∀a,ba X.env.cells a->H1 a=none)->∀h0:Heap,ye X.env.cells h0 (eD (ba X.env.cells) h0 H1)->(∀ (i:Nat) (x:Str) (v:V),X.N[i]?=some x->σ[i]?=some (some v)->X.env.scope.names.lookup x=some .cell->sE X.env.cells h0 x v)->
 sp vs (eD (ba X.env.cells) h0 H1) (fun v H'=>(∀a,ba X.env.cells a->H' a=some (jH h0 a))/\Q v (qv (ba X.env.cells) H')) E0
section
variable {X:Cx} {k:Nat} {x:Str} {ps:List Str} {sp:Sp} {e:Expr} {es:List Expr} {t:TA} {p pos:Pos}
theorem qw(C:dA X.prog X.w X.K X.mg X.base be k x ps sp)(hr:bQ k X.A)(Jf:X.fn=fun _=>true)(Yy:X.ex=[])(ha:PA X (e::es) t)(hg:Gl X x:=by rfl)(n9:(x==("__debug__":Str))=false:=by decide)(he:starEach (e::es) X.env=(false,eval e X.env)::starEach es X.env:=by rfl)(tq:(backTo pos (starEach es X.env)).any (·.1)=false:=by rfl):
  PE X (.Call (.Name x p) (e::es) [] pos) (Gf X sp t):=by
 obtain⟨f,fd,hm,hk,hb,F⟩:=C.ex;intro ae s σ H Q I h;refine kP (ix I hg hm ?_ n9);refine pL (h₀:=X.base) I.ok.mod.Ek hk (cg (ha pos ae s σ H _ I h) fun us s1 ⟨vs,H1,I1,r,q⟩=>⟨I1.iN,?_⟩) he tq;have cF:∀a,ba X.env.cells a->H1 a=none/\(∃o,s1.heap.get? a=some o)/\a∉fS X.stack/\X.base.get? a=none:=fun a ⟨y,ey⟩=>by
  obtain⟨v,o,ho,hd⟩:=I1.cell y a ey;have ab:=I1.ok.B6 y a (by rw[Jf]) ey;refine⟨I1.dR y a ey,⟨o,ho⟩,fun iP=>?_,pM (bp I1.ok.tf ab)⟩;rcases aR.mp (I1.mv a iP) with z|z
  .exact I1.BI y a ey z
  .obtain⟨_,o',nV,_⟩:=I1.ok.ge.mem z;exact absurd (bK (bg nV) ab) (fh _)
 have L:ye X.env.cells s1.heap (eD (ba X.env.cells) s1.heap H1):=⟨I1.ok.inj,fun a c=>jI c,I1.cell⟩
 have q':=q (fun a c=>(cF a c).1) s1.heap L fun i y v h1 h2 h3=>by
  obtain⟨m,_,hl⟩:=I1.loc;obtain⟨u,ru,lk⟩:=hl i y v h1 h2 (.inr (.inl h3));rcases lk with ⟨z,_⟩|⟨_,c,e1,e2⟩
  .have z:X.env.scope.names.lookup y=some .local:=z;rw[h3] at z;cases z
  .exact⟨u,c,ru,e1,e2⟩
 have Wv:rE X.prog X.w X.K X.mg X.base X.A X.stack s1 (eD (ba X.env.cells) s1.heap H1):=by
  obtain⟨e1,e2,e3,e4,e5,e6,e7,e8⟩:=I1.FL;refine⟨e1,e2,fun b o eb=>⟨(e3 b o eb).1,?_⟩,e4,e5,fun b iP=>?_,m7 e7 fun a c=>⟨(cF a c).1,rfl,(cF a c).2.1⟩,e8⟩
  .rw[aN fun z=>by rw[(cF b z).2.2.2] at eb;cases eb];exact(e3 b o eb).2
  .rw[aN fun z=>(cF b z).2.2.1 iP];exact e6 b iP
 have hl:us.length=ps.length:=by rw[<-r.length];exact F.len _ _ _ _ q'
 have iP:=hb s1 us I1.iN (by rw[jX];exact hl);rw[jX] at iP;refine gX (iW (F.run X.A X.stack s1 _ ⟨us,[]⟩ us vs _ E0 hr Wv iP r q') fun rr s' hq=>?_);cases rr with
 |error e=>exact hq.elim
 |ok fl=>
  cases fl with
  |ret u=>
   obtain⟨v,H',os,bare,un,aW,rv,k1,k2⟩:=hq;have l':∀a,ba X.env.cells a->s'.heap.get? a=s1.heap.get? a:=fun a c=>(aW a _ (k1 a c)).1;exact I1.after ⟨v,qv _ H',os,bare,Ge un (fun a c=>⟨(cF a c).1,rfl,(cF a c).2.2.1⟩) l',wM aW k1,rv,k2⟩
  |next=>exact False.elim hq
  |brk=>exact False.elim hq
  |cont=>exact False.elim hq
end
def gu(scope:Scope)(aI:List (Str×Addr))(qual:Str)(f c L:Addr):Env:=
 { scope:=scope,locals:=L,globals:=mainGlobals,cells:=aI,qual:=qual++".<locals>.",func:=some f,code:=.ref c,frame:=some L,builtins:=builtinsNs }
def vB(X:Cx)(NB:List Str)(scope:Scope)(aI:List (Str×Addr))(qual:Str)(f c:Addr)(s:Shared)(H:Hp):Cx:=
 { X with A:=X.A.deeper (gu scope aI qual f c s.heap.objs.size),N:=NB,s₀:=s,H₀:=H,env:=gu scope aI qual f c s.heap.objs.size,outer:=X.stack,stack:=gu scope aI qual f c s.heap.objs.size::X.stack,ex:=[],fn:=fun _=>false,pn:=[],xe:=fun _ _=>False }
structure ph(NB:List Str)(nP:Nat)(scope:Scope)(qual:Str)(params:Arguments)(body:Expr):Prop where
 kind:scope.kind=.function
 nd:NB.Nodup
 bind:∀aI pm c iS us,us.length=nP->bindArgs (PySem.W.kla_fn "<lambda>" qual params body scope aI pm (.ref c) iS) ⟨us,[]⟩=pure ((NB.take nP).zip us)
 par:∀x∈NB.take nP,scope.names.lookup x=some .local
 fr:∀i x,nP<=i->NB[i]?=some x->scope.names.lookup x=some .free
 i9:∀z∈scope.names,z.2≠.cell
 co:scope.isCoroutine=false
 gen:scope.isGenerator=false
theorem sF{x:Str}{v:Value}:∀ {l:List (Str×Value)},(l.map (·.1)).Nodup->(x,v)∈l->l.lookup x=some v
 |(y,u)::l,nd,h=>by
  obtain⟨n1,n2⟩:=fQ.mp nd;rcases aR.mp h with z|z
  .injection z with z1 z2;rw[z1,z2,cV,beq_self_eq_true]
  .have ne:x≠y:=fun e=>n1 (by rw[<-e];exact ck.mpr ⟨_,z,rfl⟩);rw[cV,show (x==y)=false by simpa using ne];exact sF n2 z
theorem Ao{x:Str}{v:Value}{l:List Str}{us:List Value}{i:Nat}(nd:l.Nodup)(hl:l.length<=us.length)(h1:l[i]?=some x)(h2:us[i]?=some v):(l.zip us).reverse.lookup x=some v:=by
 refine sF ?_ (List.mem_reverse.mpr (cX (i:=i) ?_))
 .rw[List.map_reverse,List.map_fst_zip hl];exact(pO l).nodup_iff.mpr nd
 .rw[yR];exact⟨h1,h2⟩
section
variable {X:Cx} {ae:List (Addr×Obj)} {σ:St} {H:Hp} {s:Shared} {NB:List Str} {nP:Nat} {scope:Scope} {qual:Str} {params:Arguments} {body:Expr} {aI cells:List (Str×Addr)} {f c:Addr} {h₁ h0:Heap} {t₁:Nat} {vs ws:List V} {us:List Value}
theorem Ap(I:av X ae σ H s)(S:ph NB nP scope qual params body)(hd:X.A.handled=none)(Nt:X.calm=true)(c1:∀x c,aI.lookup x=some c->cells.lookup x=some c)(c2:∀x,(x,NameKind.free)∈scope.names->∃c,aI.lookup x=some c)(L:ye cells h0 H)(hw:∀ (i:Nat) (x:Str) (v:V),NB[nP+i]?=some x->ws[i]?=some v->sE cells h0 x v)(hn:h₁.Ns s.heap.objs.size (fun x=>((NB.take nP).zip us).reverse.lookup x))(hk:∀b o,s.heap.get? b=some o->h₁.get? b=some o)(rv:aK vs us)(hv:vs.length=nP)(dC:nP+ws.length=NB.length):
  av (vB X NB scope aI qual f c s (qv (ba cells) H)) [] ((vs++ws).map some) (qv (ba cells) H) { s with heap:=h₁,toks:=t₁ }:=by
 have Ww:∀ {x c},aI.lookup x=some c->ba cells c:=fun {x c} e=>⟨x,c1 x c e⟩
 have Gg:∀a,ba cells a->s.heap.get? a=h0.get? a:=fun a z=>(I.aW a _ (L.at_ a z)).1;have i8:∀x c v,cells.lookup x=some c->h0.IsCell c v->h₁.IsCell c v:=fun x c v e ⟨o,ho,y6⟩=>⟨o,hk _ _ ((Gg c ⟨x,e⟩).trans ho),y6⟩
 refine⟨⟨I.ok.mod,S.kind,rfl,rfl,aG _,fun x y c e1 e2=>L.inj x y c (c1 x c e1) (c1 y c e2),fun x hx=>?_,(fun x c z e=>by cases z),fun _=>hd,uq I.ok.frames,.inr ⟨rfl,rfl⟩,(fun b hb=>by cases hb),fun b o e=>⟨(I.bs b o e).1,dJ (I.bs b o e).2⟩,bp I.ok.tf I.sz,(fun b o e hb=>by cases hb),(fun b hb=>by cases hb),I.stack,fun b hb=>dJ (I.fm b hb)⟩,
  rfl,I.bare,Un.kept hk,⟨_,hn,fun i x w e1 e2 e3=>?_⟩,fun x c e=>?_,dJ (I.aW.fresh (aG _)),fun x c e=>gq (Ww e),fun p hp=>absurd (show p∈([]:List (Addr×Obj)) from hp) (by simp),(wM I.aW L.at_).kept hk,?_⟩
 .have hx:scope.names.lookup x=some .cell\/scope.names.lookup x=some .free:=hx;rcases hx with z|z
  .exact absurd rfl (S.i9 _ (fc z))
  .exact c2 x (fc z)
 .have e1:NB[i]?=some x:=e1;have e2:(vs++ws)[i]?=some w:=by
   rw[bw] at e2;obtain⟨w',h1,h2⟩:=Option.map_eq_some_iff.mp e2;rw[h1];exact h2
  by_cases hi:i<nP
  .rw[oz (by rw[hv];exact hi)] at e2;obtain⟨u,hu,ru⟩:=rv.get e2;have hp:(NB.take nP)[i]?=some x:=by rw[yV hi];exact e1
   have hx:x∈NB.take nP:=cX hp;refine⟨u,ru,.inl ⟨S.par x hx,?_⟩⟩;exact Ao (S.nd.sublist (List.take_sublist _ _)) (by rw[<-rv.length,hv];exact ua _ _) hp hu
  .rw[pD (by rw[hv];lia),hv] at e2;obtain⟨u,c',ru,ec,hc⟩:=hw (i-nP) x w (by rw[show nP+(i-nP)=i by lia];exact e1) e2;have hF:=S.fr i x (by lia) e1;obtain⟨Kp,Kx⟩:=c2 x (fc hF);have:Kp=c':=by have:=c1 x Kp Kx;rw[ec] at this;exact(bh this).symm
   subst this;exact⟨u,ru,.inr ⟨.inr hF,Kp,Kx,i8 x Kp _ ec hc⟩⟩
 .obtain⟨v,uP⟩:=L.cell x c (c1 x c e);exact⟨v,i8 x c v (c1 x c e) uP⟩
 .show ((vs++ws).map some).length=NB.length;rw[aT,fL,hv];exact dC
end
def jc(X:Cx)(NB:List Str)(scope:Scope)(aI:List (Str×Addr))(qual:Str)(f c:Addr)(s:Shared)(H:Hp)(E:XK):Cx:=
 { vB X NB scope aI qual f c s H with xe:=fun e s'=>wpAny (model X.prog X.w) (X.A.deeper (gu scope aI qual f c s.heap.objs.size)) (leaving (gu scope aI qual f c s.heap.objs.size) e) (fun _ n_=>jh X.prog X.w X.stack H s E e n_) (fun e' n_=>jh X.prog X.w X.stack H s E e' n_) s' }
section
variable {X:Cx} {ae:List (Addr×Obj)} {σ:St} {H H':Hp} {s s':Shared} {NB:List Str} {nP:Nat} {scope:Scope} {qual:Str} {params:Arguments} {body:Expr} {aI cells:List (Str×Addr)} {f c:Addr} {h₁ h0 B:Heap} {t₁:Nat} {vs ws:List V} {us:List Value} {E E':XK}
theorem av.Pw(I:av (vB X NB scope aI qual f c s H) ae σ H' s'):av (jc X NB scope aI qual f c s H E) ae σ H' s':=
 ⟨⟨I.ok.mod,I.ok.kind,I.ok.glob,I.ok.blt,I.ok.above,I.ok.inj,I.ok.has,I.ok.B6,I.ok.hd,I.ok.frames,I.ok.vV,I.ok.Ip,I.ok.bs,I.ok.tf,I.ok.fT,I.ok.uE,I.ok.ge,I.ok.xo⟩,I.os,I.bare,I.base,I.loc,I.cell,I.free,I.dR,I.pin,I.aW,I.len⟩
theorem Aq(hE:∀C d H',E' C d H'->E C d H'):gh (jh X.prog X.w) (jc X NB scope aI qual f c s H E) E':=by
 intro ae σ H1 s1 e s' I h;obtain⟨p,C,a0,B,H',rfl,F,q⟩:=h;have vV:fS (gu scope aI qual f c s.heap.objs.size::X.stack)=s.heap.objs.size::fS X.stack:=rfl;have fT:∀b:Addr,b∉(jc X NB scope aI qual f c s H E).ex:=fun b m=>absurd (show b∈([]:List Addr) from m) (by simp);have JM:∀b o,s.heap.get? b=some o->b∉fS X.stack->b∉fS (jc X NB scope aI qual f c s H E).stack:=fun b o z hb m=>by
  have m':b∈s.heap.objs.size::fS X.stack:=m;rcases aR.mp m' with z'|z'
  .exact absurd (bg z) (by rw[z'];exact fh _)
  .exact hb z'
 show wpAny _ _ (leaving (gu scope aI qual f c s.heap.objs.size) (.ref p)) _ _ s';refine wpAny_leaves_onW (outer:=X.stack) (L:=s.heap.objs.size) I.ok.frames rfl F.fl fun h2 x1 x2=>?_;refine⟨p,C,a0,B,H',rfl,⟨F.os.trans I.os,F.bare,F.aW,fun b o z n hb=>?_,fun b o z n hb=>?_,fun b o z n=>?_,fun b xs z=>F.d7 b xs (I.base.d7 b xs z),fun b o u z=>F.eJ b o u (I.base.eJ b o u z),fun b ps z=>?_,x1⟩,hE _ _ _ q⟩
 .exact F.keep b o (I.base.keep b o z n hb (fT b)) (I.base.free b o z n (fT b)) (JM b o z hb)
 .obtain⟨sl,z1⟩:=I.base.slot b o z n hb (fT b);have iP:b∈fS (jc X NB scope aI qual f c s H E).stack:=bS _ hb;obtain⟨⟨Cw,z2⟩,n2⟩:=F.frame b _ z1 (I.base.free b o z n (fT b)) iP;obtain⟨_,o',nV,nd⟩:=I.ok.ge.mem hb;have e':o'=o:=bh (nV.symm.trans z);subst e';obtain⟨OF,z3⟩:=x2 b _ z2 nd;exact⟨⟨OF,z3⟩,n2⟩
 .obtain⟨o',z1⟩:=I.base.there b o z (fT b);have xA:b∉fS X.stack:=fun m=>n (I.ok.xo b m);cases n1:H1 b with
  |none=>exact⟨o',(F.keep b o' z1 n1 (JM b o z xA)).1⟩
  |some u=>exact F.there b o' z1 (by rw[n1];intro z';cases z')
 .obtain⟨m1,z1⟩:=I.base.eS b ps z;obtain⟨m2,z2⟩:=F.eS b _ z1;exact⟨m1++m2,by rw[z2,uh]⟩
theorem Ar{P:Program}{w:World}{outer:List Env}{S:Addr->Prop}{p:Addr}{C a0:Value}(F:rN P w outer (qv S H) s B p C a0 H' s')(L:∀a,S a->H a=some (jH h0 a))(Gg:∀a,S a->s.heap.get? a=h0.get? a/\∃o,h0.get? a=some o)(nf:∀b∈fS outer,H b=none):rN P w outer H s B p C a0 (eD S h0 H') s':=by
 have kp:∀a,S a->H' a=none/\B.get? a=h0.get? a/\∃o,h0.get? a=some o:=fun a z=>by
  obtain⟨e,o,ho⟩:=Gg a z;obtain⟨k1,k2⟩:=F.keep a o (e.trans ho) (gq z) fun m=>by have:=nf a m;rw[L a z] at this;cases this
  exact⟨k2,k1.trans ho.symm,o,ho⟩
 have no:∀ {b:Addr},H b=none->¬ S b:=fun {b} n z=>by rw[L b z] at n;cases n
 refine⟨F.os,F.bare,m7 F.aW kp,fun b o e n hb=>?_,fun b o e n hb=>?_,fun b o e n=>?_,fun b xs e=>?_,fun b o u e=>?_,fun b ps e=>?_,F.fl⟩
 .obtain⟨k1,k2⟩:=F.keep b o e (dJ n) hb;exact⟨k1,by rw[aN (no n)];exact k2⟩
 .obtain⟨k1,k2⟩:=F.frame b o e (dJ n) hb;exact⟨k1,by rw[aN (no n)];exact k2⟩
 .by_cases z:S b
  .obtain⟨_,k2,o',ho⟩:=kp b z;exact⟨o',k2.trans ho⟩
  .exact F.there b o e (by rw[ce z];exact n)
 .have z:¬ S b:=fun z=>by rw[L b z] at e;cases e
  rw[aN z];exact F.d7 b xs (by rw[ce z];exact e)
 .have z:¬ S b:=fun z=>by rw[L b z] at e;cases e
  rw[aN z];exact F.eJ b o u (by rw[ce z];exact e)
 .have z:¬ S b:=fun z=>by rw[L b z] at e;cases e
  obtain⟨m,k⟩:=F.eS b ps (by rw[ce z];exact e);exact⟨m,by rw[aN z];exact k⟩
def gv(nP:Nat)(scope:Scope)(qual:Str)(params:Arguments)(body:Expr)(NB:List Str)(te:XK->TE)(f:Addr)(vs:List V)(H:Hp)(Q:VK)(E:XK):Prop:=∃ (cells:List (Str×Addr)) (c:Addr) (h0:Heap) (ws:List V) (EL:XK),H f=some (eN f qual params body scope cells c)/\H c=some (dz c qual)/\vs.length=nP/\nP+ws.length=NB.length/\ye cells h0 H/\
 (∀ (i:Nat) (x:Str) (v:V),NB[nP+i]?=some x->ws[i]?=some v->sE cells h0 x v)/\(∀C d H',EL C d H'->(∀a,ba cells a->H' a=none)->E C d (eD (ba cells) h0 H'))/\te EL ((vs++ws).map some) (qv (ba cells) H) fun v H'=>(∀a,ba cells a->H' a=none)->Q v (eD (ba cells) h0 H')
theorem As{te:XK->TE}{Q:VK}{k:Nat}{E:St->XK}(hr:bQ k X.A)(Nt:X.calm=true)(S:ph NB nP scope qual params body)(I:av X ae σ H s)(rv:aK vs us)(hb:∀EL aI c s H,PE (jc X NB scope aI qual f c s H EL) body (te EL))(hx:lG (jh X.prog X.w) X E)(h:gv nP scope qual params body NB te f vs H Q (E σ)):
  wpAny (model X.prog X.w) X.A (call (.ref f) us) (EP X ae σ Q) X.xe s:=by
 obtain⟨cells,c,h0,ws,EL,hf,hc,hv,dC,L,hw,hE,h⟩:=h;obtain⟨aI,pm,iS,c1,c2,Ct⟩:=(I.aW f _ hf).1;have J8:s.heap.CodeRec (.ref c) qual:=(I.aW c _ hc).1;have r9:X.A.depth<recursionLimit:=by have:=hr.dp;lia
 have Wx:us.length=nP:=by rw[<-rv.length];exact hv
 have Gg:∀a,ba cells a->s.heap.get? a=h0.get? a/\∃o,h0.get? a=some o:=fun a z=>by
  obtain⟨y,ey⟩:=id z;obtain⟨v,o,ho,_⟩:=L.cell y a ey;exact⟨(I.aW a _ (L.at_ a z)).1,o,ho⟩
 refine gX (t6 r9 Ct rfl S.co S.gen rfl J8 ?_);rw[S.bind _ _ _ _ _ Wx];refine wpAny_pure (ui S.i9 (fun x hx=>?_) (fun h₁ CG EJ=>⟨I.nolimit.fresh _ EJ,?_⟩) S.kind)
 .exact S.par _ (jW hx).1
 have CH:∀b o,s.heap.get? b=some o->h₁.get? b=some o:=fun b o e=>EJ.extBut b o (bf (bg e)) (bJ _ e);refine tZ ?_;have J:=Ap (f:=f) (c:=c) (t₁:=s.toks+((NB.take nP).zip us).length) I S hr.hd Nt c1 c2 L hw CG CH rv hv dC;refine fj (hb EL aI c s _ [] _ _ _ _ J.Pw h) (fun w s' ⟨v',H',J',r',q'⟩=>?_) fun e s' z=>?_
 .have kp:∀a,ba cells a->H' a=none/\s'.heap.get? a=h0.get? a/\∃o,h0.get? a=some o:=fun a z=>by
   obtain⟨e0,o,ho⟩:=Gg a z;have es:s.heap.get? a=some o:=e0.trans ho;refine⟨J'.base.free a o es (gq z) (by intro z;cases z),?_,o,ho⟩;rw[ho];exact J'.base.keep a o es (gq z) (fun iP=>by have:=I.fm a iP;rw[L.at_ a z] at this;cases this) (by intro z;cases z)
  exact⟨v',eD (ba cells) h0 H',I.vY (ch:=[]) J'.os (C3 J'.base L.at_) (m7 J'.aW kp) J'.bare (fun b hb=>by cases hb),r',q' fun a z=>(kp a z).1⟩
 .have go:∀e n_,jh X.prog X.w X.stack (qv (ba cells) H) s EL e n_->X.xe e n_:=fun e n_ hc=>by
   obtain⟨p,C,a0,B,H',rfl,F,q⟩:=hc;refine hx ae σ H s _ n_ I ⟨p,C,a0,B,eD (ba cells) h0 H',rfl,Ar F L.at_ Gg I.fm,hE _ _ _ q fun a z=>?_⟩;obtain⟨e0,o,ho⟩:=Gg a z;exact(F.keep a o (e0.trans ho) (gq z) fun m=>by have:=I.fm a m;rw[L.at_ a z] at this;cases this).2
  exact fj z (fun _ n_ h=>go _ _ h) fun e' n_ h=>go _ _ h
def wN(i:Nat)(scope:Scope)(qual:Str)(params:Arguments)(body:Expr)(NB:List Str)(te:XK->TE)(E:St->XK):TE:=fun σ H Q=>∃f,σ[i]?=some (some (.ref f))/\(∃cells c,H f=some (eN f qual params body scope cells c))/\gv 0 scope qual params body NB te f [] H Q (E σ)
theorem m8{te:XK->TE}{k i:Nat}{x:Str}{p pos:Pos}{E:St->XK}(hr:bQ k X.A)(Nt:X.calm=true)(S:ph NB 0 scope qual params body)(hx:PE X (.Name x p) (bb i))(hb:∀EL f aI c s H,PE (jc X NB scope aI qual f c s H EL) body (te EL))(hp:lG (jh X.prog X.w) X E):
  PE X (.Call (.Name x p) [] [] pos) (wN i scope qual params body NB te E):=by
 intro ae s σ H Q I h;obtain⟨f,hσ,⟨cells,c,hf⟩,h⟩:=h;refine kP (cg (hx ae s σ H (fun v H1=>v=.ref f/\H1=H) I ⟨_,hσ,rfl,rfl⟩) fun u s1 ⟨v,H1,I1,r1,ev,eH⟩=>?_);subst ev;subst eH;cases r1;obtain⟨aI,pm,iS,_,_,e⟩:=(I1.aW f _ hf).1;exact PySem.W.callWith_F0 ⟨_,_,_,_,e⟩ (As (us:=[]) (vs:=[]) hr Nt S I1 .nil (fun EL=>hb EL f) hp h)
end
def Ky(lp:Pos)(qual:Str)(P:Addr)(params:Arguments)(body:Expr)(scope:Scope)(cells:List (Str×Addr)):TE:=fun _ H Q=>∃ps:Array Value,H P=some (.de ps)/\TriplesOk ps.toList/\
  ((codeAmong lp ps.toList=none/\∀ (f c:Addr) (H2:Hp),H2 P=some (.de (ps++#[rawInt lp.line,rawInt lp.col,.ref c]))->(∀b o,H b=some o->b≠P->H2 b=some o)->H2 c=some (dz c qual)->H2 f=some (eN f qual params body scope cells c)->Q (.ref f) H2)\/
   ∃c':Addr,codeAmong lp ps.toList=some (.ref c')/\H c'=some (dz c' qual)/\∀ (f:Addr) (H2:Hp),(∀b o,H b=some o->H2 b=some o)->H2 f=some (eN f qual params body scope cells c')->Q (.ref f) H2)
section
variable {X:Cx} {c P:Addr} {params:Arguments} {body:Expr} {scope:Scope} {lp:Pos} {NB:List Str} {src:List (Option Nat)}
theorem wO(C:vh X c P)(S:cI NB src scope X)(vj:defaultsOf params X.env=([],[]):=by rfl):PE X (.Lambda params body scope lp) (Ky lp (X.env.qual++"<lambda>") P params body scope X.env.cells):=by
 intro ae s σ H Q I h;obtain⟨ps,hP,ht,h⟩:=h;obtain⟨aI,J4,c1,c2⟩:=gj I.ok S;refine PySem.W.kla_eval vj ?_;have fq:∀b o,s.heap.get? b=some o->b<s.heap.objs.size:=fun b o e=>bg e;rcases h with ⟨Wy,h⟩|⟨c',Wz,BK,h⟩
 .-- TQ first time
  have zY:s.heap.get? P=some (PySem.W.tabObj ps):=I.aW P _ hP;have O1:X.env.locals≠P:=fun z=>by have f:=I.free;rw[z,hP] at f;cases f
  have O2:mainGlobals≠P:=fun z=>by
   obtain⟨o,es,ep,e,d,_⟩:=I.mod.glob;have:=(I.bs _ _ e).2;rw[z,hP] at this;cases this
  refine yS (mg:=X.mg) J4 I.ok.glob I.wz C.code (C.hd.keeps I.bk) zY ht Wy O2 (C.at I hP) fun c' iS h' tk hx ql dB F2 J5=>?_;have qm:∀b o,b≠P->s.heap.get? b=some o->(h'.push (PySem.W.kla_obj "<lambda>" (X.env.qual++"<lambda>") params body scope aI ((X.mg "__name__").getD .none) c' iS)).get? b=some o:=fun b o hb e=>bJ _ (hx b o hb e);have O4:c'≠P:=iM (bK (fq _ _ zY) ql);have O5:h'.objs.size≠P:=iM (bK (fq _ _ zY) (bp ql (jp dB)));have O6:h'.objs.size≠c':=iM dB;have nf:H h'.objs.size=none:=I.aW.fresh (by lia);have nc:H c'=none:=I.aW.fresh ql
  let H2:Hp:=upd (upd (upd H P (.de (ps++#[rawInt lp.line,rawInt lp.col,.ref c']))) c' (dz c' (X.env.qual++"<lambda>"))) h'.objs.size (eN h'.objs.size (X.env.qual++"<lambda>") params body scope X.env.cells c')
  have eP:H2 P=some (.de (ps++#[rawInt lp.line,rawInt lp.col,.ref c'])):=by
   show upd _ _ _ _=_;rw[ah O5.symm,ah O4.symm,af]
  have ec:H2 c'=some (dz c' (X.env.qual++"<lambda>")):=by
   show upd _ _ _ _=_;rw[ah O6.symm,af]
  have ef:H2 h'.objs.size=some (eN h'.objs.size (X.env.qual++"<lambda>") params body scope X.env.cells c'):=af;have eo:∀b,b≠P->b≠c'->b≠h'.objs.size->H2 b=H b:=fun b h1 h2 h3=>by
   show upd _ _ _ _=_;rw[ah h3,ah h2,ah h1]
  have d_:∀b o,H b=some o->b≠P->H2 b=some o:=fun b o e hb=>by
   rw[eo b hb (ai e nc) (ai e nf)];exact e
  have I2:av X ae σ H2 { s with heap:=h'.push (PySem.W.kla_obj "<lambda>" (X.env.qual++"<lambda>") params body scope aI ((X.mg "__name__").getD .none) c' iS),toks:=tk }:=by
   refine I.step (g':=s.gens) (d':=s.drawn) (ch:=[]) (fun _ z=>absurd z (by simp)) (fun b o _ _ _ e n=>qm b o (fun z=>by rw[z,hP] at n;cases n) e) (fun b o _ _ _ e n=>⟨o.slots,qm b o (fun z=>by rw[z,hP] at n;cases n) e⟩)
    (fun b o _ e n=>?_) (fun b o _ e=>?_) (fun b xs e=>d_ b _ e fun z=>by rw[z,hP] at e;cases e) (fun b o u e=>d_ b _ e fun z=>by rw[z,hP] at e;cases e) (fun b ps e=>?_) (fun m hm=>?_) (fun b o e=>?_) I.bare
   .rw[eo b (fun z=>by rw[z,hP] at n;cases n) (bf (bK (fq b o e) ql)) (bf (bK (fq b o e) (bp ql (jp dB))))];exact n
   .by_cases hb:b=P
    .exact⟨_,by rw[hb];exact bJ _ J5⟩
    .exact⟨o,qm b o hb e⟩
   .by_cases hb:b=P
    .rw[hb] at e |-;rw[hP] at e;cases e;exact⟨#[rawInt lp.line,rawInt lp.col,.ref c'],by rw[eP]⟩
    .exact⟨#[],by rw[d_ b _ e hb];simp⟩
   .exact(hm.extBut hx O1).push _
   .by_cases J6:b=h'.objs.size
    .subst J6;rw[ef] at e;cases e;exact lI ⟨aI,_,iS,c1,c2,ci _ rfl⟩
    .by_cases Iy:b=c'
     .subst Iy;rw[ec] at e;cases e;refine r0 ?_;obtain⟨c₂,oc,vs,t,e2,En,r⟩:=F2;exact⟨c₂,oc,vs,t,e2,bJ _ En,r⟩
     .by_cases F3:b=P
      .subst F3;rw[eP] at e;cases e;exact bJ _ J5
      .rw[eo b F3 Iy J6] at e;refine(I.aW b o e).iE (fun d u hd q=>qm d u ?_ q) (fun d q=>d_ d _ q fun z=>by rw[z,hP] at q;cases q) fun d xs q=>d_ d _ q fun z=>by rw[z,hP] at q;cases q
       rintro rfl;rcases hd with z|z
       .exact F3 z.symm
       .rw[hP] at z;cases z
  exact⟨.ref h'.objs.size,H2,I2,rfl,h _ c' H2 eP d_ ec ef⟩
 .-- again
  have zY:s.heap.get? P=some (PySem.W.tabObj ps):=I.aW P _ hP;refine yM (mg:=X.mg) J4 I.ok.glob I.wz C.code (C.hd.keeps I.bk) zY ht Wz (C.at I hP) fun iS h' tk hk ql=>?_;have nf:H h'.objs.size=none:=I.aW.fresh ql
  let H2:Hp:=upd H h'.objs.size (eN h'.objs.size (X.env.qual++"<lambda>") params body scope X.env.cells c')
  have ef:H2 h'.objs.size=some (eN h'.objs.size (X.env.qual++"<lambda>") params body scope X.env.cells c'):=af;have d_:∀b o,H b=some o->H2 b=some o:=fun b o e=>by
   show upd _ _ _ _=_;rw[ah (ai e nf)];exact e
  have qm:∀b o,s.heap.get? b=some o->(h'.push (PySem.W.kla_obj "<lambda>" (X.env.qual++"<lambda>") params body scope aI ((X.mg "__name__").getD .none) c' iS)).get? b=some o:=fun b o e=>bJ _ (hk b o e);have I2:av X ae σ H2 { s with heap:=h'.push (PySem.W.kla_obj "<lambda>" (X.env.qual++"<lambda>") params body scope aI ((X.mg "__name__").getD .none) c' iS),toks:=tk }:=by
   refine I.step (g':=s.gens) (d':=s.drawn) (ch:=[]) (fun _ z=>absurd z (by simp)) (fun b o _ _ _ e n=>qm b o e) (fun b o _ _ _ e n=>⟨o.slots,qm b o e⟩)
    (fun b o _ e n=>?_) (fun b o _ e=>⟨o,qm b o e⟩) (fun b xs e=>d_ b _ e) (fun b o u e=>d_ b _ e) (fun b ps e=>⟨#[],by rw[d_ b _ e];simp⟩) (fun m hm=>(hm.keeps hk).push _) (I.aW.laid qm ql (lI ⟨aI,_,iS,c1,c2,ci _ rfl⟩)) I.bare
   .show upd _ _ _ _=_;rw[ah (bf (bK (fq b o e) ql))];exact n
  exact⟨.ref h'.objs.size,H2,I2,rfl,h _ H2 d_ ef⟩
end
abbrev Px(p:Pos)(c:Addr):Array Value:=#[rawInt p.line,rawInt p.col,.ref c]
def sG(p1 p2:Pos)(q:Str)(P:Addr)(H:Hp):Prop:=∃c1,H c1=some (dz c1 q)/\(H P=some (.de (Px p1 c1))\/∃c2,H c2=some (dz c2 q)/\H P=some (.de (Px p1 c1++Px p2 c2)))
def gK(p1 p2:Pos)(q:Str)(P:Addr)(H:Hp):Prop:=H P=some (.de #[])\/sG p1 p2 q P H
def ER(p1 p2 lp:Pos)(T:Hp->Prop)(qual:Str)(P:Addr)(params:Arguments)(body:Expr)(scope:Scope)(cells:List (Str×Addr)):TE:=fun _ H Q=>T H/\
 ∀ (f c:Addr) (H2:Hp),sG p1 p2 qual P H2->(∀b o,H b=some o->b≠P->H2 b=some o)->H2 c=some (dz c qual)->H2 f=some (eN f qual params body scope cells c)->Q (.ref f) H2
theorem m9{p:Pos}{c:Addr}{l:List Value}:codeAmong p (rawInt p.line::rawInt p.col::.ref c::l)=some (.ref c):=by
 show (if ((p.line:Int)==(p.line:Int)&&(p.col:Int)==(p.col:Int))=true then some (Value.ref c) else _)=_;simp
theorem pi{p q:Pos}{c:Addr}{l:List Value}(h:((q.line:Int)==(p.line:Int)&&(q.col:Int)==(p.col:Int))=false):codeAmong p (rawInt q.line::rawInt q.col::.ref c::l)=codeAmong p l:=by
 show (if ((q.line:Int)==(p.line:Int)&&(q.col:Int)==(p.col:Int))=true then some (Value.ref c) else _)=_;rw[h];rfl
section
variable {X:Cx} {c P:Addr} {params:Arguments} {body:Expr} {scope:Scope} {p1 p2:Pos} {NB:List Str} {src:List (Option Nat)}
theorem At(C:vh X c P)(S:cI NB src scope X)(vj:defaultsOf params X.env=([],[]):=by rfl):PE X (.Lambda params body scope p1) (ER p1 p2 p1 (gK p1 p2 (X.env.qual++"<lambda>") P) (X.env.qual++"<lambda>") P params body scope X.env.cells):=by
 intro ae s σ H Q I ⟨t,h⟩;refine wO C S vj ae s σ H Q I ?_;rcases t with t|⟨d1,e1,t|⟨d2,e2,t⟩⟩
 .exact⟨_,t,trivial,.inl ⟨rfl,fun f c H2 hp k hc hf=>h f c H2 ⟨c,hc,.inl (by rw[hp];simp)⟩ k hc hf⟩⟩
 .exact⟨_,t,trivial,.inr ⟨d1,m9,e1,fun f H2 k hf=>h f d1 H2 ⟨d1,k _ _ e1,.inl (k _ _ t)⟩ (fun b o e _=>k b o e) (k _ _ e1) hf⟩⟩
 .exact⟨_,t,trivial,.inr ⟨d1,m9,e1,fun f H2 k hf=>h f d1 H2 ⟨d1,k _ _ e1,.inr ⟨d2,k _ _ e2,k _ _ t⟩⟩ (fun b o e _=>k b o e) (k _ _ e1) hf⟩⟩
theorem Au(C:vh X c P)(S:cI NB src scope X)(jQ:((p1.line:Int)==(p2.line:Int)&&(p1.col:Int)==(p2.col:Int))=false)(vj:defaultsOf params X.env=([],[]):=by rfl):PE X (.Lambda params body scope p2) (ER p1 p2 p2 (sG p1 p2 (X.env.qual++"<lambda>") P) (X.env.qual++"<lambda>") P params body scope X.env.cells):=by
 intro ae s σ H Q I ⟨t,h⟩;refine wO C S vj ae s σ H Q I ?_;obtain⟨d1,e1,t|⟨d2,e2,t⟩⟩:=t
 .have n1:d1≠P:=fun z=>by rw[z,t] at e1;cases e1
  exact⟨_,t,trivial,.inl ⟨(pi jQ).trans rfl,fun f c H2 hp k hc hf=>h f c H2 ⟨d1,k _ _ e1 n1,.inr ⟨c,hc,hp⟩⟩ k hc hf⟩⟩
 .exact⟨_,t,trivial,.inr ⟨d2,(pi jQ).trans m9,e2,fun f H2 k hf=>h f d2 H2 ⟨d1,k _ _ e1,.inr ⟨d2,k _ _ e2,k _ _ t⟩⟩ (fun b o e _=>k b o e) (k _ _ e2) hf⟩⟩
end
end L2
namespace sH
open PySem L2
def top(i:Nat):Stmt:=PySem.Challenge.pw_neverwait_k35_ranks.main.body.getD i (.Pass ⟨0,0,0,0⟩)
abbrev vC:Stmt:=top 16
abbrev qx:Stmt:=top 17
abbrev vD:Stmt:=top 18
abbrev Gh:Stmt:=top 20
structure Bl(mg:Str->Option Value):Prop where
 rc:mg "isinstance"=none
 int:mg "int"=none
 bool:mg "bool"=none
 tup:mg "tuple"=none
 lst:mg "list"=none
 str:mg "str"=none
 set:mg "set"=none
 len:mg "len"=none
 range:mg "range"=none
 sorted:mg "sorted"=none
 any:mg "any"=none
 max:mg "max"=none
 min:mg "min"=none
 Py:mg "ValueError"=none
 all:mg "all"=none
def Av(K:PySem.W.Frag)(H:Hp)(x:V):Prop:=∃t,qg K H x t/\(PySem.W.kitOne K t (.type "int")=some false\/(PySem.W.kitOne K t (.type "int")=some true/\PySem.W.kitOne K t (.type "bool")=some true))
theorem sI:PySem.W.kitOne K (.type "int") (.type "int")=some true:=by kernel_rfl
theorem qy:PySem.W.kitOne K (.type "int") (.type "bool")=some false:=by kernel_rfl
inductive Wh (K:PySem.W.Frag) (H:Hp):V->Option Int->Prop where
 |int (i:Int):Wh K H (.int i) (some i)
 |no {x:V} (h:Av K H x):Wh K H x none
def gw(K:PySem.W.Frag):Sp:=fun vs H Q _=>∃x o,vs=[x]/\Wh K H x o/\Q (.bl o.isSome) H
section
variable {P:Program} {w:World} {K:PySem.W.Frag} {mg:Str->Option Value} {base:Heap}
theorem C4:aE ["thing"] ["thing"] (al vC):=⟨rfl,rfl,rfl,by decide +kernel,rfl,by decide +kernel,by decide +kernel⟩
theorem Aw(F:fJ K "is_whole" "is_whole" vC f fd)(B:Bl mg):a9 P w K mg base be 1 f fd ["thing"] (gw K):=by
 refine F.ok C4 (fun vs H Q E h=>?_) (fun dg A outer s H vs Q E hr h=>?_)
 .obtain⟨x,o,rfl,_⟩:=h;rfl
 .obtain⟨x,o,rfl,W,k⟩:=h;refine⟨_,ap (aY (j7 (au eV (by rfl) B.rc dM (aa (pv 0) (aa (gf (v:=.ty "int") rfl B.int PyProof.Rows.boot_int rfl) ag)))
   (my (Fs (au eV (by rfl) B.rc dM (aa (pv 0) (aa (gf (v:=.ty "bool") rfl B.bool PyProof.Rows.boot_bool rfl) ag))))))),?_⟩
  cases W with
  |int i=>
   refine⟨_,rfl,_,_,_,.type "int",true,rfl,⟨rfl,sI⟩,.of (.int _),true,rfl,?_⟩;exact⟨_,rfl,_,_,_,.type "int",false,rfl,⟨rfl,qy⟩,.of (.int _),false,rfl,k⟩
  |no h=>
   obtain⟨t,ty,h|⟨h1,h2⟩⟩:=h
   .exact⟨_,rfl,_,_,_,t,false,rfl,⟨rfl,h⟩,ty,false,rfl,k⟩
   .refine⟨_,rfl,_,_,_,t,true,rfl,⟨rfl,h1⟩,ty,true,rfl,?_⟩;exact⟨_,rfl,_,_,_,t,true,rfl,⟨rfl,h2⟩,ty,true,rfl,k⟩
def fF(o:Option Int)(lo hi:Int):Bool:=match o with
 |some i=>decide (lo<=i)&&decide (i<=hi)
 |none=>false
def jJ(K:PySem.W.Frag):Sp:=fun vs H Q _=>∃x o lo hi,vs=[x,.int lo,.int hi]/\Wh K H x o/\Q (.bl (fF o lo hi)) H
theorem Ax:aE ["thing","least","most"] ["thing","least","most"] (al qx):=⟨rfl,rfl,rfl,by decide +kernel,rfl,by decide +kernel,by decide +kernel⟩
theorem yf(F:fJ K "is_whole_within" "is_whole_within" qx f fd)(W:dA P w K mg base be 1 "is_whole" ["thing"] (gw K)):a9 P w K mg base be 2 f fd ["thing","least","most"] (jJ K):=by
 refine F.ok Ax (fun vs H Q E h=>?_) (fun dg A outer s H vs Q E hr h=>?_)
 .obtain⟨x,o,lo,hi,rfl,_⟩:=h;rfl
 .obtain⟨x,o,lo,hi,rfl,wh,k⟩:=h;refine⟨_,ap (aY (j7 (aJ W hr aM (aa (pv 0) ag)) (my (zk Et Et (pv 1) (pv 0) (pv 2))))),?_⟩;refine⟨_,rfl,x,o,rfl,wh,?_⟩;cases wh with
  |no h=>exact⟨false,rfl,k⟩
  |int i=>
   refine⟨true,rfl,_,rfl,_,rfl,_,_,rfl,rfl,_,rfl,?_⟩;show if decide (lo<=i)=true then _ else _
   have k':Q (.bl (decide (lo<=i)&&decide (i<=hi))) H:=k;by_cases h:lo<=i
   .rw[decide_eq_true h] at k' |-;exact⟨_,rfl,_,_,rfl,rfl,k'⟩
   .rw[jm h] at k' |-;exact k'
def lL(K:PySem.W.Frag):Sp:=fun vs H Q _=>∃x o n,vs=[.int n,x]/\Wh K H x o/\Q (.bl (fF o 0 (n-1))) H
theorem C5:aE ["many","thing"] ["many","thing"] (al vD):=⟨rfl,rfl,rfl,by decide +kernel,rfl,by decide +kernel,by decide +kernel⟩
theorem Ay(F:fJ K "is_house" "is_house" vD f fd)(W:dA P w K mg base be 2 "is_whole_within" ["thing","least","most"] (jJ K)):a9 P w K mg base be 3 f fd ["many","thing"] (lL K):=by
 refine F.ok C5 (fun vs H Q E h=>?_) (fun dg A outer s H vs Q E hr h=>?_)
 .obtain⟨x,o,n,rfl,_⟩:=h;rfl
 .obtain⟨x,o,n,rfl,wh,k⟩:=h;refine⟨_,ap (aY (aJ W hr aM (aa (pv 1) (aa aw (aa (bx j_ (pv 0) aw) ag))))),?_⟩;exact⟨_,rfl,_,rfl,_,_,rfl,rfl,x,o,0,n-1,rfl,wh,k⟩
inductive Rw (K:PySem.W.Frag) (H:Hp):V->Option (List V)->Prop where
 |tup {p:Addr} {xs:List V} (h:H p=some (.tup xs)):Rw K H (.ref p) (some xs)
 |no {x:V} {t:Value} (ty:qg K H x t) (h:PySem.W.kitOne K t (.type "tuple")=some false):Rw K H x none
def Kz(o:Option (List V))(m:Int):Bool:=match o with
 |some xs=>decide ((xs.length:Int)=m)
 |none=>false
theorem qz:PySem.W.kitOne K (.type "tuple") (.type "tuple")=some true:=by kernel_rfl
def Az(K:PySem.W.Frag):Sp:=fun vs H Q _=>∃x o m,vs=[x,.int m]/\Rw K H x o/\Q (.bl (Kz o m)) H
theorem KA:aE ["thing","length"] ["thing","length"] (al Gh):=⟨rfl,rfl,rfl,by decide +kernel,rfl,by decide +kernel,by decide +kernel⟩
theorem Gi(F:fJ K "is_row" "is_row" Gh f fd)(B:Bl mg):a9 P w K mg base be 1 f fd ["thing","length"] (Az K):=by
 refine F.ok KA (fun vs H Q E h=>?_) (fun dg A outer s H vs Q E hr h=>?_)
 .obtain⟨x,o,m,rfl,_⟩:=h;rfl
 .obtain⟨x,o,m,rfl,W,k⟩:=h;refine⟨_,ap (aY (j7 (au eV (by rfl) B.rc dM (aa (pv 0) (aa (gf (v:=.ty "tuple") rfl B.tup lP rfl) ag)))
   (my (iy jv (au aP (by rfl) B.len eF (aa (pv 0) ag)) (pv 1) (bB _))))),?_⟩
  cases W with
  |@tup p xs h=>
   refine⟨_,rfl,_,_,_,.type "tuple",true,rfl,⟨rfl,qz⟩,.of (.tup h),true,rfl,?_⟩;refine⟨_,rfl,_,_,rfl,.inr (cQ.of h),_,rfl,rfl,?_⟩;have e:decide (V.int ((xs.length:Nat):Int)=V.int m)=decide (((xs.length:Nat):Int)=m):=by simp
   rw[e];exact k
  |no ty h=>exact⟨_,rfl,_,_,_,_,false,rfl,⟨rfl,h⟩,ty,false,rfl,k⟩
end
theorem cf(s:aF H H')(hD:H D=none):aF H (upd H' D o):=fun b u e=>by rw[ah (ai e hD)];exact s b u e
abbrev IV(ns:List Int):List V:=ns.map V.int
abbrev NV(ns:List Nat):List V:=ns.map fun (x:Nat)=>V.int (x:Int)
theorem KB(G:St->Hp->Prop)(hr:∀σ H,G σ H->u D σ H)(ht:∀N:St->Hp->Prop,(∀σ H,G σ H->N σ H)->t { D with nx:=N } σ H):y8 t u D σ H:=ht _ hr
abbrev Zs:=List (Addr×(Int×Int))
abbrev IK(u:Int×Int):HO:=.tup [.int u.1,.int u.2]
def zr(zs:Zs):List V:=zs.map fun z=>V.ref z.1
def zp(zs:Zs):List (Int×Int):=zs.map (·.2)
def PO(H:Hp)(zs:Zs):Prop:=∀z∈zs,H z.1=some (IK z.2)
theorem ku:zr (a++b)=zr a++zr b:=c_
theorem kC:zp (a++b)=zp a++zp b:=c_
theorem jd:(zr a).length=a.length:=aT _
theorem cW:(zp a).length=a.length:=aT _
theorem qA:zr a=(a.map (·.1)).map V.ref:=by unfold zr;rw[gC];rfl
theorem vE{zs:Zs}{i:Nat}{x:V}(h:(zr zs)[i]?=some x):∃z,zs[i]?=some z/\x=.ref z.1:=by
 unfold zr at h;rw[bw] at h;cases e:zs[i]? with
 |none=>rw[e] at h;cases h
 |some z=>rw[e] at h;exact⟨z,rfl,(bh h).symm⟩
theorem PO.nil:PO H []:=fun z hz=>(nomatch hz)
theorem PO.same(h:PO H zs)(s:aF H H'):PO H' zs:=fun z hz=>s _ _ (h z hz)
theorem PO.putL(h:PO H zs)(e:H D=some (.lst xs)):PO (upd H D o) zs:=fun z hz=>by
 have:=h z hz;rw[ah (by rintro rfl;rw[e] at this;cases this)];exact this
theorem PO.putN(h:PO H zs)(e:H D=none):PO (upd H D o) zs:=h.same (aj e)
theorem PO.append(h:PO H a)(h':PO H b):PO H (a++b):=fun z hz=>(cE.mp hz).elim (h z) (h' z)
theorem PO.one(h:H p=some (IK u)):PO H [(p,u)]:=fun z hz=>by rw[cy.mp hz];exact h
theorem AA{zs:Zs}{i:Nat}(h:i<zs.length):(zs.map (·.1)).getD i 0=zs[i].1:=by
 rw[dS,bw,cr h];rfl
theorem C6(h:i<zs.length):(zp zs).getD i (0,0)=zs[i].2:=by
 unfold zp;rw[dS,bw,cr h];rfl
theorem yg{H:Hp}{zs:Zs}(ho:PO H zs){as:List Addr}(h:as.Perm (zs.map (·.1))):∃ES:Zs,ES.Perm zs/\as=ES.map (·.1):=by
 classical
 let f:Addr->Int×Int:=fun a=>match H a with
  |some (.tup [.int x,.int y])=>(x,y)
  |_=>(0,0)
 have e:(zs.map (·.1)).map (fun a=>(a,f a))=zs:=by
  rw[gC];conv=>rhs;rw[<-j4 zs]
  refine l3 fun z hz=>?_;have:=ho z hz;show (z.1,f z.1)=z;have e2:f z.1=z.2:=by
   show (match H z.1 with|some (.tup [.int x,.int y])=>(x,y)|_=>(0,0))=z.2;rw[this]
  rw[e2]
 refine⟨as.map fun a=>(a,f a),?_,?_⟩
 .have:=h.map (fun a=>(a,f a));rw[e] at this;exact this
 .rw[gC];exact(j4 as).symm
abbrev Ub(us:List (Int×Int)):Prop:=us=us
theorem C7{K:PySem.W.Frag}{H:Hp}{l:Addr}{zs:Zs}{Q:VK}(hl:H l=some (.lst (zr zs)))(ho:PO H zs)(hz:zs.length<=4096)(hb:∀u∈zp zs,0<=u.2/\u.2<64)(q:∀ (D:Addr) (ES:Zs),H D=none->ES.Perm zs->Ub (zp ES)->Q (.ref D) (upd H D (.lst (zr ES)))):Ai K [.ref l] H Q:=by
 refine⟨l,zs.map (·.1),rfl,bD.of (by rw[<-qA];exact hl),fun a ha=>?_,by rw[aT];exact hz,fun D tD hD hp=>?_⟩
 .obtain⟨z,hz,rfl⟩:=ck.mp ha;exact⟨_,_,cQ.of (ho z hz)⟩
 .obtain⟨ES,h1,rfl⟩:=yg ho hp;rw[<-qA];exact q D ES hD h1 rfl
theorem AB(F:Nat->Int×Int)(jK:St->Prop)(hD:H0 D=none)(hn:n<=100000)(h0:jK σB)(hs:∀i σ H (R:V->St->Hp->Prop) (Kf:St->Hp->Prop),i<n->jK σ->aF H0 H->(∀σ2 p,jK σ2->H p=none->R (.ref p) σ2 (upd H p (IK (F i))))->g (.int (lo+i)) σ H fun σ2 H2=>tt σ2 H2 fun b H3=>if b=true then te σ2 H3 fun v H4=>R v σ2 H4 else Kf σ2 H3)(hd:∀zs H,aF H0 H->H D=some (.lst (zr zs))->PO H zs->zp zs=(List.range n).map F->(∀z∈zs,H0 z.1=none)->eT H):iO (Es lo n) g tt te D eT σB (upd H0 D (.lst [])):=by
 refine dq (fun i ys σ H=>jK σ/\aF H0 H/\H D=some (.lst ys)/\∃zs:Zs,ys=zr zs/\PO H zs/\zp zs=(List.range i).map F/\∀z∈zs,H0 z.1=none) ⟨h0,aj hD,af,[],rfl,PO.nil,rfl,fun z hz=>nomatch hz⟩ ?_ ?_
 .rintro i ys σ H Kt Kf hi ⟨sh,sm,wP,zs,rfl,po,ep,fr⟩ kt kf;have hl:zs.length=i:=by rw[<-cW,ep,aT,iK]
  refine hs i σ H Kt Kf hi sh sm (fun σ2 p Pz hp=>?_)
  .have nD:D≠p:=ai wP hp;refine kt _ _ _ (by rw[ah nD];exact wP) (by rw[jd,hl];exact bK hi (bp hn (by decide))) ⟨Pz,cf (sm.trans (aj hp)) hD,af,zs++[(p,F i)],?_,?_,?_,?_⟩
   .rw[ku];rfl
   .refine PO.putL (xs:=zr zs) ?_ (by rw[ah nD];exact wP);exact(po.putN hp).append (PO.one af)
   .rw[kC,ep,jV,c_];rfl
   .intro z hz;rcases cE.mp hz with z'|z'
    .exact fr z z'
    .rw[cy.mp z'];exact sm.free hp
 .rintro ys σ H ⟨_,sm,wP,zs,rfl,po,ep,fr⟩;exact hd zs H sm wP po ep fr
theorem sJ{K:PySem.W.Frag}{a D:Addr}{BX:Zs}{g:TG}{tt:TT}{te:TE}{eT:Hp->Prop}{σB:St}{H0:Hp}(F:Int×Int->Int×Int)(jK:St->Prop)(ha:H0 a=some (.lst (zr BX)))(PD:PO H0 BX)(hD:H0 D=none)(hn:BX.length<=100000)(h0:jK σB)(hs:∀z σ H (R:V->St->Hp->Prop) (Kf:St->Hp->Prop),z∈BX->jK σ->aF H0 H->H z.1=some (IK z.2)->(∀σ2 p,jK σ2->H p=none->R (.ref p) σ2 (upd H p (IK (F z.2))))->g (.ref z.1) σ H fun σ2 H2=>tt σ2 H2 fun b H3=>if b=true then te σ2 H3 fun v H4=>R v σ2 H4 else Kf σ2 H3)(hd:∀zs H,aF H0 H->H D=some (.lst (zr zs))->PO H zs->zp zs=(zp BX).map F->(∀z∈zs,H0 z.1=none)->eT H):iO (Ep K a) g tt te D eT σB (upd H0 D (.lst [])):=by
 refine dU (xs:=zr BX) (fun i ys σ H=>jK σ/\aF H0 H/\H D=some (.lst ys)/\∃zs:Zs,ys=zr zs/\PO H zs/\zp zs=((zp BX).take i).map F/\∀z∈zs,H0 z.1=none) ⟨h0,aj hD,af,[],rfl,PO.nil,rfl,fun z hz=>nomatch hz⟩ (fun i ys σ H _ z=>bD.of (z.2.1 _ _ ha)) ?_ ?_
 .rintro i x ys σ H Kt Kf hx ⟨sh,sm,wP,zs,rfl,po,ep,fr⟩ kt kf;obtain⟨z,hz,rfl⟩:=vE hx;have hi:i<BX.length:=(dD.mp hz).1;have ET:z∈BX:=cX hz;have hl:zs.length=i:=by rw[<-cW,ep,aT,jT,cW];lia
  refine hs z σ H Kt Kf ET sh sm (sm _ _ (PD z ET)) (fun σ2 p Pz hp=>?_)
  .have nD:D≠p:=ai wP hp;refine kt _ _ _ (by rw[ah nD];exact wP) (by rw[jd,hl];exact bK hi (bp hn (by decide))) ⟨Pz,cf (sm.trans (aj hp)) hD,af,zs++[(p,F z.2)],?_,?_,?_,?_⟩
   .rw[ku];rfl
   .refine PO.putL (xs:=zr zs) ?_ (by rw[ah nD];exact wP);exact(po.putN hp).append (PO.one af)
   .have e2:(zp BX)[i]?=some z.2:=by unfold zp;rw[bw,hz];rfl
    rw[kC,ep,iJ,e2,Option.toList_some,c_];rfl
   .intro z hz;rcases cE.mp hz with z'|z'
    .exact fr z z'
    .rw[cy.mp z'];exact sm.free hp
 .rintro ys σ H ⟨_,sm,wP,zs,rfl,po,ep,fr⟩;rw[jd,<-cW,kR] at ep;exact hd zs H sm wP po ep fr
open iF
abbrev wQ:Stmt:=eL (top 40) 0
abbrev Gj:Stmt:=eL (top 40) 3
abbrev Gk:Stmt:=eL (top 40) 4
abbrev AC:Stmt:=eL (top 40) 6
abbrev vF:Stmt:=eL (top 40) 8
structure Er(K:PySem.W.Frag)(mg:Str->Option Value)(x:Str)(C:Addr):Prop where
 at_:mg x=some (.ref C)
 ok:jA K C
theorem WA:¬ (("house_count":Str)="tie_list"):=by decide +kernel
theorem WB:¬ (("house_count":Str)="out_lists"):=by decide +kernel
theorem WC:¬ (("house_count":Str)="distances"):=by decide +kernel
theorem WD:¬ (("out_lists":Str)="distances"):=by decide +kernel
def kD(n:Int)(tl ol ds:Addr):List (Str×V):=cp "distances" (.ref ds) (cp "out_lists" (.ref ol) (cp "tie_list" (.ref tl) (cp "house_count" (.int n) [])))
theorem C8(n:Int)(tl ol ds:Addr):(kD n tl ol ds).lookup ("house_count":Str)=some (.int n):=by
 unfold kD;rw[aU,am WC,aU,am WB,aU,am WA,aU,ao rfl]
theorem lM(n:Int)(tl ol ds:Addr){m:Str}(h1:¬ m="house_count")(h2:¬ m="tie_list")(h3:¬ m="out_lists")(h4:¬ m="distances"):(kD n tl ol ds).lookup m=none:=by
 unfold kD;rw[aU,am h4,aU,am h3,aU,am h2,aU,am h1];all_goals rfl
theorem wR(n:Int)(tl ol ds:Addr):(kD n tl ol ds).lookup ("out_lists":Str)=some (.ref ol):=by
 unfold kD;rw[aU,am WD,aU,ao rfl]
theorem wS(n:Int)(tl ol ds:Addr):(kD n tl ol ds).lookup ("distances":Str)=some (.ref ds):=by
 unfold kD;rw[aU,ao rfl]
def eX(H:Hp)(L:Addr->Prop)(l:Addr)(n:Nat)(r:Nat->List Nat):Prop:=∃bs:List Addr,H l=some (.lst (bs.map V.ref))/\(∀b∈bs,L b)/\Holds H bs n (fun h=>.lst (NV (r h)))
theorem eX.keep(R:eX H L l n r)(hl:L l)(k:∀b o,L b->H b=some o->H' b=some o):eX H' L l n r:=
 let ⟨bs,a,b,c⟩:=R
 ⟨bs,k _ _ hl a,b,c.mono fun j hj e=>k _ _ (b _ (by rw[dS,cr (by rw[c.1];exact hj)];exact jl _)) e⟩
theorem eX.row(R:eX H L l n r)(hh:h<n):∃ (bs:List Addr) (b:Addr),H l=some (.lst (bs.map V.ref))/\(bs.map V.ref)[h]?=some (V.ref b)/\H b=some (.lst (NV (r h)))/\L b:=by
 obtain⟨bs,a,b,c⟩:=R;have hl:h<bs.length:=by rw[c.1];exact hh
 refine⟨bs,bs[h],a,by rw[bw,cr hl];rfl,?_,b _ (jl _)⟩;have:=c.2 h hh;rw[dS,cr hl] at this;exact this
def C9(H:Hp)(L:Addr->Prop)(tl:Addr)(ts:Ts):Prop:=L tl/\∃zs:Zs,H tl=some (.lst (zr zs))/\PO H zs/\(∀z∈zs,L z.1)/\(zp zs).Perm ts/\Ub (zp zs)
theorem C9.keep(h:C9 H L tl ts)(k:∀b o,L b->H b=some o->H' b=some o):C9 H' L tl ts:=
 let ⟨a,zs,b,c,d,e⟩:=h;⟨a,zs,k _ _ a b,fun z hz=>k _ _ (d z hz) (c z hz),d,e⟩
structure b_(C:Addr)(H:Hp)(L:Addr->Prop)(p:Addr)(n:Nat)(ts:Ts):Prop where
 m_:ik n ts
 ob:∃dx tl ol ds,H p=some (.ins C dx (kD n tl ol ds))/\L ol/\L ds/\eX H L ol n (dt n ts)/\eX H L ds n (fun h=>(List.range n).map (far ts h))/\C9 H L tl ts
theorem b_.keep(N:b_ C H L p n ts)(k:∀b o,L b->H b=some o->H' b=some o)(kp:∀o,H p=some o->H' p=some o):b_ C H' L p n ts:=
 let ⟨dx,tl,ol,ds,a,l1,l2,b,c,d⟩:=N.ob
 ⟨N.m_,dx,tl,ol,ds,kp _ a,l1,l2,b.keep l1 k,c.keep l2 k,d.keep k⟩
theorem b_.same(N:b_ C H L p n ts)(s:aF H H'):b_ C H' L p n ts:=N.keep (fun b o _ e=>s b o e) (fun o e=>s _ o e)
structure NT(K:PySem.W.Frag)(mg:Str->Option Value)(C:Addr):Prop where
 cl:xy K C
 nH:eU K C "house_count"
 nT:eU K C "tie_list"
 nO:eU K C "out_lists"
 nD:eU K C "distances"
 KC:mg "Net"=some (.ref C)
structure e_(P:Program)(w:World)(K:PySem.W.Frag)(mg:Str->Option Value)(base:Heap)(CX:qZ)(k:Nat)(C:Addr)(x:Str)(ps:List Str)(sp:Sp):Prop where
 ex:∃f fd,FH K C x f/\fV K fd ps []/\a9 P w K mg base CX k f fd ps sp
section
variable {P:Program} {w:World} {K:PySem.W.Frag} {mg:Str->Option Value} {base:Heap}
theorem C_:aE ["self","thing"] ["self","thing"] (al vF):=⟨rfl,rfl,rfl,by decide +kernel,rfl,by decide +kernel,by decide +kernel⟩
theorem yh{i n:Nat}(h:i<n):fF (some (i:Int)) 0 ((n:Int)-1)=true:=by unfold fF;simp;lia
def jL(C:Addr):Sp:=fun vs H Q _=>∃ (L:Addr->Prop) (p:Addr) (n:Nat) (ts:Ts) (i:Nat),vs=[.ref p,.int i]/\b_ C H L p n ts/\i<n/\Q .bH H
theorem yi{f C:Addr}{fd:FuncData}(F:fJ K "check_house" "Net.check_house" vF f fd)(T:NT K mg C)(HH:dA P w K mg base be 3 "is_house" ["many","thing"] (lL K)):
  a9 P w K mg base be 4 f fd ["self","thing"] (jL C):=by
 refine F.ok C_ (fun vs H Q E h=>?_) (fun dg A outer s H vs Q E hr h=>?_)
 .obtain⟨L,p,n,ts,i,rfl,_⟩:=h;rfl
 .obtain⟨L,p,n,ts,i,rfl,N,hi,k⟩:=h;obtain⟨dx,tl,ol,ds,h1,_⟩:=N.ob;refine⟨_,ap (cG (dh (cm (aJ HH hr aM (aa (fA (pv 0) rfl) (aa (pv 1) ag))))) bL br),?_⟩;refine⟨_,rfl,p,C,dx,_,_,rfl,h1,T.cl,T.nH,C8 _ _ _ _,_,rfl,_,some (i:Int),n,rfl,.int _,_,rfl,?_⟩;rw[yh hi];exact fZ k
theorem Gm(n:Int)(tl ol ds:Addr):(kD n tl ol ds).lookup ("check_house":Str)=none:=lM n tl ol ds (by decide +kernel) (by decide +kernel) (by decide +kernel) (by decide +kernel)
theorem PF(n:Int)(tl ol ds:Addr):(kD n tl ol ds).lookup ("far":Str)=none:=lM n tl ol ds (by decide +kernel) (by decide +kernel) (by decide +kernel) (by decide +kernel)
theorem cK:(NV xs).length=xs.length:=aT _
theorem KD:aE ["self","house"] ["self","house"] (al Gj):=⟨rfl,rfl,rfl,by decide +kernel,rfl,by decide +kernel,by decide +kernel⟩
def vG(C:Addr):Sp:=fun vs H Q _=>∃ (L:Addr->Prop) (p:Addr) (n:Nat) (ts:Ts) (i:Nat),vs=[.ref p,.int i]/\b_ C H L p n ts/\i<n/\∀r H',aF H H'->H r=none->H' r=some (.lst (NV (dt n ts i)))->Q (.ref r) H'
theorem Da(F:fJ K "out" "Net.out" Gj f fd)(T:NT K mg C)(B:Bl mg)(M:e_ P w K mg base be 4 C "check_house" ["self","thing"] (jL C)):
  a9 P w K mg base be 5 f fd ["self","house"] (vG C):=by
 obtain⟨fM,Uc,mM,bM,GM⟩:=M.ex;refine F.ok KD (fun vs H Q E h=>?_) (fun dg A outer s H vs Q E hr h=>?_)
 .obtain⟨L,p,n,ts,i,rfl,_⟩:=h;rfl
 .obtain⟨L,p,n,ts,i,rfl,N,hi,k2⟩:=h;obtain⟨dx,tl,ol,ds,h1,_,_,R,_⟩:=N.ob;refine⟨_,ak (df (cS (pv 0) T.cl mM GM hr bM .nil aM (aa (pv 1) ag)))
   (ap (aY (dw jy (by rfl) B.lst tV (aa (bY bv (fA (pv 0) rfl) (pv 1) (fun _ _=>rfl)) ag)))),?_⟩
  refine⟨_,rfl,p,dx,_,rfl,h1,Gm _ _ _ _,_,rfl,L,p,n,ts,i,rfl,N,hi,?_⟩;obtain⟨bs,b,r1,r2,r3,_⟩:=R.row hi;exact⟨_,rfl,p,C,dx,_,_,rfl,h1,T.cl,T.nO,wR _ _ _ _,_,rfl,ol,_,_,_,rfl,rfl,bD.of r1,aO r2,b,_,rfl,.inl (bD.of r3),fun l hl=>k2 l _ (aj hl) hl af⟩
theorem KE:aE ["self","one","other"] ["self","one","other"] (al Gk):=⟨rfl,rfl,rfl,by decide +kernel,rfl,by decide +kernel,by decide +kernel⟩
def vH(C:Addr):Sp:=fun vs H Q _=>∃ (L:Addr->Prop) (p:Addr) (n:Nat) (ts:Ts) (i j:Nat),vs=[.ref p,.int i,.int j]/\b_ C H L p n ts/\i<n/\j<n/\Q (.int (far ts i j:Nat)) H
theorem Db(F:fJ K "far" "Net.far" Gk f fd)(T:NT K mg C)(M:e_ P w K mg base be 4 C "check_house" ["self","thing"] (jL C)):
  a9 P w K mg base be 5 f fd ["self","one","other"] (vH C):=by
 obtain⟨fM,Uc,mM,bM,GM⟩:=M.ex;refine F.ok KE (fun vs H Q E h=>?_) (fun dg A outer s H vs Q E hr h=>?_)
 .obtain⟨L,p,n,ts,i,j,rfl,_⟩:=h;rfl
 .obtain⟨L,p,n,ts,i,j,rfl,N,hi,hj,k⟩:=h;obtain⟨dx,tl,ol,ds,h1,_,_,_,R,_⟩:=N.ob;refine⟨_,ak (df (cS (pv 0) T.cl mM GM hr bM .nil aM (aa (pv 1) ag)))
   (ak (df (cS (pv 0) T.cl mM GM hr bM .nil aM (aa (pv 2) ag)))
   (ap (aY (bY bv (bY bv (fA (pv 0) rfl) (pv 1) (fun _ _=>rfl)) (pv 2) (fun _ _=>rfl))))),?_⟩
  refine⟨_,rfl,p,dx,_,rfl,h1,Gm _ _ _ _,_,rfl,L,p,n,ts,i,rfl,N,hi,?_⟩;refine⟨_,rfl,p,dx,_,rfl,h1,Gm _ _ _ _,_,rfl,L,p,n,ts,j,rfl,N,hj,?_⟩;obtain⟨bs,b,r1,r2,r3,_⟩:=R.row hi;have hg:(NV ((List.range n).map (far ts i)))[j]?=some (.int (far ts i j:Nat)):=by
   rw[bw,bw,uc hj];rfl
  exact⟨_,rfl,p,C,dx,_,_,rfl,h1,T.cl,T.nD,wS _ _ _ _,_,rfl,ds,_,_,_,rfl,rfl,bD.of r1,aO r2,_,rfl,b,_,_,_,rfl,rfl,bD.of r3,aO hg,k⟩
end
open PySem L2 iF
abbrev vJ:Stmt:=top 41
abbrev Gn:Stmt:=top 42
abbrev Go:Stmt:=top 43
section
variable {P:Program} {w:World} {K:PySem.W.Frag} {mg:Str->Option Value} {base:Heap}
abbrev Gp:Stmt:=top 19
theorem KG:aE ["many","one","other"] ["many","one","other"] (al Gp):=⟨rfl,rfl,rfl,by decide +kernel,rfl,by decide +kernel,by decide +kernel⟩
def AD:Sp:=fun vs H Q _=>∃ (n a b:Int),vs=[.int n,.int a,.int b]/\0<=a/\a<n/\0<=b/\b<n/\a≠b/\Q (.bl true) H
theorem Gq(F:fJ K "are_unlike_houses" "are_unlike_houses" Gp f fd)(HH:dA P w K mg base be 3 "is_house" ["many","thing"] (lL K)):
  a9 P w K mg base be 4 f fd ["many","one","other"] AD:=by
 refine F.ok KG (fun vs H Q E h=>?_) (fun dg A outer s H vs Q E hr h=>?_)
 .obtain⟨n,a,b,rfl,_⟩:=h;rfl
 .obtain⟨n,a,b,rfl,a1,a2,b1,b2,jQ,k⟩:=h;refine⟨_,ap (aY (j7 (aJ HH hr aM (aa (pv 0) (aa (pv 1) ag))) (j7 (aJ HH hr aM (aa (pv 0) (aa (pv 2) ag))) (my (iy kW (pv 1) (pv 2) (bB _)))))),?_⟩;refine⟨_,rfl,_,rfl,_,_,n,rfl,.int a,_,rfl,?_⟩;rw[ao (show fF (some a) 0 (n-1)=true by unfold fF;simp;lia)];refine⟨_,rfl,_,rfl,_,_,n,rfl,.int b,_,rfl,?_⟩;rw[ao (show fF (some b) 0 (n-1)=true by unfold fF;simp;lia)];refine⟨_,rfl,_,rfl,rfl,?_⟩;have e:(!decide (V.int a=V.int b))=true:=by simp[jQ]
  rw[e];exact k
theorem KH:aE ["many","thing"] ["many","thing"] (al Gn):=⟨rfl,rfl,rfl,by decide +kernel,rfl,by decide +kernel,by decide +kernel⟩
def AE:Sp:=fun vs H Q _=>∃ (n:Int) (p:Addr) (a b:Int),vs=[.int n,.ref p]/\H p=some (.tup [.int a,.int b])/\0<=a/\a<n/\0<=b/\b<n/\a≠b/\Q (.bl true) H
theorem Gr(F:fJ K "is_tie" "is_tie" Gn f fd)(R:dA P w K mg base be 1 "is_row" ["thing","length"] (Az K))(U:dA P w K mg base be 4 "are_unlike_houses" ["many","one","other"] AD):
  a9 P w K mg base be 5 f fd ["many","thing"] AE:=by
 refine F.ok KH (fun vs H Q E h=>?_) (fun dg A outer s H vs Q E hr h=>?_)
 .obtain⟨n,p,a,b,rfl,_⟩:=h;rfl
 .obtain⟨n,p,a,b,rfl,hp,a1,a2,b1,b2,jQ,k⟩:=h;refine⟨_,ap (aY (j7 (aJ R (hr.mono (by decide)) aM (aa (pv 1) (aa aw ag)))
   (my (aJ U hr aM (aa (pv 0) (aa (bY h_ (pv 1) aw (fun _ _=>rfl)) (aa (bY h_ (pv 1) aw (fun _ _=>rfl)) ag))))))),?_⟩
  refine⟨_,rfl,_,_,_,rfl,.tup hp,true,rfl,?_⟩;exact⟨_,rfl,_,rfl,p,_,_,_,rfl,rfl,cQ.of hp,aO (j:=0) rfl,_,rfl,p,_,_,_,rfl,rfl,cQ.of hp,aO (j:=1) rfl,n,a,b,rfl,a1,a2,b1,b2,jQ,k⟩
theorem wT:aE ["many","ties","tie"] ["many","ties"] (al vJ):=⟨rfl,rfl,rfl,by decide +kernel,rfl,by decide +kernel,by decide +kernel⟩
theorem AF:PySem.W.kitOne K (.type "list") (.type "list")=some true:=by kernel_rfl
structure eE(H:Hp)(l:Addr)(n:Nat)(zs:Zs):Prop where
 m_:ik n (zp zs)
 at_:H l=some (.lst (zr zs))
 po:PO H zs
theorem eE.same(h:eE H l n zs)(s:aF H H'):eE H' l n zs:=⟨h.m_,s _ _ h.at_,h.po.same s⟩
def iC:Sp:=fun vs H Q _=>∃ (n:Nat) (l:Addr) (zs:Zs),vs=[.int n,.ref l]/\eE H l n zs/\∀H',aF H H'->Q .bH H'
theorem AG(F:fJ K "check_ties" "check_ties" vJ f fd)(B:Bl mg)(gF:∃t,mg "FEWEST_HOUSES"=some (.int 2 t))(gM:∃t,mg "MOST_HOUSES"=some (.int 32 t))(W:dA P w K mg base be 2 "is_whole_within" ["thing","least","most"] (jJ K))(T:dA P w K mg base be 5 "is_tie" ["many","thing"] AE):
  a9 P w K mg base be 6 f fd ["many","ties"] iC:=by
 obtain⟨tF,gF⟩:=gF;obtain⟨tM,gM⟩:=gM;refine F.ok wT (fun vs H Q E h=>?_) (fun dg A outer s H vs Q E hr h=>?_)
 .obtain⟨n,l,zs,rfl,_⟩:=h;rfl
 .refine⟨_,ak (cG (dh (cm (aJ W (hr.mono (by decide)) aM (aa (pv 0) (aa (bi (v:=.int 2) rfl gF ⟨_,rfl⟩) (aa (bi (v:=.int 32) rfl gM ⟨_,rfl⟩) ag)))))) bL br)
   (ak (cG (dh (cm (au eV (by rfl) B.rc dM (aa (pv 1) (aa (gf (v:=.ty "list") rfl B.lst tV rfl) ag))))) bL br)
   (ak (hW jn rfl (cn (pv 1)) (aD (i:=2) wT.nd rfl (Or.inl rfl)) (ap (cG (dh (cm (aJ T hr aM (aa (pv 0) (aa (pv 2) ag))))) bL br)))
   (ap (cG (bu kW (au rZ (by rfl) B.len eF (aa (dw (xO rfl (by have:=hr.un;show (A.deeper _).units+8<_;lia)) (by rfl) B.set PyProof.Rows.boot_set (aa (pv 1) ag)) ag)) (au aP (by rfl) B.len eF (aa (pv 1) ag)) (bB _)) bL br)))),?_⟩
  obtain⟨n,l,zs,rfl,tt,k⟩:=h;obtain⟨fi,hl,po⟩:=id tt;have n1:=fi.n1;have n2:=fi.n2;refine⟨_,rfl,_,_,2,32,rfl,.int n,_,rfl,?_⟩;rw[show fF (some (n:Int)) 2 32=true by unfold fF;simp;lia];refine fZ ?_;refine⟨_,rfl,_,_,_,.type "list",true,rfl,⟨rfl,AF⟩,.of (.lst hl),_,rfl,fZ ?_⟩;refine⟨_,rfl,l,rfl,⟨_,bD.of hl⟩,hX (K:=K) (a:=l) (xs:=zr zs) (fun i σ H2=>H2=H/\∃v,σ=[some (.int n),some (.ref l),v]) ⟨rfl,none,rfl⟩ (fun i σ H2 _ ⟨e,_⟩=>by rw[e];exact bD.of hl) ?_ ?_⟩
  .rintro i x σ H2 hx ⟨rfl,v,rfl⟩;obtain⟨z,hz,rfl⟩:=vE hx;have ET:z∈zs:=cX hz;have Ud:z.2∈zp zs:=ck.mpr ⟨z,ET,rfl⟩;have r:=fi.rg _ Ud;exact⟨_,rfl,_,rfl,n,_,_,_,rfl,po z ET,r.1.1,r.1.2,r.2.1,r.2.2,fi.ne _ Ud,_,rfl,fZ ⟨rfl,_,rfl⟩⟩
  .rintro σ H2 ⟨rfl,v,rfl⟩;have dC:(zp zs).length<=256:=fi.len;refine⟨_,rfl,l,zs.map (·.1),zp zs,rfl,bD.of (by rw[<-qA];exact hl),by rw[aT,cW],fun i hi=>?_,fi.nd,fun y hy=>?_,by lia,fun D hD=>?_⟩
   .rw[cW] at hi;rw[AA hi,C6 hi];exact cQ.of (po _ (jl hi))
   .have r:=fi.rg _ hy;lia
   .have nl:l≠D:=ai hl hD;refine⟨D,_,rfl,af,by lia,_,rfl,l,zr zs,rfl,.inl (bD.of (by rw[ah nl];exact hl)),rfl,_,rfl,?_⟩;have ez:(!decide (V.int (((zp zs).length:Nat):Int)=V.int (((zr zs).length:Nat):Int)))=false:=by rw[cW,jd];simp
    rw[ez];exact fZ (k _ (aj hD))
end
abbrev sK:Stmt:=top 44
section
variable {P:Program} {w:World} {K:PySem.W.Frag} {mg:Str->Option Value} {base:Heap}
theorem kE(S:St->Prop)(p q:Int×Int->Int)(h:Int)(hD:H D=none)(hl:H l=some (.lst (zr zs)))(po:PO H zs)(hn:zs.length<=1000)(s0:S σB)(hg:∀z σ H2 (Kt:V->St->Hp->Prop) (Kf:St->Hp->Prop),z∈zs->S σ->H2 z.1=some (IK z.2)->(∀σ2,S σ2->p z.2=h->Kt (.int (q z.2)) σ2 H2)->(∀σ2,S σ2->p z.2≠h->Kf σ2 H2)->
   g (.ref z.1) σ H2 fun σ2 H2=>tt σ2 H2 fun b H3=>if b=true then te σ2 H3 fun v H4=>Kt v σ2 H4 else Kf σ2 H3)(hd:eT (upd H D (.lst (IV (((zp zs).filter fun y=>decide (p y=h)).map q))))):iO (Ep K l) g tt te D eT σB (upd H D (.lst [])):=by
 have nl:l≠D:=ai hl hD;have tk:∀ {i:Nat} {z:Addr×(Int×Int)},zs[i]?=some z->(zp zs).take (i+1)=(zp zs).take i++[z.2]:=fun {i z} hz=>by
  rw[iJ,show (zp zs)[i]?=some z.2 by unfold zp;rw[bw,hz];rfl];rfl
 refine dU (xs:=zr zs) (fun i ys σ H2=>S σ/\ys=IV ((((zp zs).take i).filter fun y=>decide (p y=h)).map q)/\H2=upd H D (.lst ys)) ⟨s0,by simp,rfl⟩ (fun i ys σ H2 _ ⟨_,_,e⟩=>by rw[e];exact bD.of (by rw[ah nl];exact hl)) ?_ ?_
 .rintro i x ys σ H2 Kt Kf hx ⟨hS,ey,rfl⟩ kt kf;obtain⟨z,hz,rfl⟩:=vE hx;have ET:z∈zs:=cX hz;have hp:=po z ET;have na:z.1≠D:=ai hp hD;have hi:i<zs.length:=(dD.mp hz).1;refine hg z σ _ Kt Kf ET hS (by rw[ah na];exact hp) (fun σ2 s2 e=>?_) (fun σ2 s2 e=>?_)
  .refine kt _ _ _ af ?_ ⟨s2,?_,?_⟩
   .rw[ey,aT,aT];exact jj (lQ _ _) (jj (ua _ _) (bK (show i<1000 by lia) (by decide)))
   .rw[ey,tk hz,lV,c_];have:decide (p z.2=h)=true:=by simp[e]
    simp[gR,this]
   .rw[jr]
  .refine kf _ _ ⟨s2,?_,rfl⟩;have:decide (p z.2=h)=false:=by simp[e]
   rw[ey,tk hz,lV];simp[gR,this]
 .rintro ys σ H2 ⟨_,ey,rfl⟩;rw[jd,<-cW,kR] at ey;rw[ey];exact hd
theorem IL:(["one","other","house"]:List Str).Nodup:=by decide +kernel
theorem wU:aE ["many","ties","house","leading_out","leading_in"] ["many","ties"] (al Go):=⟨rfl,rfl,rfl,by decide +kernel,rfl,by decide +kernel,by decide +kernel⟩
theorem Gs(F:fJ K "check_balance" "check_balance" Go f fd)(B:Bl mg)(gM:∃t,mg "MOST_TIES_OUT"=some (.int 8 t)):
  a9 P w K mg base be 1 f fd ["many","ties"] iC:=by
 obtain⟨tM,gM⟩:=gM;refine F.ok wU (fun vs H Q E h=>?_) (fun dg A outer s H vs Q E hr h=>?_)
 .obtain⟨n,l,zs,rfl,_⟩:=h;rfl
 .obtain⟨n,l,zs,rfl,T,k⟩:=h;have fi:=T.m_;have n1:=fi.n1;have n2:=fi.n2;have dC:zs.length<=256:=by have:=fi.len;rw[cW] at this;exact this
  refine'⟨_,ap (hW jn rfl (cR rfl B.range (aa (pv 0) ag)) (aD (i:=2) wU.nd rfl (Or.inr rfl))
   (ak (bj (i:=3) wU.nd rfl (Or.inl rfl) (au aP (by rfl) B.len eF (aa ?c1 ag)))
   (ak (bj (i:=4) wU.nd rfl (Or.inl rfl) (au aP (by rfl) B.len eF (aa ?c2 ag)))
   (ak (cG (bu kW (pv 3) (pv 4) (bB _)) bL br)
   (ap (cG (bu Eu (pv 3) (bi (v:=.int 8) rfl gM ⟨_,rfl⟩) (bB _)) bL br)))))),?_⟩
  case c1=>
   refine' cA (g:=uI K 2 (fU (bA 0) (fU (bA 1) uH))) (NB:=["one","other","house"]) (src:=[none,none,some 2]) (bz (by kernel_rfl)) rfl (cn (pv 1)) ?g ?t ?e;case g=>exact fun cl C s₃ H₃ fp=>fz (n:=2) rfl (a_ (aD (i:=0) IL rfl (Or.inl rfl) (Or.inr rfl)) (a_ (aD (i:=1) IL rfl (Or.inl rfl) (Or.inr rfl)) dX))
   case t=>exact fun cl C s₃ H₃ fp=>iA (bu jv (pv 0) (pv 2) (bB _))
   case e=>exact fun cl C s₃ H₃ fp=>pv 0
  case c2=>
   refine' cA (g:=uI K 2 (fU (bA 0) (fU (bA 1) uH))) (NB:=["one","other","house"]) (src:=[none,none,some 2]) (bz (by kernel_rfl)) rfl (cn (pv 1)) ?g ?t ?e;case g=>exact fun cl C s₃ H₃ fp=>fz (n:=2) rfl (a_ (aD (i:=0) IL rfl (Or.inl rfl) (Or.inr rfl)) (a_ (aD (i:=1) IL rfl (Or.inl rfl) (Or.inr rfl)) dX))
   case t=>exact fun cl C s₃ H₃ fp=>iA (bu jv (pv 1) (pv 2) (bB _))
   case e=>exact fun cl C s₃ H₃ fp=>pv 1
  refine⟨_,rfl,n,rfl,by lia,by lia,oH (n:=n) (lo:=0) (fun i σ H2=>aF H H2/\∃a b c,σ=[some (.int n),some (.ref l),a,b,c]) ⟨aF.refl _,none,none,none,rfl⟩ ?_ ?_⟩
  .rintro i σ H2 hi ⟨sm,a,b,c,rfl⟩;have T2:=T.same sm;refine⟨_,rfl,l,rfl,⟨_,bD.of T2.at_⟩,fun D hD=>kE (fun σ=>∃a b,σ=[a,b,some (.int (0+(i:Int)))]) (·.1) (·.1) (0+(i:Int)) hD T2.at_ T2.po (by lia) ⟨_,_,rfl⟩ ?_ ?_⟩
   .rintro z σ H3 Kt Kf hj ⟨x,y,rfl⟩ ha kt kf;refine⟨z.1,_,rfl,cQ.of ha,rfl,_,_,rfl,_,_,rfl,rfl,?_⟩;refine⟨_,rfl,_,rfl,rfl,_,rfl,?_⟩;refine oh (fun e=>?_) (fun e=>?_)
    .exact⟨_,rfl,kt _ ⟨_,_,rfl⟩ (by simpa using e)⟩
    .exact kf _ ⟨_,_,rfl⟩ (by simpa using e)
   .refine⟨D,_,rfl,.inl (bD.of af),?_⟩;have BW:=cf (o:=.lst (IV (((zp zs).filter fun y=>decide (y.1=0+(i:Int))).map (·.1)))) (sm.trans (aF.refl _)) (H:=H) (by cases z:H D with|none=>rfl|some o=>rw[sm _ _ z] at hD;cases hD);have T3:=T.same BW;refine⟨_,rfl,l,rfl,⟨_,bD.of T3.at_⟩,fun D' Ue=>kE (fun σ=>∃a b,σ=[a,b,some (.int (0+(i:Int)))]) (·.2) (·.2) (0+(i:Int)) Ue T3.at_ T3.po (by lia) ⟨_,_,rfl⟩ ?_ ?_⟩
    .rintro z σ H3 Kt Kf hj ⟨x,y,rfl⟩ ha kt kf;refine⟨z.1,_,rfl,cQ.of ha,rfl,_,_,rfl,_,_,rfl,rfl,?_⟩;refine⟨_,rfl,_,rfl,rfl,_,rfl,?_⟩;refine oh (fun e=>?_) (fun e=>?_)
     .exact⟨_,rfl,kt _ ⟨_,_,rfl⟩ (by simpa using e)⟩
     .exact kf _ ⟨_,_,rfl⟩ (by simpa using e)
    .refine⟨D',_,rfl,.inl (bD.of af),?_⟩;rw[gU] at *;have q1:(IV (((zp zs).filter fun y=>decide (y.1=(i:Int))).map (·.1))).length=(IV (((zp zs).filter fun y=>decide (y.2=(i:Int))).map (·.2))).length:=by
      rw[aT,aT,aT,aT];exact fi.Nn i
     have q2:(IV (((zp zs).filter fun y=>decide (y.1=(i:Int))).map (·.1))).length<=8:=by
      rw[aT,aT];exact fi.most i
     refine⟨_,rfl,_,rfl,rfl,_,rfl,?_⟩;rw[<-q1];rw[show (!decide (V.int (((IV (((zp zs).filter fun y=>decide (y.1=(i:Int))).map (·.1))).length:Nat):Int)=V.int (((IV (((zp zs).filter fun y=>decide (y.1=(i:Int))).map (·.1))).length:Nat):Int)))=false by simp];refine fZ ?_;refine⟨_,rfl,_,_,rfl,rfl,_,rfl,?_⟩;rw[show decide ((((IV (((zp zs).filter fun y=>decide (y.1=(i:Int))).map (·.1))).length:Nat):Int) > 8)=false by rw[decide_eq_false_iff_not];lia];exact fZ ⟨BW.trans (aj Ue),_,_,_,rfl⟩
  .rintro σ H2 ⟨sm,a,b,c,rfl⟩;exact k H2 sm
end
def Dd:Expr:=match (aX sK).getD 1 (.Pass ⟨0,0,0,0⟩) with
 |.Return (some (.Call _ _ (k::_) _)) _=>k.value
 |_=>.Name "x" ⟨0,0,0,0⟩
def De:Arguments:=match Dd with
 |.Lambda a _ _ _=>a
 |_=>{ posonlyargs:=[],args:=[],vararg:=none,kwonlyargs:=[],kw_defaults:=[],kwarg:=none,defaults:=[] }
def Df:Expr:=match Dd with
 |.Lambda _ b _ _=>b
 |e=>e
def KI:Scope:=match Dd with
 |.Lambda _ _ s _=>s
 |_=>{ kind:=.function,names:=[],isGenerator:=false,isCoroutine:=false }
def Gu:Pos:=match Dd with
 |.Lambda _ _ _ p=>p
 |_=>⟨0,0,0,0⟩
def EU:Str:=("houses_out":Str)++".<locals>."++"<lambda>"
abbrev ng(Pt:Addr)(H:Hp):Prop:=cw Gu EU Pt H
def iT(Pt:Addr)(H H':Hp):Prop:=∀b o,H b=some o->b≠Pt->H' b=some o
theorem iT.of(a:aF H H'):iT Pt H H':=fun c o h _=>a c o h
theorem ng.not(t:ng Pt H)(h:H b=some o)(n:∀ps,o≠.de ps):b≠Pt:=by
 rintro rfl;rcases t with z|⟨c,z,_⟩ <;> · rw[h] at z;exact n _ (bh z)
theorem ng.same(t:ng Pt H)(e:aF H H'):ng Pt H':=by
 rcases t with z|⟨c,z,y⟩
 .exact .inl (e _ _ z)
 .exact .inr ⟨c,e _ _ z,e _ _ y⟩
theorem Dg{n a b h:Int}(hn:0<n)(a0:0<=a)(a1:a<n)(b0:0<=b)(b1:b<n)(e:(a-h) % n=(b-h) % n):a=b:=by
 have h1:=Int.emod_emod_of_dvd (a-h) (Int.dvd_refl n);have q:(a-b) % n=0:=by
  have:a-b=(a-h)-(b-h):=by lia
  rw[this,Int.sub_emod,e,Int.sub_self,Int.zero_emod]
 obtain⟨c,hc⟩:=Int.dvd_of_emod_eq_zero q;have c0:c=0:=by
  rcases Int.lt_trichotomy c 0 with z|z|z
  .have:n*c<=n*(-1):=yL (by lia) (by lia);lia
  .exact z
  .have:n*1<=n*c:=yL (by lia) (by lia);lia
 rw[c0] at hc;lia
theorem oq{ts:Ts}{h:Int}(nd:ts.Nodup):((ts.filter fun y=>decide (y.1=h)).map (·.2)).Nodup:=by
 refine L2.km (nd.filter _) fun x hx y hy e=>?_;have a:=(iL.mp hx).2;have b:=(iL.mp hy).2;simp at a b;exact Prod.ext (a.trans b.symm) e
theorem yj{n:Nat}{ts:Ts}{h:Nat}(F:ik n ts)(hh:h<n){out:List Int}(ko:F4 (h:Int) (n:Int) ((ts.filter fun y=>decide (y.1=(h:Int))).map (·.2)) out):out.map V.int=NV (dt n ts h):=by
 obtain⟨ps,hp,rfl,hs⟩:=ko;have xS:(ps.map (·.2)).Perm ((ts.filter fun y=>decide (y.1=(h:Int))).map (·.2)):=by
  have:=hp.map (·.2);rw[gC] at this;refine this.trans (pT ?_);conv=>rhs;rw[<-j4 ((ts.filter fun y=>decide (y.1=(h:Int))).map (·.2))]
  rfl
 have mem:∀z,z∈ps.map (·.2)↔((h:Int),z)∈ts:=fun z=>by
  rw[xS.mem_iff,ck];constructor
  .rintro⟨y,hy,rfl⟩;obtain⟨y1,y2⟩:=iL.mp hy;have:y.1=(h:Int):=by simpa using y2
   rw[<-this];exact y1
  .intro hz;exact⟨_,iL.mpr ⟨hz,by simp⟩,rfl⟩
 have nd:(ps.map (·.2)).Nodup:=xS.nodup_iff.mpr (oq F.nd);have key:∀q∈ps,q.1=(q.2-(h:Int)) % (n:Int):=fun q hq=>by
  obtain⟨z,_,e⟩:=ck.mp (hp.mem_iff.mp hq);rw[<-e]
 have hn:(0:Int)<n:=by have:=F.n1;lia
 have sorted:(ps.map (·.2)).Pairwise fun x y=>(x-(h:Int)) % (n:Int)<(y-(h:Int)) % (n:Int):=by
  refine l5.mpr ?_;have WE:=l5.mp nd;refine(hs.and WE).imp_of_mem fun {x y} hx hy Nm=>?_;have l1:=Nm.1;rw[key x hx,key y hy] at l1;have ax:=F.rg _ ((mem x.2).mp (ck.mpr ⟨x,hx,rfl⟩));have ay:=F.rg _ ((mem y.2).mp (ck.mpr ⟨y,hy,rfl⟩));have ne:(x.2-(h:Int)) % (n:Int)≠(y.2-(h:Int)) % (n:Int):=fun z=>Nm.2 (Dg hn ax.2.1 ax.2.2 ay.2.1 ay.2.2 z);lia
 have e:ps.map (·.2)=(dt n ts h).map fun (o:Nat)=>(o:Int):=by
  refine k7 (k:=fun z=>(z-(h:Int)) % (n:Int)) sorted ?_ fun z=>?_
  .refine l5.mpr ?_;exact sv hh
  .rw[mem,ck];constructor
   .intro hz;have r:=F.rg _ hz;refine⟨z.toNat,(il F hh).mpr ?_,by lia⟩;show (((h:Nat):Int),((z.toNat:Nat):Int))∈ts;rw[show ((z.toNat:Nat):Int)=z by lia];exact hz
   .rintro⟨o,ho,rfl⟩;exact(il F hh).mp ho
 rw[e,gC];rfl
section
variable {P:Program} {w:World} {K:PySem.W.Frag} {mg:Str->Option Value} {base:Heap}
theorem AH:aE ["many","ties","house","others"] ["many","ties","house"] (al sK):=⟨rfl,rfl,rfl,by decide +kernel,rfl,by decide +kernel,by decide +kernel⟩
def qB(Pt:Addr):Sp:=fun vs H Q _=>∃ (n:Nat) (l:Addr) (h:Nat) (zs:Zs),vs=[.int n,.ref l,.int h]/\h<n/\eE H l n zs/\ng Pt H/\
 ∀ (r:Addr) (H':Hp),ng Pt H'->iT Pt H H'->H r=none->H' r=some (.lst (NV (dt n (zp zs) h)))->Q (.ref r) H'
theorem Dh(F:lu K "houses_out" "houses_out" sK f fd c)(B:Bl mg)(kb:K.In base)(hb:ln mg base)(hc:PySem.W.codeHdIn K c Pt=true):
  a9 P w K mg base be 1 f fd ["many","ties","house"] (qB Pt):=by
 refine F.ok AH (fun vs H Q E h=>?_) (fun A outer s H vs Q E hr h=>?_)
 .obtain⟨n,l,h,zs,rfl,_⟩:=h;rfl
 .obtain⟨n,l,h,zs,rfl,hh,T,tb,k⟩:=h;have fi:=T.m_;have n1:=fi.n1;have dC:zs.length<=256:=by have:=fi.len;rw[cW] at this;exact this
  have LS:J7 (gJ be P w K mg base ["many","ties","house","others"] "houses_out" (al sK) f (.ref c) A outer s H E).BL EU De Df KI "other" "house" "many" 2 0:=
   ⟨⟨_,_,_,_,_,rfl⟩,fun _ _ _ _ _=>rfl,rfl,rfl,rfl,rfl,rfl,rfl,rfl,by decide +kernel,by decide +kernel,by decide +kernel,rfl,rfl,rfl,by decide,⟨by decide,by decide⟩,⟨by decide,by decide⟩⟩
  refine'⟨_,ak (dk (i:=3) (g:=uI K 2 (fU (bA 0) (fU (bA 1) uH))) (NB:=["one","other","house"]) (src:=[none,none,some 2]) (bz (by kernel_rfl)) rfl (cn (pv 1)) ?g ?t ?e AH.nd rfl rfl rfl)
   (ap (aY (o4 (vm LS hr) rfl B.sorted tP (aa (pv 3) ag) (v8 (vi (NB:=["other","house","many"]) (src:=[none,some 2,some 0]) (jF kb hb hc) (bz (by kernel_rfl))) zy)))),?_⟩
  case g=>exact fun cl C s₃ H₃ fp=>fz (n:=2) rfl (a_ (aD (i:=0) IL rfl (Or.inl rfl) (Or.inr rfl)) (a_ (aD (i:=1) IL rfl (Or.inl rfl) (Or.inr rfl)) dX))
  case t=>exact fun cl C s₃ H₃ fp=>iA (bu jv (pv 0) (pv 2) (bB _))
  case e=>exact fun cl C s₃ H₃ fp=>pv 1
  refine⟨_,rfl,l,rfl,⟨_,bD.of T.at_⟩,fun D hD=>kE (fun σ=>∃a b,σ=[a,b,some (.int (h:Int))]) (·.1) (·.2) (h:Int) hD T.at_ T.po (by lia) ⟨_,_,rfl⟩ ?_ ?_⟩
  .rintro z σ H3 Kt Kf hj ⟨x,y,rfl⟩ ha kt kf;refine⟨z.1,_,rfl,cQ.of ha,rfl,_,_,rfl,_,_,rfl,rfl,?_⟩;refine⟨_,rfl,_,rfl,rfl,_,rfl,?_⟩;refine oh (fun e=>?_) (fun e=>?_)
   .exact⟨_,rfl,kt _ ⟨_,_,rfl⟩ (by simpa using e)⟩
   .exact kf _ ⟨_,_,rfl⟩ (by simpa using e)
  .generalize BM:((zp zs).filter fun y=>decide (y.1=(h:Int))).map (·.2)=os;have EE:os.length<=8:=by rw[<-BM,aT];exact fi.most h
   have sm:aF H (upd H D (.lst (IV os))):=aj hD;refine⟨_,rfl,tb.same sm,fun f' c' H2 WF d_ BK zU=>?_⟩;have t2:ng Pt H2:=WF;have gP:H2 D=some (.lst (IV os)):=d_ _ _ af ((tb.same sm).not af (by intro ps z;cases z));refine⟨D,f',c',os,h,n,rfl,rfl,bD.of gP,(by lia),zU,BK,rfl,rfl,by lia,fun r out yD ko=>?_⟩;rw[<-BM] at ko;rw[yj fi hh ko];have BW:aF H2 (upd H2 r (.lst (NV (dt n (zp zs) h)))):=aj yD;refine k r _ (t2.same BW) (fun b o e hb=>BW _ _ (d_ b o (sm _ _ e) hb)) ?_ af;cases z:H r with
   |none=>rfl
   |some o=>
    by_cases hP:r=Pt
    .rcases t2 with q|⟨_,q,_⟩ <;> · rw[<-hP,yD] at q;cases q
    .rw[d_ r o (sm _ _ z) hP] at yD;cases yD
end
abbrev AI:Stmt:=top 45
abbrev vK:Stmt:=top 46
def iG(n:Nat)(R:List Nat)(f:Nat->Nat):List V:=(List.range n).map fun x=>if x∈R then V.int ((f x:Nat):Int) else .bH
theorem ip:(iG n R f).length=n:=by unfold iG;rw[aT,iK]
theorem iq(h:x<n):(iG n R f)[x]?=some (if x∈R then V.int ((f x:Nat):Int) else .bH):=by
 unfold iG;rw[bw,uc h];rfl
theorem vL(hs:s<n):(List.replicate n V.bH).set s (V.int 0)=iG n [s] (fun _=>0):=by
 apply um;intro x;by_cases hx:x<n
 .rw[iq hx];by_cases e:x=s
  .subst e;rw[kM (by rw[ji];exact hx),ao (by simp)];rfl
  .rw[lS (fun z=>e z.symm),List.getElem?_replicate,ao hx,am (by simp[e])]
 .rw[lR (by rw[l_,ji];lia),lR (by rw[ip];lia)]
theorem AJ(hv:v<n):(iG n R f).set v (V.int ((k:Nat):Int))=iG n (R++[v]) (put f v k):=by
 apply um;intro x;by_cases hx:x<n
 .rw[iq hx];by_cases e:x=v
  .subst e;rw[kM (by rw[ip];exact hx),ao (by simp),im]
  .rw[lS (fun z=>e z.symm),iq hx,eC e];by_cases h:x∈R
   .rw[ao h,ao (fK _ h)]
   .rw[am h,am (fun z=>(cE.mp z).elim h fun z=>e (by simpa using z))]
 .rw[lR (by rw[l_,ip];lia),lR (by rw[ip];lia)]
def KJ(σ:St):Nat:=match σ[4]? with
 |some (some (V.int z))=>z.toNat
 |_=>0
theorem WG:(["others"]:List Str).Nodup:=by decide +kernel
def nh(H:Hp)(ol:Addr)(n:Nat)(ts:Ts):Prop:=∃bs:List Addr,H ol=some (.lst (bs.map V.ref))/\Holds H bs n (fun h=>.lst (NV (dt n ts h)))
theorem nh.same(x:nh H ol n ts)(e:aF H H'):nh H' ol n ts:=let ⟨bs,a,b⟩:=x;⟨bs,e _ _ a,b.mono fun _ _ z=>e _ _ z⟩
theorem EV{as:List Addr}{i:Nat}{x:V}(h:(as.map V.ref)[i]?=some x):i<as.length/\x=.ref (as.getD i 0):=by
 rw[bw] at h;cases e:as[i]? with
 |none=>rw[e] at h;cases h
 |some a=>
  rw[e] at h;refine⟨(dD.mp e).1,?_⟩;rw[dS,e];exact(bh h).symm
section
variable {P:Program} {w:World} {K:PySem.W.Frag} {mg:Str->Option Value} {base:Heap}
theorem je:aE ["out_lists","start","distances","reached","at","house","other"] ["out_lists","start"] (al AI):=⟨rfl,rfl,rfl,by decide +kernel,rfl,by decide +kernel,by decide +kernel⟩
def qC:Sp:=fun vs H Q _=>∃ (ol:Addr) (n s:Nat) (ts:Ts),vs=[.ref ol,.int s]/\ik n ts/\s<n/\nh H ol n ts/\
 ∀ (r:Addr) (H':Hp),aF H H'->H r=none->H' r=some (.lst (NV ((List.range n).map (far ts s))))->Q (.ref r) H'
theorem Di{f:Addr}{fd:FuncData}(F:fJ K "distances_from" "distances_from" AI f fd)(B:Bl mg):a9 P w K mg base be 1 f fd ["out_lists","start"] qC:=by
 refine F.ok je (fun vs H Q E h=>?_) (fun dg A outer s H vs Q E hr h=>?_)
 .obtain⟨ol,n,s,ts,rfl,_⟩:=h;rfl
 .obtain⟨ol,n,st,ts,rfl,fi,hs,O,k⟩:=h;have n1:=fi.n1;have n2:=fi.n2;refine'⟨_,ak (dk (i:=2) (g:=bA 0) (NB:=["others"]) (src:=[none]) (bz (by kernel_rfl)) rfl (cn (pv 0)) ?g ?t ?e je.nd rfl rfl rfl)
   (ak (hV aw (j8 (pv 2) (pv 1) fX))
   (ak (bj (i:=3) je.nd rfl (Or.inl rfl) (fD (aa (pv 1) ag)))
   (ak (bj (i:=4) je.nd rfl (Or.inl rfl) aw)
   (ak (y_ jn (bu zi (pv 4) (au aP (by rfl) B.len eF (aa (pv 3) ag)) (bB _))
    (ak (bj (i:=5) je.nd rfl (Or.inl rfl) (bY bv (pv 3) (pv 4) (fun _ _=>rfl)))
    (ak (hW jn rfl (cn (bY bv (pv 0) (pv 5) (fun _ _=>rfl))) (aD (i:=6) je.nd rfl (Or.inl rfl))
     (ap (cG (bu zj (bY bv (pv 2) (pv 6) (fun _ _=>rfl)) fw (bB _))
      (ak (hV (bx et (bY bv (pv 2) (pv 5) (fun _ _=>rfl)) aw) (j8 (pv 2) (pv 6) fX))
      (ap (df (Jz PySem.F.plainAttrs_list PySem.F.slot_list_append PySem.F.type_list_append oR (pv 3) (aa (pv 6) ag))))) br)))
    (ap (Fv (i:=4) je.nd rfl (Or.inl rfl) aw Fw)))))
   (ap (aY (pv 2))))))),?_⟩
  case g=>exact fun cl C s₃ H₃ fp=>aD (i:=0) WG rfl (Or.inl rfl) (Or.inr rfl)
  case t=>exact fun cl C s₃ H₃ fp=>cq
  case e=>exact fun cl C s₃ H₃ fp=>fw
  obtain⟨bs,EE,PJ,Iz⟩:=id O;refine⟨_,rfl,ol,rfl,⟨_,bD.of EE⟩,fun D hD=>?_⟩;have WI:ol≠D:=ai EE hD;refine dU (xs:=bs.map V.ref) (fun i ys σ H2=>(∃a,σ=[a])/\ys=List.replicate i V.bH/\H2=upd H D (.lst ys)) ⟨⟨_,rfl⟩,rfl,rfl⟩ (fun i ys σ H2 _ ⟨_,_,e⟩=>by rw[e];exact bD.of (by rw[ah WI];exact EE)) ?_ ?_
  .rintro i x ys σ H2 Kt Kf hx ⟨⟨a,rfl⟩,rfl,rfl⟩ kt kf;have hi:=(EV hx).1;refine kt _ _ _ af ?_ ⟨⟨_,rfl⟩,?_,by rw[jr]⟩
   .rw[ji];exact bK hi (by rw[PJ];exact bp n2 (by decide))
   .rw[pI]
  .rintro ys σ H2 ⟨_,rfl,rfl⟩;rw[aT,PJ];refine⟨_,rfl,_,rfl,D,_,st,st,rfl,rfl,af,by rw[ji];exact iB hs,?_⟩;rw[jr,vL hs];refine⟨_,rfl,by show 1<=sizeLine;decide,fun R hR=>?_⟩;have Nu:D≠R:=ai (H:=upd H D (.lst (iG n [st] (fun _=>0)))) af hR;have PP:H R=none:=by rw[ah Nu.symm] at hR;exact hR
   refine zf (fun σ H2=>∃ (i:Nat) (Rs:List Nat) (f:Nat->Nat),i<=Rs.length/\yb n ts st i Rs f/\(∃a b,σ=[some (.ref ol),some (.int st),some (.ref D),some (.ref R),some (.int (i:Int)),a,b])/\aF H H2/\H2 D=some (.lst (iG n Rs f))/\H2 R=some (.lst (NV Rs)))
    (fun σ _=>n-KJ σ) ⟨0,[st],fun _=>0,cu _,yb.start hs,⟨none,none,rfl⟩,cf (aj hD) PP,?_,af⟩ ?_ ?_
   .rw[ah Nu,af]
   .rintro σ H2 ⟨i,Rs,f,hi,Bf,⟨a,b,rfl⟩,sm,gP,KL⟩;have Yz:Rs.length<=n:=gp Bf.nd Bf.lt;refine⟨_,rfl,_,rfl,R,_,rfl,.inl (bD.of KL),_,_,rfl,rfl,_,rfl,?_⟩;rw[cK];by_cases tw:i<Rs.length
    .rw[show decide ((i:Int)<((Rs.length:Nat):Int))=true by simp;lia];refine rL ?_;have hu:Rs[i]?=some Rs[i]:=cr tw;generalize Rs[i]=u at hu;have Dj:u<n:=Bf.lt u (cX hu);have WJ:(NV Rs)[i]?=some (.int (u:Int)):=by rw[bw,hu];rfl
     refine⟨_,rfl,_,rfl,R,_,_,_,rfl,rfl,bD.of KL,aO WJ,?_⟩;have WK:(bs.map V.ref)[u]?=some (.ref (bs.getD u 0)):=by
      rw[bw,dS,cr (by rw[PJ];exact Dj)];rfl
     have WL:=sm _ _ (Iz _ Dj);refine⟨_,rfl,_,rfl,ol,_,_,_,rfl,rfl,bD.of (sm _ _ EE),aO WK,_,rfl,⟨_,bD.of WL⟩,?_⟩;have YA:bs.getD u 0≠D:=ai (Iz _ Dj) hD;have YB:bs.getD u 0≠R:=ai (Iz _ Dj) PP;refine hX (K:=K) (xs:=NV (dt n ts u)) (fun j σ H3=>∃ (lz:List Nat) (f':Nat->Nat),yb n ts st i lz f'/\lz[i]?=some u/\(∀v∈(dt n ts u).take j,v∈lz/\f' v<=f' u+1)/\
      (∃b,σ=[some (.ref ol),some (.int st),some (.ref D),some (.ref R),some (.int (i:Int)),some (.int (u:Int)),b])/\aF H H3/\H3 D=some (.lst (iG n lz f'))/\H3 R=some (.lst (NV lz)))
      ⟨Rs,f,Bf,hu,fun v hv=>by simp at hv,⟨_,rfl⟩,sm,gP,KL⟩ (fun j σ H3 _ ⟨_,_,_,_,_,_,BY,_⟩=>bD.of (BY _ _ (Iz _ Dj))) ?_ ?_
     .rintro j x σ H3 hx ⟨lz,f',Dk,wn,dn,⟨b',rfl⟩,BY,re,BU⟩;rw[bw] at hx;cases hv:(dt n ts u)[j]? with
      |none=>rw[hv] at hx;cases hx
      |some v=>
       rw[hv] at hx;obtain rfl:V.int ((v:Nat):Int)=x:=bh hx;have Nv:v∈dt n ts u:=cX hv;have IM:v<n:=wJ fi Dj Nv;have WM:T ts u v:=(il fi Dj).mp Nv;have tk:(dt n ts u).take (j+1)=(dt n ts u).take j++[v]:=by rw[iJ,hv];rfl
       have KM:u∈lz:=cX wn;refine⟨_,rfl,_,rfl,D,_,_,_,rfl,rfl,bD.of re,aO (iq IM),rfl,_,rfl,?_⟩;by_cases Gv:v∈lz
       .rw[ao Gv];refine fZ ⟨lz,f',Dk,wn,fun x hx=>?_,⟨_,rfl⟩,BY,re,BU⟩;rw[tk] at hx;rcases cE.mp hx with z|z
        .exact dn x z
        .simp at z;subst z;exact⟨Gv,Dk.bd u wn _ Gv⟩
       .rw[am Gv];refine rL ?_;have IN:(iG n lz f')[u]?=some (.int ((f' u:Nat):Int)):=by rw[iq Dj,ao KM]
        refine⟨_,rfl,_,rfl,D,_,_,_,rfl,rfl,bD.of re,aO IN,_,_,rfl,rfl,_,rfl,_,rfl,D,_,_,_,rfl,rfl,re,by rw[ip];exact iB IM,?_⟩;have e1:(iG n lz f').set v (.int (((f' u:Nat):Int)+1))=iG n (lz++[v]) (put f' v (f' u+1)):=by
         rw[show ((f' u:Nat):Int)+1=((f' u+1:Nat):Int) by lia,AJ IM]
        rw[e1];have su:(upd H3 D (.lst (iG n (lz++[v]) (put f' v (f' u+1))))) R=some (.lst (NV lz)):=by rw[ah Nu.symm];exact BU
        have KN:lz.length<=n:=gp Dk.nd Dk.lt;refine⟨_,rfl,.inl ⟨rfl,_,bD.of su⟩,_,rfl,R,_,_,rfl,rfl,su,by rw[cK];exact bK (show lz.length<33 by lia) (by decide),?_⟩;have BS:i<lz.length:=(dD.mp wn).1;have WN:u≠v:=fun z=>Gv (z ▸ KM);refine⟨lz++[v],put f' v (f' u+1),Dk.add wn IM WM Gv,by rw[oz BS];exact wn,fun x hx=>?_,⟨_,rfl⟩,cf (cf BY hD) PP,?_,?_⟩
        .rw[eC WN];rw[tk] at hx;rcases cE.mp hx with z|z
         .obtain⟨q1,q2⟩:=dn x z;exact⟨fK _ q1,by rw[eC (fun (z:x=v)=>Gv (z ▸ q1))];exact q2⟩
         .simp at z;subst z;exact⟨by simp,by rw[im];exact aG _⟩
        .rw[ah Nu,af]
        .rw[af];show _=some (HO.lst (NV (lz++[v])));rw[show NV (lz++[v])=NV lz++[.int (v:Int)] by unfold NV;rw[c_];rfl]
     .rintro σ H3 ⟨lz,f',Dk,wn,dn,⟨b',rfl⟩,BY,re,BU⟩;rw[cK,kR] at dn;have BS:i<lz.length:=(dD.mp wn).1;have KN:lz.length<=n:=gp Dk.nd Dk.lt;refine⟨_,rfl,_,_,rfl,rfl,⟨⟨i+1,lz,f',BS,Dk.next wn (fun v t=>dn v ((il fi Dj).mpr t)),⟨_,_,rfl⟩,BY,re,BU⟩,?_⟩⟩;show n-((i:Int)+1).toNat<n-(i:Int).toNat;lia
    .rw[show decide ((i:Int)<((Rs.length:Nat):Int))=false by rw[decide_eq_false_iff_not];lia];have e:iG n Rs f=NV ((List.range n).map (far ts st)):=by
      unfold iG NV;rw[gC];refine l3 fun x hx=>?_;obtain⟨q1,q2⟩:=Bf.done fi (by lia) (d5.mp hx);rw[ao q1,q2];rfl
     rw[e] at gP;refine fZ ⟨_,rfl,k D H2 sm hD gP⟩
   .rintro σ H2 Q1 Q2 imp ⟨v,e1,v2,e2,p,ys,e3,e4,i1,i2,e5,e6,kk,e7,q⟩;exact⟨v,e1,v2,e2,p,ys,e3,e4,i1,i2,e5,e6,kk,e7,imp _ _ q⟩
end
theorem KO:(["row"]:List Str).Nodup:=by decide +kernel
section
variable {P:Program} {w:World} {K:PySem.W.Frag} {mg:Str->Option Value} {base:Heap}
theorem Dm:aE ["distances"] ["distances"] (al vK):=⟨rfl,rfl,rfl,by decide +kernel,rfl,by decide +kernel,by decide +kernel⟩
def qD:Sp:=fun vs H Q _=>∃ (l:Addr) (ds:List Addr) (n:Nat) (o:Nat->List V),vs=[.ref l]/\H l=some (.lst (ds.map V.ref))/\n<=32/\Holds H ds n (fun j=>.lst (o j))/\(∀j,j<n->∀x∈o j,∃i,x=.int i)/\∀H',aF H H'->Q .bH H'
theorem AL(F:fJ K "check_reached" "check_reached" vK f fd)(B:Bl mg):a9 P w K mg base be 1 f fd ["distances"] qD:=by
 refine F.ok Dm (fun vs H Q E h=>?_) (fun dg A outer s H vs Q E hr h=>?_)
 .obtain⟨l,ds,n,o,rfl,_⟩:=h;rfl
 .obtain⟨l,ds,n,o,rfl,hl,n2,hh,hx,k⟩:=h;refine'⟨_,ap (cG (cm (au (xQ rfl) (by rfl) B.any PyProof.Rows.boot_any (aa ?c ag))) bL br),?_⟩;case c=>
   refine' cA (g:=bA 0) (te:=kU (Oq K false) (tC .bH) (bb 0)) (NB:=["row"]) (src:=[none]) (bz (by kernel_rfl)) rfl (cn (pv 0)) ?g ?t ?e;case g=>exact fun cl C s₃ H₃ fp=>aD (i:=0) KO rfl (Or.inl rfl) (Or.inr rfl)
   case t=>exact fun cl C s₃ H₃ fp=>cq
   case e=>exact fun cl C s₃ H₃ fp=>iy xB fw (pv 0) rfl
  refine⟨_,rfl,l,rfl,⟨_,bD.of hl⟩,fun D hD=>?_⟩;have nl:l≠D:=ai hl hD;refine dU (xs:=ds.map V.ref) (fun i ys σ H2=>(∃a,σ=[a])/\ys=(List.replicate i false).map V.bl/\H2=upd H D (.lst ys)) ⟨⟨_,rfl⟩,rfl,rfl⟩ (fun i ys σ H2 _ ⟨_,_,e⟩=>by rw[e];exact bD.of (by rw[ah nl];exact hl)) ?_ ?_
  .rintro i x ys σ H2 Kt Kf WO ⟨⟨a,rfl⟩,rfl,rfl⟩ kt kf;obtain⟨hi,rfl⟩:=EV WO;rw[hh.1] at hi;have hd:=hh.2 i hi;have nd:ds.getD i 0≠D:=ai hd hD;have q1:(o i).all fY=true:=lX.mpr fun x zS=>by obtain⟨z,rfl⟩:=hx i hi x zS;rfl
   have q2:BO .bH (o i)=false:=by
    unfold BO;rw[uo];intro x zS;obtain⟨z,rfl⟩:=hx i hi x zS;exact fun z=>by cases z
   refine⟨_,rfl,_,_,rfl,.inl (bD.of (by rw[ah nd];exact hd)),rfl,q1,?_⟩;refine kt _ _ _ af ?_ ⟨⟨_,rfl⟩,?_,by rw[jr]⟩
   .rw[aT,ji];exact bK hi (bp n2 (by decide))
   .rw[pI,c_,q2];rfl
  .rintro ys σ H2 ⟨_,rfl,rfl⟩;refine⟨D,_,rfl,bD.of af,_,rfl,?_⟩;have e:(List.replicate (ds.map V.ref).length false).any id=false:=by
    rw[uo];intro x zS;rw[(List.mem_replicate.mp zS).2];decide
   rw[e];exact fZ (k _ (aj hD))
end
theorem Uf:(["one","other"]:List Str).Nodup:=by decide +kernel
theorem KP:(["house","many","ties"]:List Str).Nodup:=by decide +kernel
theorem PQ:(["house","self"]:List Str).Nodup:=by decide +kernel
def ir(p Pt:Addr)(H H':Hp):Prop:=∀b o,H b=some o->b≠p->b≠Pt->H' b=some o
theorem eE.mono(h:eE H l n zs)(e:ir p Pt H H')(hp:H p=some (.ins C dx fs))(tb:ng Pt H):eE H' l n zs:=
 ⟨h.m_,e _ _ h.at_ (dQ h.at_ hp (by intro z;cases z)) (tb.not h.at_ (by intro ps z;cases z)),fun z hz=>e _ _ (h.po z hz) (dQ (h.po z hz) hp (by intro z;cases z)) (tb.not (h.po z hz) (by intro ps z;cases z))⟩
theorem ng.mono(t:ng Pt H)(e:∀b o,H b=some o->b≠p->H' b=some o)(hp:H p=some (.ins C dx fs)):ng Pt H':=by
 rcases t with z|⟨c,z,y⟩
 .exact .inl (e _ _ z (dQ z hp (by intro q;cases q)))
 .exact .inr ⟨c,e _ _ z (dQ z hp (by intro q;cases q)),e _ _ y (dQ y hp (by intro q;cases q))⟩
theorem ng.full(t:ng Pt H):H Pt≠none:=by
 rcases t with z|⟨c,z,y⟩ <;> rw[z] <;> intro q <;> cases q
theorem ir.free(s:ir p Pt H H')(hp:H' p≠none)(tb:ng Pt H')(h:H' r=none):H r=none:=by
 cases z:H r with
 |none=>rfl
 |some o=>
  by_cases e1:r=p
  .subst e1;exact absurd h hp
  .by_cases e2:r=Pt
   .subst e2;exact absurd h tb.full
   .rw[s r o z e1 e2] at h;cases h
theorem KQ(h:k [] H):eA σ H k:=h
theorem iD{H:Hp}{p:Addr}{o:HO}(h:H p=some o):H p≠none:=by rw[h];intro z;cases z
section
variable {P:Program} {w:World} {K:PySem.W.Frag} {mg:Str->Option Value} {base:Heap}
theorem Gw:aE ["self","many","ties"] ["self","many","ties"] (al wQ):=⟨rfl,rfl,rfl,by decide +kernel,rfl,by decide +kernel,by decide +kernel⟩
def vM(C Pt:Addr):Sp:=fun vs H Q E=>∃ (p dx:Addr) (n:Nat) (l:Addr) (zs:Zs),vs=[.ref p,.int n,.ref l]/\H p=some (.ins C dx [])/\eE H l n zs/\ng Pt H/\
  ∀H',b_ C H' (fun a=>H a=none) p n (zp zs)->ng Pt H'->ir p Pt H H'->Q .bH H'
theorem Dn{f C Pt:Addr}{fd:FuncData}(F:fJ K "__init__" "Net.__init__" wQ f fd)(T:NT K mg C)(B:Bl mg)(CT:dA P w K mg base be 6 "check_ties" ["many","ties"] iC)(CB:dA P w K mg base be 1 "check_balance" ["many","ties"] iC)(WP:dA P w K mg base be 1 "houses_out" ["many","ties","house"] (qB Pt))(DF:dA P w K mg base be 1 "distances_from" ["out_lists","start"] qC)(CR:dA P w K mg base be 1 "check_reached" ["distances"] qD):
  a9 P w K mg base be 7 f fd ["self","many","ties"] (vM C Pt):=by
 refine F.ok Gw (fun vs H Q E h=>?_) (fun dg A outer s H vs Q E hr h=>?_)
 .obtain⟨p,dx,n,l,zs,rfl,_⟩:=h;rfl
 .have IP:bQ 1 _:=hr.mono (by decide);refine'⟨_,ak (df (aJ CT hr aM (aa (pv 1) (aa (pv 2) ag))))
   (ak (df (aJ CB IP aM (aa (pv 1) (aa (pv 2) ag))))
   (ak (mD (pv 0) (pv 1) rfl)
   (ak (mD (pv 0) (au vw (by rfl) B.sorted tP (aa ?c1 ag)) rfl)
   (ak (mD (pv 0) ?c2 rfl)
   (ak (mD (pv 0) ?c3 rfl)
   (ap (df (aJ CR IP aM (aa (fA (pv 0) rfl) ag))))))))),?_⟩
  case c1=>
   refine' cA (g:=uI K 2 (fU (bA 0) (fU (bA 1) uH))) (te:=uV (aQ (bb 0) (aQ (bb 1) eA))) (NB:=["one","other"]) (src:=[none,none]) (bz (by kernel_rfl)) rfl (cn (pv 2)) ?g ?t ?e;case g=>exact fun cl C s₃ H₃ fp=>fz (n:=2) rfl (a_ (aD (i:=0) Uf rfl (Or.inl rfl) (Or.inr rfl)) (a_ (aD (i:=1) Uf rfl (Or.inl rfl) (Or.inr rfl)) dX))
   case t=>exact fun cl C s₃ H₃ fp=>cq
   case e=>exact fun cl C s₃ H₃ fp=>hZ (aa (pv 0) (aa (pv 1) ag))
  case c2=>
   refine' cA (g:=bA 0) (te:=gG (qB Pt) [] E0 (aQ (bb 1) (aQ (bb 2) (aQ (bb 0) eA)))) (NB:=["house","many","ties"]) (src:=[none,some 1,some 2]) (bz (by kernel_rfl)) rfl (cR rfl B.range (aa (pv 1) ag)) ?g ?t ?e;case g=>exact fun cl C s₃ H₃ fp=>aD (i:=0) KP rfl (Or.inl rfl) (Or.inr rfl)
   case t=>exact fun cl C s₃ H₃ fp=>cq
   case e=>exact fun cl C s₃ H₃ fp=>aJ WP IP aM (aa (pv 1) (aa (pv 2) (aa (pv 0) ag)))
  case c3=>
   refine' cA (g:=bA 0) (te:=gG qC [] E0 (aQ (Cg K (bb 1) "out_lists") (aQ (bb 0) eA))) (NB:=["house","self"]) (src:=[none,some 0]) (bz (by kernel_rfl)) rfl (cR rfl B.range (aa (pv 1) ag)) ?g ?t ?e;case g=>exact fun cl C s₃ H₃ fp=>aD (i:=0) PQ rfl (Or.inl rfl) (Or.inr rfl)
   case t=>exact fun cl C s₃ H₃ fp=>cq
   case e=>exact fun cl C s₃ H₃ fp=>aJ DF IP aM (aa (fA (pv 1) rfl) (aa (pv 0) ag))
  obtain⟨p,dx,n,l,zs,rfl,hp,TT,tb,k⟩:=h;have fi:=TT.m_;have n1:=fi.n1;have n2:=fi.n2;have dC:zs.length<=256:=by have:=fi.len;rw[cW] at this;exact this
  refine⟨_,rfl,_,rfl,n,l,zs,rfl,TT,fun H1 s1=>?_⟩;refine⟨_,rfl,_,rfl,n,l,zs,rfl,TT.same s1,fun H2 s2=>?_⟩;have qE:aF H H2:=s1.trans s2;refine⟨_,rfl,_,rfl,p,C,dx,[],rfl,qE _ _ hp,T.cl,T.nH,(by show 0<1000;decide),?_⟩
  let G1:Hp:=upd H2 p (.ins C dx (cp "house_count" (.int n) []))
  have d1:ir p Pt H G1:=fun b o e h1 _=>by show upd _ _ _ _=_;rw[ah h1];exact qE _ _ e
  have Nw:G1 p=some (.ins C dx (cp "house_count" (.int n) [])):=af;have PR:eE G1 l n zs:=TT.mono d1 hp tb;have PU:ng Pt G1:=tb.mono (fun b o e h1=>by show upd _ _ _ _=_;rw[ah h1];exact qE _ _ e) hp;refine⟨_,rfl,l,rfl,⟨_,bD.of PR.at_⟩,fun D hD=>?_⟩;refine sJ (fun y=>y) (fun σ=>∃a b,σ=[a,b]) PR.at_ PR.po hD (by lia) ⟨_,_,rfl⟩ ?_ ?_
  .rintro z σ H3 R Kf hz ⟨a,b,rfl⟩ _ ha kk;refine⟨_,_,rfl,cQ.of ha,rfl,_,_,rfl,_,_,rfl,rfl,?_⟩;exact⟨_,rfl,_,rfl,by show 2<=sizeLine;decide,fun t ht=>kk _ _ ⟨_,_,rfl⟩ ht⟩
  .intro Ug H3 sm re PV ez WQ;rw[List.map_id'] at ez;have Ow:Ug.length=zs.length:=by rw[<-cW,ez,cW]
   refine KQ ?_;refine C7 re PV (by lia) (fun u hu=>by have:=(fi.rg u (ez ▸ hu)).2;lia) fun tl IQ PX pm KR=>?_;have PY:H tl=none:=d1.free (iD Nw) PU (sm.free PX);have Fy:∀z∈IQ,H z.1=none:=fun z hz=>d1.free (iD Nw) PU (WQ z (pm.mem_iff.mp hz));have PZ:H3 p=some (.ins C dx (cp "house_count" (.int n) [])):=sm _ _ Nw;have Gx:p≠tl:=ai PZ PX;refine⟨_,rfl,p,C,dx,_,rfl,by rw[ah Gx];exact PZ,T.cl,T.nT,by show 1<1000;decide,?_⟩
   let G2:Hp:=upd (upd H3 tl (.lst (zr IQ))) p (.ins C dx (cp "tie_list" (.ref tl) (cp "house_count" (.int n) [])))
   have q2:∀b o,H3 b=some o->b≠p->G2 b=some o:=fun b o e h1=>by
    show upd _ _ _ _=_;rw[ah h1,ah (ai e PX)];exact e
   have d2:ir p Pt H G2:=fun b o e h1 h2=>q2 _ _ (sm _ _ (d1 _ _ e h1 h2)) h1;have Uh:G2 tl=some (.lst (zr IQ)):=by show upd _ _ _ _=_;rw[ah Gx.symm,af]
   have P0:PO G2 IQ:=fun z hz=>q2 _ _ (PV z (pm.mem_iff.mp hz)) (dQ (PV z (pm.mem_iff.mp hz)) PZ (by intro z;cases z));have Gy:G2 p=some (.ins C dx (cp "tie_list" (.ref tl) (cp "house_count" (.int n) []))):=af;have WR:eE G2 l n zs:=TT.mono d2 hp tb;have Gz:ng Pt G2:=PU.mono (fun b o e h1=>q2 _ _ (sm _ _ e) h1) Nw;refine⟨_,rfl,n,rfl,by lia,by lia,fun D2 gP=>?_⟩;refine dq (n:=n) (lo:=0) (fun i ys σ H4=>(∃a,σ=[a,some (.int n),some (.ref l)])/\∃bs:List Addr,ys=bs.map V.ref/\(∀b∈bs,H b=none)/\Holds H4 bs i (fun h=>.lst (NV (dt n (zp zs) h)))/\iT Pt G2 H4/\ng Pt H4/\H4 D2=some (.lst ys)/\∀b∈bs,b≠D2)
    ⟨⟨_,rfl⟩,[],rfl,(fun _ h=>nomatch h),Holds.nil,iT.of (aj gP),Gz.same (aj gP),af,(fun _ h=>nomatch h)⟩ ?_ ?_
   .rintro i ys σ H4 Kt Kf hi ⟨⟨a,rfl⟩,bs,rfl,P1,hb,BQ,IR,yF,P2⟩ kt kf;have WS:eE H4 l n zs:=WR.mono (p:=p) (fun b o e _ h2=>BQ _ _ e h2) Gy Gz;have IS:=BQ _ _ Gy (Gz.not Gy (by intro ps z;cases z));refine⟨_,rfl,_,rfl,_,rfl,n,l,i,zs,by rw[gU];rfl,hi,WS,IR,fun r H5 t5 qY P3 WT=>?_⟩;have P4:H r=none:=ir.free (fun b o e h1 h2=>BQ _ _ (d2 _ _ e h1 h2) h2) (iD IS) IR P3;have Nx:H5 D2=some (.lst (bs.map V.ref)):=qY _ _ yF (IR.not yF (by intro ps z;cases z));have KS:r≠D2:=by rintro rfl;rw[yF] at P3;cases P3
    have iU:∀b o on,H5 b=some o->b≠D2->(upd H5 D2 on) b=some o:=fun b o on e h=>by rw[ah h];exact e
    refine kt _ _ _ Nx (by rw[aT,hb.1];exact bK hi (bp n2 (by decide))) ⟨⟨_,rfl⟩,bs++[r],by rw[c_];rfl,?_,?_,?_,?_,af,?_⟩
    .intro b iP;rcases cE.mp iP with z|z
     .exact P1 b z
     .rw[cy.mp z];exact P4
    .refine Holds.snoc (hb.mono fun j hj e=>?_) (iU _ _ _ WT KS);refine iU _ _ _ (qY _ _ e (IR.not e (by intro ps z;cases z))) (P2 _ ?_);rw[dS,cr (by rw[hb.1];exact hj)];exact jl _
    .intro b o e h;exact iU _ _ _ (qY _ _ (BQ _ _ e h) h) (ai e gP)
    .rcases t5 with z|⟨c,z,y⟩
     .exact .inl (iU _ _ _ z (dQ z Nx (by intro q;cases q)))
     .exact .inr ⟨c,iU _ _ _ z (dQ z Nx (by intro q;cases q)),iU _ _ _ y (dQ y Nx (by intro q;cases q))⟩
    .intro b iP;rcases cE.mp iP with z|z
     .exact P2 b z
     .rw[cy.mp z];exact KS
   .rintro ys σ H4 ⟨_,bs,rfl,P1,hb,BQ,IR,yF,P2⟩;have IS:H4 p=some (.ins C dx (cp "tie_list" (.ref tl) (cp "house_count" (.int n) []))):=BQ _ _ Gy (Gz.not Gy (by intro ps z;cases z));have P5:H D2=none:=d2.free (iD Gy) Gz gP;refine⟨_,rfl,p,C,dx,_,rfl,IS,T.cl,T.nO,by have h1:=cH "tie_list" (V.ref tl) (cp "house_count" (V.int n) []);have h2:=cH "house_count" (V.int n) [];simp at h2;lia,?_⟩
    let G3:Hp:=upd H4 p (.ins C dx (cp "out_lists" (.ref D2) (cp "tie_list" (.ref tl) (cp "house_count" (.int n) []))))
    have q3:∀b o,H4 b=some o->b≠p->G3 b=some o:=fun b o e h1=>by show upd _ _ _ _=_;rw[ah h1];exact e
    have GA:G3 p=some (.ins C dx (cp "out_lists" (.ref D2) (cp "tie_list" (.ref tl) (cp "house_count" (.int n) [])))):=af;have d3:ir p Pt H G3:=fun b o e h1 h2=>q3 _ _ (BQ _ _ (d2 _ _ e h1 h2) h2) h1;have P6:ng Pt G3:=IR.mono q3 IS;have Ui:Holds G3 bs n (fun h=>.lst (NV (dt n (zp zs) h))):=hb.mono fun j hj e=>q3 _ _ e (dQ e IS (by intro z;cases z));have P7:G3 D2=some (.lst (bs.map V.ref)):=q3 _ _ yF (dQ yF IS (by intro z;cases z));have O3:nh G3 D2 n (zp zs):=⟨bs,P7,Ui⟩
    refine⟨_,rfl,n,rfl,by lia,by lia,fun D3 GB=>?_⟩;refine dq (n:=n) (lo:=0) (fun i ys σ H6=>(∃a,σ=[a,some (.ref p)])/\∃ds:List Addr,ys=ds.map V.ref/\(∀b∈ds,H b=none)/\Holds H6 ds i (fun s=>.lst (NV ((List.range n).map (far (zp zs) s))))/\aF G3 H6/\H6 D3=some (.lst ys)/\∀b∈ds,b≠D3)
     ⟨⟨_,rfl⟩,[],rfl,(fun _ h=>nomatch h),Holds.nil,aj GB,af,(fun _ h=>nomatch h)⟩ ?_ ?_
    .rintro i ys σ H6 Kt Kf hi ⟨⟨a,rfl⟩,ds,rfl,P8,hd,zK,GD,Js⟩ kt kf;refine⟨_,rfl,p,C,dx,_,_,rfl,zK _ _ GA,T.cl,T.nO,by rw[aU,ao rfl],_,rfl,D2,n,i,zp zs,by rw[gU];rfl,fi,hi,O3.same zK,fun r H7 P9 P_ WU=>?_⟩;have WV:H7 D3=some (.lst (ds.map V.ref)):=P9 _ _ GD;have KS:r≠D3:=by rintro rfl;rw[GD] at P_;cases P_
     have P4:H r=none:=ir.free (fun b o e h1 h2=>zK _ _ (d3 _ _ e h1 h2)) (iD (zK _ _ GA)) (P6.same zK) P_;have iU:∀b o on,H7 b=some o->b≠D3->(upd H7 D3 on) b=some o:=fun b o on e h=>by rw[ah h];exact e
     refine kt _ _ _ WV (by rw[aT,hd.1];exact bK hi (bp n2 (by decide))) ⟨⟨_,rfl⟩,ds++[r],by rw[c_];rfl,?_,?_,?_,af,?_⟩
     .intro b iP;rcases cE.mp iP with z|z
      .exact P8 b z
      .rw[cy.mp z];exact P4
     .refine Holds.snoc (hd.mono fun j hj e=>?_) (iU _ _ _ WU KS);refine iU _ _ _ (P9 _ _ e) (Js _ ?_);rw[dS,cr (by rw[hd.1];exact hj)];exact jl _
     .intro b o e;exact iU _ _ _ (P9 _ _ (zK _ _ e)) (ai e GB)
     .intro b iP;rcases cE.mp iP with z|z
      .exact Js b z
      .rw[cy.mp z];exact KS
    .rintro ys σ H6 ⟨_,ds,rfl,P8,hd,zK,GD,Js⟩;have KT:=zK _ _ GA;refine⟨_,rfl,p,C,dx,_,rfl,KT,T.cl,T.nD,by have h1:=cH "tie_list" (V.ref tl) (cp "house_count" (V.int n) []);have h2:=cH "house_count" (V.int n) [];have h3:=cH "out_lists" (V.ref D2) (cp "tie_list" (V.ref tl) (cp "house_count" (V.int n) []));simp at h2;lia,?_⟩;have q4:∀b o u,H6 b=some o->b≠p->(upd H6 p u) b=some o:=fun b o u e h1=>by rw[ah h1];exact e
     refine⟨_,rfl,p,C,dx,_,_,rfl,af,T.cl,T.nD,by rw[aU,ao rfl],D3,ds,n,fun s=>NV ((List.range n).map (far (zp zs) s)),rfl,q4 _ _ _ GD (dQ GD KT (by intro z;cases z)),n2,hd.mono fun j hj e=>q4 _ _ _ e (dQ e KT (by intro z;cases z)),fun j hj x hx=>?_,fun H8 s8=>?_⟩
     .obtain⟨y,hy,rfl⟩:=ck.mp hx;exact⟨_,rfl⟩
     .have up:∀b o,G3 b=some o->b≠p->H8 b=some o:=fun b o e h1=>s8 _ _ (q4 _ _ _ (zK _ _ e) h1);have Qa:H D3=none:=d3.free (iD GA) P6 GB;have Uj:∀b o,G2 b=some o->b≠p->b≠Pt->H8 b=some o:=fun b o e h1 h2=>up _ _ (q3 _ _ (BQ _ _ e h2) h1) h1;refine k H8 ⟨fi,dx,tl,D2,D3,s8 _ _ af,P5,Qa,⟨bs,up _ _ P7 (dQ P7 GA (by intro z;cases z)),P1,Ui.mono fun j hj e=>up _ _ e (dQ e GA (by intro z;cases z))⟩,
       ⟨ds,s8 _ _ (q4 _ _ _ GD (dQ GD KT (by intro z;cases z))),P8,hd.mono fun j hj e=>s8 _ _ (q4 _ _ _ e (dQ e KT (by intro z;cases z)))⟩,
       ⟨PY,IQ,Uj _ _ Uh Gx.symm (Gz.not Uh (by intro ps z;cases z)),fun z hz=>Uj _ _ (P0 z hz) (dQ (P0 z hz) Gy (by intro z;cases z)) (Gz.not (P0 z hz) (by intro ps z;cases z)),Fy,((show (zp IQ).Perm (zp Ug) from pm.map _).trans (pT ez)),KR⟩⟩ ?_ fun b o e h1 h2=>up _ _ (d3 _ _ e h1 h2) h1
      exact P6.mono up GA
end
theorem lN:NV xs++[.int (x:Int)]=NV (xs++[x]):=by unfold NV;rw[c_];rfl
theorem pj{xs:List Nat}{i:Nat}{x:V}(h:(NV xs)[i]?=some x):∃y,xs[i]?=some y/\x=.int (y:Int):=by
 unfold NV at h;rw[bw] at h;cases e:xs[i]? with
 |none=>rw[e] at h;cases h
 |some z=>rw[e] at h;exact⟨z,rfl,(bh h).symm⟩
end sH
namespace L2
open PySem PySem.Spec PyProof.Rows
section
variable {X:Cx}
end
end L2
namespace sH
open PySem L2 iF
section
variable {P:Program} {w:World} {K:PySem.W.Frag} {mg:Str->Option Value} {base:Heap}
end
end sH
namespace L2
open PySem PySem.Spec PyProof.Rows
section
variable {prog:Program} {w:World} {A:Around} {E:Value->Shared->Prop} {s:Shared} {R:Result->Shared->Prop} {l d Ia:Addr}
end
section
variable {prog:Program} {w:World} {A:Around} {E:Value->Shared->Prop} {s:Shared} {l:Addr}
end
section
variable {X:Cx}
end
structure Uk(K:PySem.W.Frag)(C:Addr):Prop where
 makes:PySem.W.makesIn K C=true
 init:PySem.W.findIn K (.ref C) "__init__"=some (some (.builtin "object.__init__"))
 keep:PySem.W.keepIn K (.ref C)=true
section
variable {X:Cx} {C:Addr} {x:Str} {p pos:Pos}
def Qb(C:Addr):TE:=fun _ H Q=>∀y dx,H y=none->H dx=none->dx≠y->Q (.ref y) (upd (upd H dx (.own y)) y (.ins C dx []))
theorem nj(M:Uk X.K C)(hg:Gl X x)(hm:X.mg x=some (.ref C))(n9:(x==("__debug__":Str))=false:=by decide):PE X (.Call (.Name x p) [] [] pos) (Qb C):=by
 intro ae s σ H Q I h;refine kP (ix I hg hm ?_ n9);have I2:=av.made (C:=C) I;have eT:wpAny (model X.prog X.w) X.A (call (.ref C) []) (EP X ae σ Q) X.xe s:=by
  refine gX ?_;refine xw I.iN M.makes M.init (fun self=>PySem.W.Looks.of_pure (PySem.W.oi_bind self)) ?_;have Y:=ut (M:=model X.prog X.w) I.iN M.makes;have t1:PySem.W.Looks (model X.prog X.w) ((s.heap.push PySem.W.emptyDict).push (PySem.W.instObj C s.heap.objs.size)) (typeOf (.ref (s.heap.objs.size+1))) (.ref C):=(PySem.W.Looks.ld (by heap_get)).andThen .now;have t2:PySem.W.Looks (model X.prog X.w) ((s.heap.push PySem.W.emptyDict).push (PySem.W.instObj C s.heap.objs.size)) (isInstance (.ref (s.heap.objs.size+1)) (.type "object")) true:=t1.andThen (Y.top.keeps fun b o e=>bJ _ (bJ _ e));refine pK PySem.W.oi_plain PySem.W.entry_oi (@PySem.W.check_slot (model X.prog X.w) _ _ _ "object.__init__" "object" "__init__" (.ref (s.heap.objs.size+1)) [] [] _ PySem.W.oi_kind PySem.W.oi_split t2 (PySem.W.oi_args (.ref (s.heap.objs.size+1))) ?_);rw[PySem.W.oi_run];refine wpAny_pure (And.intro rfl ?_);exact⟨.ref (s.heap.objs.size+1),_,I2,rfl,h _ _ (I.aW.fresh (p7 _)) (I.aW.fresh (aG _)) (bf (kQ _))⟩
 exact PySem.W.callWith_K0 I.iN M.keep eT
end
section
variable {X:Cx}
def KU:R2:=fun x y H Q=>∃a b xs ys,x=.ref a/\y=.ref b/\H a=some (.tup xs)/\H b=some (.tup ys)/\xs.length+ys.length<=sizeLine/\∀r H',aF H H'->H' r=some (.tup (xs++ys))->Q (.ref r) H'
theorem wV:j9 X (binaryOp .Add) KU:=by
 intro ae s σ H x y v u Q I rx ry h;obtain⟨a,b,xs,ys,rfl,rfl,ha,hb,hz,q⟩:=h;cases rx;cases ry;obtain⟨its,r1,p1,_⟩:=I.tuple (cQ.of ha);obtain⟨og,r2,p2,_⟩:=I.tuple (cQ.of hb);obtain⟨⟨cls,dd,data,sl⟩,ho,hc,n,hd⟩:=id p1;obtain⟨⟨WW,Qc,data2,Cw⟩,IT,IJ,n2,Ul⟩:=id p2;simp only at hc hd IJ Ul;subst hc hd IJ Ul;have e:its.toArray++og.toArray=(its++og).toArray:=by simp
 by_cases hv:xs=[]
 .subst hv;have hi:its=[]:=r1.lF.mpr rfl;exact concat_meets ⟨_,ho,rfl⟩ ⟨_,IT,rfl⟩ uD seq_tuple_add tU tR (tO _ _)
   (tuple_addW0 a b its.toArray og.toArray n n2 dd Qc sl Cw (by simp[hi])) ⟨ho,IT,⟨.ref b,H,I,rfl,q b H (aF.refl _) hb⟩⟩
 .have hi:its≠[]:=fun z=>hv (r1.lF.mp z);by_cases hw:ys=[]
  .subst hw;have hj:og=[]:=r2.lF.mpr rfl;exact concat_meets ⟨_,ho,rfl⟩ ⟨_,IT,rfl⟩ uD seq_tuple_add tU tR (tO _ _)
    (tuple_addW1 a b its.toArray og.toArray n n2 dd Qc sl Cw (by simpa using hi) (by simp[hj])) ⟨ho,IT,⟨.ref a,H,I,rfl,q a H (aF.refl _) (by rw[jX];exact ha)⟩⟩
  .have hj:og≠[]:=fun z=>hw (r2.lF.mp z);refine concat_meets ⟨_,ho,rfl⟩ ⟨_,IT,rfl⟩ uD seq_tuple_add tU tR (tO _ _)
    (tuple_addW2 a b its.toArray og.toArray n n2 dd Qc sl Cw (by simpa using hi) (by simpa using hj) (by rw[bT,bT,<-r1.length,<-r2.length];exact hz)) ⟨ho,IT,?_⟩
   rw[e];have nf:=I.aW.fresh (aG s.heap.objs.size);refine⟨.ref s.heap.objs.size,_,I.laid (t':=s.toks) (o:=.tup (xs++ys)) (fun b ob q=>bJ _ q) (aG _) ?_,rfl,q _ _ (aj nf) af⟩;exact⟨by rw[fL];exact hz,_,r1.append r2,gY.new _ _⟩
theorem jM{prog:Program}{w:World}{A:Around}{E:Value->Shared->Prop}{s:Shared}{t sl:Addr}{aH:Array Value}{vl vu:Value}{lo hi:Option Int}{Q:Value->Shared->Prop}(ht:IsTup s.heap t aH)(hs:s.heap.IsSliceOf sl vl vu .none)(pl:IsPart vl lo)(pu:IsPart vu hi)(hw:HT.dL aH.size 0 lo=0/\HT.dL aH.size aH.size hi=aH.size)(h:Q (.ref t) s):wpAny (model prog w) A (getItem (.ref t) (.ref sl)) Q E s:=by
 obtain⟨os,BM,M7,Jw⟩:=id hs;have Om:s.TypeIs (.ref sl) "slice":=⟨os,BM,M7⟩
 unfold getItem;try with_reducible refine gB ?_
 first|refine aq (wpAny_pure ?_)|skip
 refine aq (wpAny_sequenceKey ht.typeIs (by decide) ?_);refine aq (rm (name:=Str.ofString "__getitem__") ht.typeIs oy
  (jY oy ht.typeIs entry_tuple_getitem ?_ (args_tuple_getitem _ _)))
 show wpAny _ _ (Builtin.Tuple.tupleItemsOf (.ref t) >>= _) _ _ s;refine aq (tupleItemsOf_ ht ?_);refine aq (wpAny_typeOf Om ?_);rw[ao (by decide)];refine aq (HT.fW hs pl pu ?_);have Qd:(((HT.dL aH.size 0 lo:Nat):Int)==0&&(1:Int)==1&&(HT.dL aH.size aH.size hi-HT.dL aH.size 0 lo)==aH.size)=true:=by
  rw[hw.1,hw.2];simp
 show wpAny _ _ (if (((HT.dL aH.size 0 lo:Nat):Int)==0&&(1:Int)==1&&(HT.dL aH.size aH.size hi-HT.dL aH.size 0 lo)==aH.size)=true then _ else _) _ _ s;rw[ao Qd];refine aq (Q:=_) (m:=Builtin.Tuple.tupleIsExact (.ref t)) ?_;unfold Builtin.Tuple.tupleIsExact;refine aq (wpAny_typeOf ht.typeIs ?_);refine wpAny_pure ?_;rw[ao (by decide)];exact aq (gb (wpAny_pure ⟨_,rfl,wpAny_pure h⟩))
def Qe:V->Option Int->Option Int->Hp->VK->Prop:=fun x lo hi H Q=>∃a xs,x=.ref a/\H a=some (.tup xs)/\∀r H',aF H H'->H' r=some (.tup (mH xs lo hi))->Q (.ref r) H'
theorem AM{xs:List V}{lo hi:Option Int}(hw:HT.dL xs.length 0 lo=0/\HT.dL xs.length xs.length hi=xs.length):mH xs lo hi=xs:=by
 unfold mH;rw[hw.1,hw.2,Nat.sub_zero,uB,kR]
theorem wW:On X Qe:=by
 intro ae s σ H x v vl vu lo hi sl Q I rx hs pl pu h;obtain⟨a,xs,rfl,hx,q⟩:=h;by_cases hw:HT.dL xs.length 0 lo=0/\HT.dL xs.length xs.length hi=xs.length
 .cases rx;obtain⟨its,r,ht,hz⟩:=I.tuple (cQ.of hx);have dC:its.toArray.size=xs.length:=by rw[bT];exact r.length.symm
  refine⟨"tuple",_,oy.lookup,ht.typeIs,?_⟩;exact jM ht hs pl pu (by rw[dC];exact hw) ⟨.ref a,H,I,rfl,q a H (aF.refl _) (by rw[AM hw];exact hx)⟩
 .exact FO ae s σ H _ v vl vu lo hi sl Q I rx hs pl pu ⟨a,xs,rfl,cQ.of hx,hw,fun p hp=>q p _ (aj hp) af⟩
def KW(X:Cx)(H:Hp)(p:Addr)(d:PyData):Prop:=(∀ae σ s,av X ae σ H s->∃as,Reads s.heap (.ref p) d as/\(d.hasDict=true->sysModules∉as))/\d.showable=true/\d.depth<=4/\d.shown.length<=sizeLine
def KY(X:Cx)(H:Hp)(x:V)(d:PyData):Prop:=(∃p,x=.ref p/\KW X H p d)\/(x=.bH/\d=.none)\/(∃b,x=.bl b/\d=.bool b)\/(∃i,x=.int i/\d=.int i/\i.natAbs.log2<1920)\/(∃y,x=.str y/\d=.str y/\(reprText y).length<=sizeLine)
theorem vN(hg:X.A.guards=some [])(hu:X.A.units+8<cLine):dE X (.builtin "repr") (fun xs H Q=>∃ (x:V) (d:PyData),xs=[x]/\KY X H x d/\Q (.str d.shown) H):=by
 intro ae s σ H xs us Q I r h;obtain⟨x,d,rfl,hx,q⟩:=h;obtain⟨u,rfl,ru⟩:=r.one;rcases hx with ⟨p,rfl,hr,h1,h3,h4⟩|⟨rfl,rfl⟩|⟨b,rfl,rfl⟩|⟨i,rfl,rfl,hi⟩|⟨y,rfl,rfl,hy⟩
 .obtain rfl:u=Value.ref p:=ru;obtain⟨as,rd,hs⟩:=hr ae σ s I;exact repr_of_reads' rd h1 hs hg (by lia) (fun b o e=>e) (fun h' u tk hk=>⟨.str d.shown,H,I.kept (t':=tk) hk,⟨u,rfl⟩,q⟩) h4
 .obtain rfl:u=Value.none:=ru;exact PySem.P.repr_of_none ⟨.str _,H,I.tok _,⟨_,rfl⟩,q⟩
 .obtain rfl:u=Value.bool b:=ru;refine PySem.P.repr_of_bool ⟨.str _,H,I.tok _,⟨_,rfl⟩,?_⟩;cases b <;> exact q
 .obtain⟨t,rfl⟩:∃t,u=Value.int i t:=ru;exact PySem.P.repr_of_int hi ⟨.str _,H,I.tok _,⟨_,rfl⟩,q⟩
 .obtain⟨t,rfl⟩:∃t,u=Value.str y t:=ru;exact PySem.P.repr_of_str ⟨.str _,H,I.tok _,⟨_,rfl⟩,q⟩ hy
end
end L2
namespace iF
end iF
namespace sH
open PySem L2 iF
abbrev GE:Stmt:=top 48
abbrev AN:Stmt:=top 49
structure Qf(mg:Str->Option Value):Prop where
 abs:mg "abs"=none
 divmod:mg "divmod"=none
 dict:mg "dict"=none
 zip:mg "zip"=none
 repr:mg "repr"=none
def bZ(H:Hp)(p:Addr):Prop:=∃a b:Int,H p=some (.lst [.int a,.int b])/\0<=a/\0<=b/\b<4294967296
theorem bZ.same(h:bZ H p)(s:aF H H'):bZ H' p:=let ⟨a,b,e,r⟩:=h;⟨a,b,s _ _ e,r⟩
theorem bZ.full(h:bZ H p):H p≠none:=by obtain⟨a,b,e,_⟩:=h;rw[e];intro z;cases z
theorem bZ.ne(h:bZ H p)(e:H q=none):q≠p:=by rintro rfl;exact h.full e
theorem bZ.put(h:bZ H p)(n:p≠q):bZ (upd H q o) p:=let ⟨a,b,e,r⟩:=h;⟨a,b,by rw[ah n];exact e,r⟩
theorem bZ.neT(h:bZ H p)(e:H q=some (.tup xs)):q≠p:=by rintro rfl;obtain⟨a,b,z,_⟩:=h;rw[e] at z;cases z
theorem KZ{j:Int}(h1:0<j)(h2:j<2 ^ 200):Nat.log2 j.natAbs<200:=(Nat.log2_lt (by lia)).mpr (by lia)
theorem AO{X:Cx}:j9 X (binaryOp .FloorDiv) (rI (fun _ j=>0<j/\j<2 ^ 200) fun i j=>.int (i / j)):=Jp fun i j _ _ _ _ _ hc q=>by
 have h1:(0:Int)<j:=hc.1;have h2:j<2 ^ 200:=hc.2;refine PyProof.Rows.floordiv_int (by lia) (by rw[tJ i (by lia)];exact q) (.inl (yT ?_));exact pZ (KZ h1 h2) (by decide)
theorem qF{X:Cx}:dE X (.builtin "divmod") (fun xs H Q=>∃i j,xs=[.int i,.int j]/\(0<j/\j<2 ^ 200)/\∀p,H p=none->Q (.ref p) (upd H p (.tup [.int (i / j),.int (i % j)]))):=by
 intro ae s σ H xs us Q I r h;obtain⟨i,j,rfl,⟨h1,h2⟩,q⟩:=h;obtain⟨u,w',rfl,⟨t,rfl⟩,⟨t',rfl⟩⟩:=zm r;refine PyProof.Rows.divmod_int (by lia) ?_ (.inl (yT (pZ (KZ h1 h2) (by decide))));rw[tJ i (by lia),tI i (by lia)];have hn:H s.heap.objs.size=none:=I.aW.fresh (aG _);refine⟨.ref s.heap.objs.size,_,?_,rfl,q _ hn⟩;refine I.laid (fun b o e=>bJ _ e) (aG _) ⟨by simp only[dv,List.length_nil];rw[d6];decide,[.int (i / j) s.toks,.int (i % j) (s.toks+1)],.cons ⟨_,rfl⟩ (.cons ⟨_,rfl⟩ .nil),?_⟩;exact⟨_,ci s.heap rfl,rfl,0,rfl,rfl⟩
section
variable {P:Program} {w:World} {K:PySem.W.Frag} {mg:Str->Option Value} {base:Heap}
theorem EW:aE ["_law_script","_law_k","_law_cell"] ["_law_script","_law_k"] (al GE):=⟨rfl,rfl,rfl,by decide +kernel,rfl,by decide +kernel,by decide +kernel⟩
def AQ(K:PySem.W.Frag):Sp:=fun vs H Q _=>∃ (a:Addr) (ns:List Int) (k:Nat),vs=[.ref a,.int k]/\bD K H a (ns.map V.int)/\k<64/\∀ (r:Addr) (H':Hp),aF H H'->H r=none->bZ H' r->Q (.ref r) H'
theorem GF(F:fJ K "_law_pot" "_law_pot" GE f fd)(B:Bl mg)(B2:Qf mg):a9 P w K mg base be 1 f fd ["_law_script","_law_k"] (AQ K):=by
 refine F.ok EW (fun vs H Q E h=>?_) (fun dg A outer s H vs Q E hr h=>?_)
 .obtain⟨a,ns,k,rfl,_⟩:=h;rfl
 .obtain⟨a,ns,k,rfl,hS,hk,q⟩:=h;refine⟨_,(ak (bj (i:=2) EW.nd rfl (Or.inl rfl) (rp (bu zi (pv 1) (au aP (by rfl) B.len eF (aa (pv 0) ag)) (bB _)) (bY bv (pv 0) (pv 1) (fun _ _=>rfl)) aw))
   (ap (aY (fD (aa (au (oI rfl) (by rfl) B.max PyProof.Rows.boot_max (aa aw (aa (bx j_ (au rD (by rfl) B2.abs PyProof.Rows.boot_abs (aa (pv 2) ag)) (bx zg aw aw)) ag))) (aa (bx et (bx et (bx i6 (au rD (by rfl) B2.abs PyProof.Rows.boot_abs (aa (pv 2) ag)) aw) (bx p8 aw (pv 1))) aw) ag)))))),?_⟩
  dsimp only;refine KB (fun σ Hc=>Hc=H/\∃c:Int,σ=[some (.ref a),some (.int k),some (.int c)]) ?_ ?_
  .rintro σ Hc ⟨rfl,c,rfl⟩;obtain⟨z,hz,z0⟩:∃z:Int,z=(if c<0 then -c else c)/\0<=z:=⟨_,rfl,by split <;> lia⟩
   have m0:0<=z % 2147483629:=md _ (by decide);have m1:z % 2147483629<2147483629:=l4 _ (by decide);refine⟨_,rfl,c,rfl,?_⟩;rw[<-hz];refine⟨_,_,rfl,rfl,⟨by decide,by decide,by decide⟩,_,_,rfl,rfl,0,_,rfl,_,rfl,c,rfl,?_⟩;rw[<-hz];refine⟨_,_,rfl,rfl,(by show (0:Int)<2147483629;decide),_,rfl,_,_,rfl,rfl,.inl ⟨by decide,by decide⟩,_,_,rfl,rfl,_,_,rfl,rfl,by show 2<=sizeLine;decide,fun r yD=>?_⟩;exact q r _ (aj yD) yD ⟨_,_,af,by split <;> lia,by lia,by lia⟩
  .intro N hN;refine⟨_,rfl,_,rfl,a,_,rfl,.inl hS,_,_,rfl,rfl,_,rfl,oh (fun e=>?_) (fun e=>hN _ _ ⟨rfl,0,rfl⟩)⟩;have Pi:k<ns.length:=by have:=uk e;rw[aT] at this;lia
   exact⟨_,rfl,_,rfl,a,_,_,.int ns[k],rfl,rfl,hS,aO (by rw[bw,cr Pi];rfl),hN _ _ ⟨rfl,_,rfl⟩⟩
theorem AR:aE ["_law_pot_here","_law_many","_law_digit"] ["_law_pot_here","_law_many"] (al AN):=⟨rfl,rfl,rfl,by decide +kernel,rfl,by decide +kernel,by decide +kernel⟩
def gx:Sp:=fun vs H Q _=>∃ (p:Addr) (m:Nat),vs=[.ref p,.int m]/\0<m/\m<2 ^ 200/\bZ H p/\∀ (d:Nat) (H':Hp),d<m->aS p H H'->bZ H' p->Q (.int d) H'
theorem Do(F:fJ K "_law_take" "_law_take" AN f fd)(B2:Qf mg):a9 P w K mg base be 1 f fd ["_law_pot_here","_law_many"] gx:=by
 refine F.ok AR (fun vs H Q E h=>?_) (fun dg A outer s H vs Q E hr h=>?_)
 .obtain⟨p,m,rfl,_⟩:=h;rfl
 .obtain⟨p,m',rfl,YC,YD,⟨a,b,hp,a0,b0,b1⟩,q'⟩:=h;generalize hm:((m':Nat):Int)=m;have m0:0<m:=by lia
  have m1:m<2 ^ 200:=by lia
  have q:∀ (d a b:Int) (H':Hp),0<=d->d<m->0<=a->0<=b->b<4294967296->aS p H H'->H' p=some (.lst [.int a,.int b])->Q (.int d) H':=fun d a b H' h1 h2 h3 h4 h5 h6 h7=>by
   have:=q' d.toNat H' (by lia) h6 ⟨a,b,h7,h3,h4,h5⟩;rw[Int.toNat_of_nonneg h1] at this;exact this
  refine⟨_,(ak (cG (bu Eu (bY bv (pv 0) aw (fun _ _=>rfl)) aw (bB _)) (ak (hV (au qF (by rfl) B2.divmod PyProof.Rows.boot_divmod (aa (bY bv (pv 0) aw (fun _ _=>rfl)) (aa (pv 1) ag))) (fz (n:=2) rfl (a_ (j8 (pv 0) aw fX) (a_ (aD (i:=2) AR.nd rfl (Or.inl rfl)) dX))))
    (ap (aY (pv 2)))) br)
   (ak (hV (bx i6 (bx et (bx p8 (bY bv (pv 0) aw (fun _ _=>rfl)) aw) aw) aw) (j8 (pv 0) aw fX))
   (ap (aY (bx i6 (bx AO (bx i6 (bx p8 (bY bv (pv 0) aw (fun _ _=>rfl)) (bY bv (pv 0) aw (fun _ _=>rfl))) aw) aw) (pv 1)))))),?_⟩
  have g0:BN [V.int a,V.int b] 0=some (.int a):=aO (j:=0) rfl;have g1:BN [V.int a,V.int b] 1=some (.int b):=aO (j:=1) rfl;refine⟨_,rfl,p,_,_,_,rfl,rfl,bD.of hp,g0,_,_,rfl,rfl,_,rfl,?_⟩;refine oh (fun e=>?_) (fun e=>?_)
  .refine⟨_,rfl,p,_,_,_,rfl,rfl,bD.of hp,g0,_,rfl,_,_,rfl,⟨m0,by lia⟩,fun t ht=>?_⟩;have WX:p≠t:=ai hp ht;refine⟨t,_,rfl,cQ.of af,rfl,_,_,rfl,?_⟩;refine⟨_,rfl,p,_,0,0,rfl,rfl,by rw[ah WX];exact hp,iB (j:=0) (by show 0<2;decide),_,_,rfl,rfl,_,rfl,?_⟩;exact q _ _ _ _ (md _ (by lia)) (l4 _ m0) (Int.ediv_nonneg a0 (by lia)) b0 b1 (fun c o e n=>by rw[ah n,ah (ai e ht)];exact e) af
  .refine⟨_,rfl,p,_,_,_,rfl,rfl,bD.of hp,g1,_,_,rfl,rfl,.inl ⟨by lia,by lia⟩,_,_,rfl,rfl,_,_,rfl,rfl,(by show (0:Int)<2147483647;decide),?_⟩;refine⟨_,rfl,p,_,1,1,rfl,rfl,hp,iB (j:=1) (by show 1<2;decide),?_⟩;have c0:0<=(b*48271+12345) % 2147483647:=md _ (by decide);have c1:(b*48271+12345) % 2147483647<2147483647:=l4 _ (by decide);refine⟨_,rfl,p,_,_,_,rfl,rfl,bD.of af,aO (j:=1) rfl,_,rfl,p,_,_,_,rfl,rfl,bD.of af,aO (j:=1) rfl,_,_,rfl,rfl,.inl ⟨by lia,by lia⟩,_,_,rfl,rfl,(by show (0:Int)<2147483629;decide),_,_,rfl,rfl,⟨by decide,by decide⟩,_,rfl,_,_,rfl,rfl,m0,?_⟩;exact q _ _ _ _ (md _ (by lia)) (l4 _ m0) a0 c0 (by lia) aS.upd af
end
end sH
namespace iF
def yG(st:List (Option Nat))(i:Nat):List Nat:=(List.range i).filter fun j=>(st.getD j none).isSome
theorem sL{st:List (Option Nat)}{i:Nat}:yG st (i+1)=yG st i++if (st.getD i none).isSome then [i] else []:=by
 unfold yG;rw[jV,lV,gR];rfl
theorem wX{st:List (Option Nat)}{i:Nat}:(yG st i).length<=i:=bp (lQ _ _) (by rw[iK];exact aG _)
end iF
namespace sH
open PySem L2 iF
theorem EX{A B:Prop}{b:Bool}(hb:b=true)(h:A):if b=true then A else B:=by rw[ao hb];exact h
theorem sO{A B:Prop}{b:Bool}(hb:b=false)(h:B):if b=true then A else B:=by rw[am (by rw[hb];decide)];exact h
theorem K0(h:j<xs.length):(NV xs)[j]?=some (.int ((xs.getD j 0:Nat):Int)):=by
 unfold NV;rw[bw,dS,cr h];rfl
theorem nq(Pv:Nat->List V->St->Hp->Prop)(h0:Pv 0 [] σB H0)(hl:∀i ys σ H,i<=xs.length->Pv i ys σ H->cQ K H a xs)(hs:∀i x ys σ H (Kt:V->St->Hp->Prop) (Kf:St->Hp->Prop),xs[i]?=some x->Pv i ys σ H->
   (∀v σ2 H4,H4 D=some (.lst ys)->ys.length<sizeLine->Pv (i+1) (ys++[v]) σ2 (upd H4 D (.lst (ys++[v])))->Kt v σ2 H4)->(∀σ2 H3,Pv (i+1) ys σ2 H3->Kf σ2 H3)->
   g x σ H fun σ2 H2=>tt σ2 H2 fun b H3=>if b=true then te σ2 H3 fun v H4=>Kt v σ2 H4 else Kf σ2 H3)(hd:∀ys σ H,Pv xs.length ys σ H->eT H):iO (Od K a) g tt te D eT σB H0:=by
 refine⟨fun i m σ H=>m=xs.length-i/\i<=xs.length/\∃ys,Pv i ys σ H,⟨xs.length,by simp,cu _,[],h0⟩,?_⟩;rintro i m σ H ⟨rfl,hi,ys,p⟩;have q:=hl i ys σ H hi p;by_cases dB:i<xs.length
 .refine .inr ⟨⟨xs,xs[i],q,by simp[dB]⟩,?_⟩;rintro x H' ⟨rfl,y⟩;exact hs i x ys σ _ (fun v σ2 H4=>∃ys,H4 D=some (.lst ys)/\ys.length<sizeLine/\∃m',m'<xs.length-i/\m'=xs.length-(i+1)/\i+1<=xs.length/\∃on,Pv (i+1) on σ2 (upd H4 D (.lst (ys++[v]))))
   (fun σ2 H3=>∃m',m'<xs.length-i/\m'=xs.length-(i+1)/\i+1<=xs.length/\∃on,Pv (i+1) on σ2 H3) (y xs q) p
   (fun v σ2 H4 z1 z2 z3=>⟨ys,z1,z2,_,by lia,rfl,dB,_,z3⟩) (fun σ2 H3 z=>⟨_,by lia,rfl,dB,_,z⟩)
 .have e:i=xs.length:=by lia
  subst e;exact .inl ⟨⟨xs,q,aG _⟩,hd ys σ H p⟩
section
variable {K:PySem.W.Frag}
end
theorem GI{xs:List V}{k:Nat}:mH xs none (some (k:Int))=xs.take k:=by
 have h1:HT.dL xs.length 0 none=0:=rfl;have h2:HT.dL xs.length xs.length (some (k:Int))=min k xs.length:=by
  unfold HT.dL;simp;try lia
 unfold mH;rw[h1,h2,uB,Nat.sub_zero,List.take_eq_take_iff];simp;try lia
theorem AS{xs:List V}{k:Nat}:mH xs (some (k:Int)) none=xs.drop k:=by
 have h1:HT.dL xs.length 0 (some (k:Int))=min k xs.length:=by
  unfold HT.dL;simp;try lia
 have h2:HT.dL xs.length xs.length none=xs.length:=rfl;unfold mH;rw[h1,h2];by_cases c:k<=xs.length
 .rw[Nat.min_eq_left c];exact pF (by rw[l6];exact aG _)
 .rw[Nat.min_eq_right (by lia),List.drop_of_length_le (aG _),List.drop_of_length_le (by lia),List.take_nil]
def oV:Option Nat->V
 |none=>.bH
 |some y=>.int (y:Nat)
theorem nr:∀ {st:List (Option Nat)},(st.map oV).all fY=true
 |[]=>rfl
 |none::st=>nr (st:=st)
 |some _::st=>nr (st:=st)
abbrev Qg:Stmt:=top 22
abbrev Qh:Stmt:=top 35
abbrev WY:Stmt:=top 34
abbrev wY:Stmt:=top 32
theorem gH:(["letter","house"]:List Str).Nodup:=by decide +kernel
theorem eY:(["ahead","goes","stand","letter"]:List Str).Nodup:=by decide +kernel
noncomputable def wZ(n:Nat)(ts:Ts)(i j:Nat):List Nat:=(dt n ts i).filter fun o=>decide (far ts o j<far ts i j)
theorem WZ:(["other","self","home","own"]:List Str).Nodup:=by decide +kernel
def K1:R2:=fun x y H Q=>y=.bH/\Q (.bl (!decide (x=.bH))) H
theorem GJ{st:List (Option Nat)}{i:Nat}{x:V}(h:(st.map oV)[i]?=some x):i<st.length/\x=oV (st.getD i none):=by
 have hi:=(dD.mp h).1;rw[aT] at hi;refine⟨hi,?_⟩;rw[bw,cr hi] at h;rw[dS,cr hi];exact(bh h).symm
theorem Dp:(!decide (oV o=.bH))=o.isSome:=by cases o <;> simp[oV]
theorem Dq{α:Type}{l:List α}{i:Nat}{d:α}(h:i<l.length):l[i]?=some (l.getD i d):=by rw[dS,cr h];rfl
theorem w4(h:j∈yG st i):j<i/\st.getD j none=some ((st.getD j none).getD 0):=by
 obtain⟨a,b⟩:=iL.mp h;refine⟨d5.mp a,?_⟩;cases e:st.getD j none with
 |none=>rw[e] at b;cases b
 |some y=>rfl
def EY(st gs:List (Option Nat))(l:Nat)(os:List Nat):Option Nat:=os.find? fun h=>!((List.range st.length).any fun a=>decide (st.getD a none=st.getD l none)&&decide (gs.getD a none=some h))
theorem pk{st:List (Option Nat)}{i:Nat}(h:i<st.length):(st.map oV)[i]?=some (oV (st.getD i none)):=by
 rw[bw,dS,cr h];rfl
theorem K2:decide (oV a=oV b)=decide (a=b):=by
 cases a <;> cases b <;> simp[oV];exact⟨fun h=>pW h,fun h=>by rw[h]⟩
theorem Dr:FE (oV a) (oV b)=true:=by cases a <;> cases b <;> rfl
theorem EZ{h:Nat}:∀ {xs:List (Option Nat)},BO (.int (h:Int)) (xs.map oV)=xs.any fun o=>decide (o=some h)
 |[]=>rfl
 |o::xs=>by
  have ih:=EZ (h:=h) (xs:=xs);unfold BO at *;rw[jo,jZ,jZ,ih];cases o with
  |none=>rfl
  |some x=>
   congr 1;show decide ((x:Int)=(h:Int))=_;by_cases e:x=h
   .subst e;simp
   .rw[jm (by lia),jm (by simp[e])]
theorem b_.own(N:b_ C H L p n ts):b_ C H (fun b=>H b≠none) p n ts:=by
 obtain⟨dx,tl,ol,ds,a,l1,l2,b,c,d⟩:=N.ob;have ne:∀ {b o},H b=some o->H b≠none:=fun e z=>by rw[e] at z;cases z
 have uY:∀ {l r},eX H L l n r->eX H (fun b=>H b≠none) l n r/\H l≠none:=fun ⟨bs,a,b,c⟩=>⟨⟨bs,a,fun x hx=>by
  obtain⟨j,hj,e⟩:=ub hx;have:=c.2 j (by rw[<-c.1];exact hj);rw[dS,cr hj,Option.getD_some,e] at this;exact ne this,c⟩,ne a⟩
 obtain⟨t1,zs,t2,t3,t4,t5⟩:=d;exact⟨N.m_,dx,tl,ol,ds,a,(uY b).2,(uY c).2,(uY b).1,(uY c).1,ne t2,zs,t2,t3,fun z hz=>ne (t3 z hz),t5⟩
section
variable {P:Program} {w:World} {K:PySem.W.Frag} {mg:Str->Option Value} {base:Heap}
theorem AT:aE ["self","house","home","own"] ["self","house","home"] (al AC):=⟨rfl,rfl,rfl,by decide +kernel,rfl,by decide +kernel,by decide +kernel⟩
def qG(C:Addr):Sp:=fun vs H Q _=>∃ (L:Addr->Prop) (p:Addr) (n:Nat) (ts:Ts) (i j:Nat),vs=[.ref p,.int i,.int j]/\b_ C H L p n ts/\i<n/\j<n/\∀r H',aF H H'->H r=none->H' r=some (.lst (NV (wZ n ts i j)))->Q (.ref r) H'
theorem AU(F:fJ K "good" "Net.good" AC f fd)(T:NT K mg C)(M:e_ P w K mg base be 5 C "far" ["self","one","other"] (vH C)):
  a9 P w K mg base be 6 f fd ["self","house","home"] (qG C):=by
 obtain⟨fM,Uc,mM,bM,GM⟩:=M.ex;refine F.ok AT (fun vs H Q E h=>?_) (fun dg A outer s H vs Q E hr h=>?_)
 .obtain⟨L,p,n,ts,i,j,rfl,_⟩:=h;rfl
 .obtain⟨L,p,n,ts,i,j,rfl,N,hi,hj,k2⟩:=h;obtain⟨dx,tl,ol,ds,h1,_,_,RO,R,_⟩:=N.ob;have fi:=N.m_;have n2:=fi.n2;refine'⟨_,ak (bj (i:=3) AT.nd rfl (Or.inr rfl) (cS (pv 0) T.cl mM GM hr bM .nil aM (aa (pv 1) (aa (pv 2) ag))))
   (ap (aY ?c)),?_⟩
  case c=>
   refine' cA (g:=bA 0) (tt:=rC (kU (v1 fun i j=>.bl (decide (i<j))) (kU (Cn K) (kU (Cn K) (Cg K (bb 1) "distances") (bb 0)) (bb 2)) (bb 3))) (te:=bb 0) (NB:=["other","self","home","own"]) (src:=[none,some 0,some 2,some 3]) (bz (by kernel_rfl)) rfl (cn (bY bv (fA (pv 0) rfl) (pv 1) (fun _ _=>rfl))) ?g ?t ?e;case g=>exact fun cl C s₃ H₃ fp=>aD (i:=0) WZ rfl (Or.inl rfl) (Or.inr rfl)
   case t=>exact fun cl C s₃ H₃ fp=>iA (bu zi (bY bv (bY bv (fA (pv 1) rfl) (pv 0) (fun _ _=>rfl)) (pv 2) (fun _ _=>rfl)) (pv 3) (bB _))
   case e=>exact fun cl C s₃ H₃ fp=>pv 0
  refine⟨_,rfl,p,dx,_,rfl,h1,PF _ _ _ _,_,rfl,_,rfl,L,p,n,ts,i,j,rfl,N,hi,hj,?_⟩;obtain⟨bs,b,r1,r2,r3,_⟩:=RO.row hi;refine⟨_,rfl,p,C,dx,_,_,rfl,h1,T.cl,T.nO,wR _ _ _ _,_,rfl,ol,_,_,_,rfl,rfl,bD.of r1,aO r2,b,rfl,⟨_,bD.of r3⟩,fun D hD=>?_⟩;have nb:b≠D:=ai r3 hD;refine dU (xs:=NV (dt n ts i)) (fun m ys σ H2=>(∃a,σ=[a,some (.ref p),some (.int (j:Int)),some (.int ((far ts i j:Nat):Int))])/\ys=NV (((dt n ts i).take m).filter fun o=>decide (far ts o j<far ts i j))/\H2=upd H D (.lst ys)) ⟨⟨_,rfl⟩,by simp,rfl⟩ (fun m ys σ H2 _ ⟨_,_,e⟩=>by rw[e];exact bD.of (by rw[ah nb];exact r3)) ?_ ?_
  .rintro m x ys σ H2 Kt Kf hx ⟨⟨a,rfl⟩,ey,rfl⟩ kt kf;obtain⟨v,hv,rfl⟩:=pj hx;have Nv:v∈dt n ts i:=cX hv;have IM:v<n:=wJ fi hi Nv;have sm:aF H (upd H D (.lst ys)):=aj hD;obtain⟨YE,b2,q1,q2,q3,_⟩:=R.row IM;have hg:(NV ((List.range n).map (far ts v)))[j]?=some (.int (far ts v j:Nat)):=by
    rw[bw,bw,uc hj];rfl
   have tk:(dt n ts i).take (m+1)=(dt n ts i).take m++[v]:=by rw[iJ,hv];rfl
   have hm:m<(dt n ts i).length:=(dD.mp hv).1;refine⟨_,rfl,p,C,dx,_,_,rfl,sm _ _ h1,T.cl,T.nD,wS _ _ _ _,_,rfl,ds,_,_,_,rfl,rfl,bD.of (sm _ _ q1),aO q2,_,rfl,b2,_,_,_,rfl,rfl,bD.of (sm _ _ q3),aO hg,_,rfl,_,_,rfl,rfl,_,rfl,?_⟩;refine oh (fun e=>?_) (fun e=>?_)
   .refine⟨_,rfl,kt _ _ _ af ?_ ⟨⟨_,rfl⟩,?_,by rw[jr]⟩⟩
    .rw[ey,cK];refine jj (lQ _ _) (jj (ua _ _) (bK (show m<33 from ?_) (by decide)));have:(dt n ts i).length<=n:=bp (lQ _ _) (by simp);lia
    .have:decide (far ts v j<far ts i j)=true:=by simp at e |-;lia
     rw[ey,tk,lV,lN];simp[gR,this]
   .refine kf _ _ ⟨⟨_,rfl⟩,?_,rfl⟩;have:decide (far ts v j<far ts i j)=false:=by simp at e |-;lia
    rw[ey,tk,lV];simp[gR,this]
  .rintro ys σ H2 ⟨_,ey,rfl⟩;rw[cK,kR] at ey;refine k2 D _ (aj hD) hD ?_;rw[af,ey];rfl
theorem Qi:aE ["stand"] ["stand"] (al Qg):=⟨rfl,rfl,rfl,by decide +kernel,rfl,by decide +kernel,by decide +kernel⟩
def GK:Sp:=fun vs H Q _=>∃ (sa:Addr) (st:List (Option Nat)),vs=[.ref sa]/\H sa=some (.tup (st.map oV))/\st.length<=16/\∀ (r:Addr) (H':Hp),aF H H'->H r=none->H' r=some (.lst (NV (yG st st.length)))->Q (.ref r) H'
theorem K3{f:Addr}{fd:FuncData}(F:fJ K "under_way" "under_way" Qg f fd)(hE:mg "enumerate"=none):a9 P w K mg base be 1 f fd ["stand"] GK:=by
 refine F.ok Qi (fun vs H Q E h=>?_) (fun dg A outer s H vs Q E hr h=>?_)
 .obtain⟨sa,st,rfl,_⟩:=h;rfl
 .obtain⟨sa,st,rfl,hS,hl,q⟩:=h;refine'⟨_,(ap (aY ?c1)),?_⟩;case c1=>
   refine' cA (g:=(uI K 2 (fU (bA 0) (fU (bA 1) uH)))) (tt:=(rC (kU K1 (bb 1) (tC .bH)))) (te:=(bb 0)) (NB:=["letter","house"]) (src:=[none,none]) (bz (by kernel_rfl)) rfl (Ae rfl hE (aa (pv 0) ag)) ?g ?t ?e;case g=>exact fun cl C s₃ H₃ fp=>(fz (n:=2) rfl (a_ (aD (i:=0) gH rfl (Or.inl rfl) (Or.inr rfl)) (a_ (aD (i:=1) gH rfl (Or.inl rfl) (Or.inr rfl)) dX)))
   case t=>exact fun cl C s₃ H₃ fp=>iA (bu B_ (pv 1) fw (bB _))
   case e=>exact fun cl C s₃ H₃ fp=>(pv 0)
  refine⟨_,rfl,sa,_,rfl,cQ.of hS,fun D hD=>?_⟩;refine vq (K:=K) (a:=sa) (xs:=st.map oV) (fun i ys σ H3=>(∃u v,σ=[u,v])/\ys=NV (yG st i)/\aF H H3/\H3 D=some (.lst ys)) ⟨⟨_,_,rfl⟩,rfl,aj hD,af⟩ (fun i ys σ H3 _ z=>cQ.of (z.2.2.1 _ _ hS)) ?_ ?_
  .rintro i x t ys σ H3 Kt Kf hx ⟨⟨u,v,rfl⟩,rfl,sm,re⟩ ht kt kf;obtain⟨hi,rfl⟩:=GJ hx;have aL:=aj (o:=.tup [.int (i:Int),oV (st.getD i none)]) ht;refine⟨_,_,rfl,cQ.of af,rfl,_,_,rfl,_,_,rfl,rfl,?_⟩;refine⟨_,rfl,rfl,_,rfl,?_⟩;rw[Dp];refine oh (fun e=>?_) (fun e=>?_)
   .refine⟨_,rfl,kt _ _ _ (aL _ _ re) (by rw[cK];exact jj wX (bK (show i<17 by lia) (by decide))) ⟨⟨_,_,rfl⟩,?_,cf (sm.trans aL) hD,af⟩⟩;rw[sL,ao e,lN]
   .refine kf _ _ ⟨⟨_,_,rfl⟩,?_,sm.trans aL,aL _ _ re⟩;rw[sL,am e,jX]
  .rintro ys σ H3 ⟨_,rfl,sm,re⟩;rw[aT] at re;exact q D H3 sm hD re
theorem GQ:aE ["others","stand","goes","letter","taken","house"] ["others","stand","goes","letter"] (al Qh):=⟨rfl,rfl,rfl,by decide +kernel,rfl,by decide +kernel,by decide +kernel⟩
def GS:Sp:=fun vs H Q _=>∃ (oa sa ga:Addr) (os:List Nat) (st gs:List (Option Nat)) (l:Nat),vs=[.ref oa,.ref sa,.ref ga,.int l]/\H oa=some (.lst (NV os))/\H sa=some (.tup (st.map oV))/\H ga=some (.lst (gs.map oV))/\gs.length=st.length/\st.length<=16/\l<st.length/\∀H',aF H H'->Q (oV (EY st gs l os)) H'
theorem K4{f:Addr}{fd:FuncData}(F:fJ K "first_free" "first_free" Qh f fd)(B:Bl mg):a9 P w K mg base be 1 f fd ["others","stand","goes","letter"] GS:=by
 refine F.ok GQ (fun vs H Q E h=>?_) (fun dg A outer s H vs Q E hr h=>?_)
 .obtain⟨oa,sa,ga,os,st,gs,l,rfl,_⟩:=h;rfl
 .obtain⟨oa,sa,ga,os,st,gs,l,rfl,hO,hS,hG,gl,sl,hl,q⟩:=h;refine'⟨_,(ak (dk (i:=4) (g:=(bA 0)) (tt:=(rC (kU (M5) (kU (Co K) (bb 2) (bb 0)) (kU (Co K) (bb 2) (bb 3))))) (te:=(kU (Cn K) (bb 1) (bb 0))) (NB:=["ahead","goes","stand","letter"]) (src:=[none,some 2,some 1,some 3]) (bz (by kernel_rfl)) rfl (cR rfl B.range (aa (au aP (by rfl) B.len eF (aa (pv 1) ag)) ag)) ?g1 ?t1 ?e1 GQ.nd rfl rfl rfl)
   (ak (hW jn rfl (cn (pv 0)) (aD (i:=5) GQ.nd rfl (Or.inl rfl))
    (ap (cG (bu qb (pv 5) (pv 4) rfl) (ap (aY (pv 5))) br)))
   (ap (aY fw)))),?_⟩
  case g1=>exact fun cl C s₃ H₃ fp=>(aD (i:=0) eY rfl (Or.inl rfl) (Or.inr rfl))
  case t1=>exact fun cl C s₃ H₃ fp=>iA (bu jv (bY h_ (pv 2) (pv 0) (fun _ _=>rfl)) (bY h_ (pv 2) (pv 3) (fun _ _=>rfl)) (bB _))
  case e1=>exact fun cl C s₃ H₃ fp=>(bY bv (pv 1) (pv 0) (fun _ _=>rfl))
  refine⟨_,rfl,sa,_,rfl,.inr (cQ.of hS),(((st.map oV).length:Nat):Int),rfl,by lia,by rw[aT];lia,fun D hD=>?_⟩;rw[jR,aT];refine dq (fun i ys σ H2=>(∃x,σ=[x,some (.ref ga),some (.ref sa),some (.int (l:Int))])/\aF H H2/\H2 D=some (.lst ys)/\ys=(((List.range i).filter fun a=>decide (st.getD a none=st.getD l none)).map fun a=>gs.getD a none).map oV) ⟨⟨_,rfl⟩,aj hD,af,rfl⟩ ?_ ?_
  .rintro i ys σ H2 Kt Kf hi ⟨⟨x,rfl⟩,sm,gP,rfl⟩ kt kf;rw[gU];refine⟨_,rfl,_,rfl,sa,_,_,_,rfl,rfl,cQ.of (sm _ _ hS),aO (pk hi),_,rfl,_,rfl,sa,_,_,_,rfl,rfl,cQ.of (sm _ _ hS),aO (pk hl),Dr,_,rfl,?_⟩;rw[K2];refine oh (fun c=>?_) (fun c=>?_)
   .refine⟨_,rfl,_,rfl,ga,_,_,_,rfl,rfl,bD.of (sm _ _ hG),aO (pk (by lia)),?_⟩;refine kt _ _ _ gP ?_ ⟨⟨_,rfl⟩,cf sm hD,af,?_⟩
    .rw[aT,aT];refine jj (lQ _ _) ?_;rw[iK];exact bK (show i<17 by lia) (by decide)
    .rw[jV,lV,c_,c_,gR,ao c];rfl
   .refine kf _ _ ⟨⟨_,rfl⟩,sm,gP,?_⟩;rw[jV,lV,gR,am c,List.filter_nil,jX]
  rintro ys σ H2 ⟨_,sm,gP,rfl⟩;have W0:∀h:Nat,BO (.int (h:Int)) ((((List.range st.length).filter fun a=>decide (st.getD a none=st.getD l none)).map fun a=>gs.getD a none).map oV)=(List.range st.length).any fun a=>decide (st.getD a none=st.getD l none)&&decide (gs.getD a none=some h):=fun h=>by
   rw[EZ,List.any_map,List.any_filter];rfl
  generalize hw:(((List.range st.length).filter fun a=>decide (st.getD a none=st.getD l none)).map fun a=>gs.getD a none)=ws at *;refine⟨_,rfl,oa,rfl,⟨_,bD.of (sm _ _ hO)⟩,hX (K:=K) (xs:=NV os) (fun j σ H3=>(∃x,σ=[some (.ref oa),some (.ref sa),some (.ref ga),some (.int (l:Int)),some (.ref D),x])/\H3=H2/\EY st gs l os=EY st gs l (os.drop j)) ⟨⟨_,rfl⟩,rfl,rfl⟩ (fun j σ H3 _ z=>by rw[z.2.1];exact bD.of (sm _ _ hO)) ?_ ?_⟩
  .rintro j x σ H3 hx ⟨⟨x5,rfl⟩,rfl,ef⟩;obtain⟨h,hv,rfl⟩:=pj hx;have hj:j<os.length:=(dD.mp hv).1;have ed:os.drop j=h::os.drop (j+1):=by
    rw[pE hj];congr 1;exact(dD.mp hv).2
   refine⟨_,rfl,_,rfl,D,_,rfl,.inl (bD.of gP),rfl,nr,_,rfl,?_⟩;have W1:EY st gs l (h::os.drop (j+1))=if (!BO (.int (h:Int)) (ws.map oV))=true then some h else EY st gs l (os.drop (j+1)):=by
    rw[W0];unfold EY;rw[List.find?_cons];cases (!((List.range st.length).any fun a=>decide (st.getD a none=st.getD l none)&&decide (gs.getD a none=some h))) <;> rfl
   rw[ed,W1] at ef;refine oh (fun c=>?_) (fun c=>?_)
   .have c:(!BO (.int (h:Int)) (ws.map oV))=true:=c;rw[ao c] at ef;refine⟨_,rfl,?_⟩;have:=q H3 sm;rw[ef] at this;exact this
   .have c:¬ (!BO (.int (h:Int)) (ws.map oV))=true:=c;rw[am c] at ef;exact⟨⟨_,rfl⟩,rfl,ef⟩
  .rintro σ H3 ⟨⟨x5,rfl⟩,rfl,ef⟩;have:=q H3 sm;rw[ef,cK,List.drop_length] at this;exact this
end
structure nu(n:Nat)(homes:List Nat)(st:List (Option Nat)):Prop where
 le:st.length<=16
 len:homes.length=st.length
 hs:∀x∈homes,x<n
 ss:∀y,some y∈st->y<n
theorem nu.at(S:nu n homes st)(h:l∈yG st st.length):l<st.length/\∃y,st.getD l none=some y/\y<n/\homes.getD l 0<n:=by
 obtain⟨a,b⟩:=w4 h;refine⟨a,_,b,S.ss _ ?_,S.hs _ ?_⟩
 .rw[<-b,dS,cr a];exact jl _
 .rw[CV (by rw[S.len];exact a)];exact jl _
theorem K5(n:Int)(tl ol ds:Addr):(kD n tl ol ds).lookup ("good":Str)=none:=lM n tl ol ds (by decide +kernel) (by decide +kernel) (by decide +kernel) (by decide +kernel)
theorem Qj(n:Int)(tl ol ds:Addr):(kD n tl ol ds).lookup ("out":Str)=none:=lM n tl ol ds (by decide +kernel) (by decide +kernel) (by decide +kernel) (by decide +kernel)
theorem w5:(dt n ts h).length<=n:=bp (lQ _ _) (by simp)
theorem b_.Ds(N:b_ C H L p n ts):∃dx fs,H p=some (.ins C dx fs)/\fs.lookup ("good":Str)=none/\fs.lookup ("out":Str)=none:=by
 obtain⟨dx,tl,ol,ds,a,_⟩:=N.ob;exact⟨dx,_,a,K5 _ _ _ _,Qj _ _ _ _⟩
section
variable {P:Program} {w:World} {K:PySem.W.Frag} {mg:Str->Option Value} {base:Heap}
end
def tE(o:HO):Prop:=∀ps,o≠.de ps
theorem b_.Um(N:b_ C H L p n ts):b_ C H (fun b=>L b/\∃o,H b=some o/\tE o) p n ts:=by
 obtain⟨dx,tl,ol,ds,a,l1,l2,b,c,d⟩:=N.ob;have ne:∀ {b xs},L b->H b=some (.lst xs)->L b/\∃o,H b=some o/\tE o:=fun l e=>⟨l,_,e,fun ps z=>by cases z⟩
 have W2:∀ {b xs},L b->H b=some (.tup xs)->L b/\∃o,H b=some o/\tE o:=fun l e=>⟨l,_,e,fun ps z=>by cases z⟩
 have uY:∀ {l r},L l->eX H L l n r->eX H (fun b=>L b/\∃o,H b=some o/\tE o) l n r/\(L l/\∃o,H l=some o/\tE o):=fun hl ⟨bs,a,b,c⟩=>⟨⟨bs,a,fun x hx=>by
  obtain⟨j,hj,e⟩:=ub hx;have:=c.2 j (by rw[<-c.1];exact hj);rw[dS,cr hj,Option.getD_some,e] at this;exact ne (b x hx) this,c⟩,ne hl a⟩
 obtain⟨t1,zs,t2,t3,t4,t5⟩:=d;exact⟨N.m_,dx,tl,ol,ds,a,(uY l1 b).2,(uY l2 c).2,(uY l1 b).1,(uY l2 c).1,ne t1 t2,zs,t2,t3,fun z hz=>W2 (t4 z hz) (t3 z hz),t5⟩
theorem _root_.L2.cw.not(t:cw lp q Pt H)(h:H b=some o)(n:∀ps,o≠.de ps):b≠Pt:=by
 rintro rfl;rcases t with z|⟨c,z,_⟩ <;> · rw[h] at z;exact n _ (bh z)
theorem _root_.L2.cw.same(t:cw lp q Pt H)(e:aF H H'):cw lp q Pt H':=by
 rcases t with z|⟨c,z,y⟩
 .exact .inl (e _ _ z)
 .exact .inr ⟨c,e _ _ z,e _ _ y⟩
def GT(st:Stmt)(i:Nat):Expr:=match (aX st).getD i (.Pass ⟨0,0,0,0⟩) with
 |.Return (some (.Call _ _ (k::_) _)) _=>k.value
 |_=>.Name "x" ⟨0,0,0,0⟩
def sP:Expr->Arguments
 |.Lambda a _ _ _=>a
 |_=>{ posonlyargs:=[],args:=[],vararg:=none,kwonlyargs:=[],kw_defaults:=[],kwarg:=none,defaults:=[] }
def rf:Expr->Expr
 |.Lambda _ b _ _=>b
 |e=>e
def rh:Expr->Scope
 |.Lambda _ _ s _=>s
 |_=>{ kind:=.function,names:=[],isGenerator:=false,isCoroutine:=false }
def yH:Expr->Pos
 |.Lambda _ _ _ p=>p
 |_=>⟨0,0,0,0⟩
theorem Dt:(yG st i).Pairwise (·<·):=List.Pairwise.filter _ List.pairwise_lt_range
theorem AV(s1:aF H H1)(t2:cw lp q PN H2)(d_:∀b o,H1 b=some o->b≠PN->H2 b=some o)(s3:aF H2 H3)(Ny:H3 r=none):H r=none:=by
 have h2:H2 r=none:=s3.free Ny;cases z:H r with
 |none=>rfl
 |some o=>
  by_cases e:r=PN
  .subst e;rcases t2 with q|⟨_,q,_⟩ <;> (rw[h2] at q;cases q)
  .rw[d_ r o (s1 _ _ z) e] at h2;cases h2
def f_(CR:Addr)(H:Hp)(rx:Addr)(ranks:List Int):Prop:=∃rd ra,H rx=some (.ins CR rd [("ranks",.ref ra)])/\H ra=some (.tup (ranks.map V.int))
theorem f_.same{CR:Addr}{H H':Hp}{rx:Addr}{ranks:List Int}(h:f_ CR H rx ranks)(s:aF H H'):f_ CR H' rx ranks:=let ⟨rd,ra,a,b⟩:=h;⟨rd,ra,s _ _ a,s _ _ b⟩
structure AW(K:PySem.W.Frag)(mg:Str->Option Value)(CR:Addr):Prop where
 cl:xy K CR
 nR:eU K CR "ranks"
 KC:mg "Ranked"=some (.ref CR)
theorem E3{v:V}:([("ranks",v)]:List (Str×V)).lookup ("check_letters":Str)=none:=by
 rw[cV];rw[show (("check_letters":Str)==("ranks":Str))=false by decide +kernel];rfl
theorem AX{v:V}:([("ranks",v)]:List (Str×V)).lookup ("ranks":Str)=some v:=by
 rw[cV];rw[show (("ranks":Str)==("ranks":Str))=true by decide +kernel]
abbrev ny:Stmt:=eL (top 30) 0
abbrev w6:Stmt:=eL (top 30) 1
abbrev GU:Stmt:=eL (top 24) 2
theorem w9:(["rank"]:List Str).Nodup:=by decide +kernel
abbrev nz:Stmt:=eL (top 30) 2
def IU:Expr:=GT nz 1
def Qk:Str:=("Ranked.order":Str)++".<locals>."++"<lambda>"
abbrev cT(PN:Addr)(H:Hp):Prop:=cw (yH IU) Qk PN H
section
variable {P:Program} {w:World} {K:PySem.W.Frag} {mg:Str->Option Value} {base:Heap}
theorem AY:aE ["self","homes"] ["self","homes"] (al w6):=⟨rfl,rfl,rfl,by decide +kernel,rfl,by decide +kernel,by decide +kernel⟩
def vO(CR:Addr):Sp:=fun vs H Q _=>∃ (rx ha:Addr) (ranks:List Int) (homes:List Nat),vs=[.ref rx,.ref ha]/\f_ CR H rx ranks/\H ha=some (.tup (NV homes))/\ranks.length=homes.length/\Q .bH H
theorem Du{f CR:Addr}{fd:FuncData}(F:fJ K "check_letters" "Ranked.check_letters" w6 f fd)(B:Bl mg)(RT:AW K mg CR):a9 P w K mg base be 1 f fd ["self","homes"] (vO CR):=by
 refine F.ok AY (fun vs H Q E h=>?_) (fun dg A outer s H vs Q E hr h=>?_)
 .obtain⟨rx,ha,ranks,homes,rfl,_⟩:=h;rfl
 .obtain⟨rx,ha,ranks,homes,rfl,⟨rd,ra,g1,g2⟩,hH,rl,q⟩:=h;refine⟨_,(ap (cG (bu kW (au aP (by rfl) B.len eF (aa (fA (pv 0) rfl) ag)) (au aP (by rfl) B.len eF (aa (pv 1) ag)) (bB _)) bL br)),?_⟩;exact⟨_,rfl,rx,CR,rd,_,_,rfl,g1,RT.cl,RT.nR,AX,ra,_,rfl,.inr (cQ.of g2),_,rfl,ha,_,rfl,.inr (cQ.of hH),rfl,_,rfl,sO (by rw[aT,cK,rl];simp) q⟩
theorem K6:aE ["self","homes"] ["self","homes"] (al GU):=⟨rfl,rfl,rfl,by decide +kernel,rfl,by decide +kernel,by decide +kernel⟩
def AZ:Sp:=fun vs H Q _=>∃ (x y:V),vs=[x,y]/\Q (.int 1) H
theorem GV{f:Addr}{fd:FuncData}(F:fJ K "period" "Rule.period" GU f fd):a9 P w K mg base be 1 f fd ["self","homes"] AZ:=by
 refine F.ok K6 (fun vs H Q E h=>?_) (fun dg A outer s H vs Q E hr h=>?_)
 .obtain⟨x,y,rfl,_⟩:=h;rfl
 .obtain⟨x,y,rfl,q⟩:=h;exact⟨_,(ap (aY aw)),q⟩
theorem w_:aE ["self","ranks"] ["self","ranks"] (al ny):=⟨rfl,rfl,rfl,by decide +kernel,rfl,by decide +kernel,by decide +kernel⟩
def qH(CR:Addr):Sp:=fun vs H Q _=>∃ (p dx ra:Addr) (ranks:List Int),vs=[.ref p,.ref ra]/\H p=some (.ins CR dx [])/\H ra=some (.tup (ranks.map V.int))/\ranks.length<=16/\∀H',f_ CR H' p ranks->aS p H H'->Q .bH H'
theorem A0{f CR:Addr}{fd:FuncData}(F:fJ K "__init__" "Ranked.__init__" ny f fd)(B:Bl mg)(RT:AW K mg CR)(WH:dA P w K mg base be 1 "is_whole" ["thing"] (gw K)):a9 P w K mg base be 2 f fd ["self","ranks"] (qH CR):=by
 refine F.ok w_ (fun vs H Q E h=>?_) (fun dg A outer s H vs Q E hr h=>?_)
 .obtain⟨p,dx,ra,ranks,rfl,_⟩:=h;rfl
 .obtain⟨p,dx,ra,ranks,rfl,hp,vP,rl,q⟩:=h;refine'⟨_,(ak (cG (PW.pt (oF (dh (cm (au eV (by rfl) B.rc dM (aa (pv 1) (aa (gf (v:=.ty "tuple") rfl B.tup lP rfl) ag))))) (j6 (dh (cm (au (o7 rfl) (by rfl) B.all PyProof.Rows.boot_all (aa ?c1 ag))))))) bL br)
   (ap (mD (pv 0) (pv 1) rfl))),?_⟩
  case c1=>
   refine' cA (g:=(bA 0)) (te:=gG (gw K) [] E0 (aQ (bb 0) eA)) (NB:=["rank"]) (src:=[none]) (bz (by kernel_rfl)) rfl (uL (pv 1)) ?g ?t ?e;case g=>exact fun cl C s₃ H₃ fp=>(aD (i:=0) w9 rfl (Or.inl rfl) (Or.inr rfl))
   case t=>exact fun cl C s₃ H₃ fp=>cq
   case e=>exact fun cl C s₃ H₃ fp=>aJ WH hr aM (aa (pv 0) ag)
  refine⟨_,rfl,_,_,_,.type "tuple",true,rfl,⟨rfl,qz⟩,.of (.tup vP),_,rfl,fZ ?_⟩;refine⟨_,rfl,ra,rfl,⟨_,cQ.of vP⟩,fun D hD=>?_⟩;refine nq (K:=K) (a:=ra) (xs:=ranks.map V.int) (fun i ys σ H2=>(∃x,σ=[x])/\aF H H2/\H2 D=some (.lst ys)/\ys=(List.replicate i true).map V.bl) ⟨⟨_,rfl⟩,aj hD,af,rfl⟩ (fun i ys σ H2 _ z=>cQ.of (z.2.1 _ _ vP)) ?_ ?_
  .rintro i x ys σ H2 Kt Kf hx ⟨⟨x',rfl⟩,sm,gP,rfl⟩ kt kf;have hi:i<ranks.length:=by have:=(dD.mp hx).1;rwa [aT] at this
   rw[bw,cr hi] at hx;cases hx;refine⟨_,rfl,_,_,rfl,.int _,?_⟩;exact kt _ _ _ gP (by rw[aT,ji];exact bK (show i<17 by lia) (by decide)) ⟨⟨_,rfl⟩,cf sm hD,af,by rw[pI,c_];rfl⟩
  .rintro ys σ H2 ⟨_,sm,gP,rfl⟩;refine⟨D,_,rfl,bD.of gP,_,rfl,?_⟩;have e:(List.replicate (ranks.map V.int).length true).all id=true:=by
    rw[lX];intro x zS;rw[(List.mem_replicate.mp zS).2];rfl
   rw[e];refine fZ ⟨_,rfl,_,rfl,p,CR,dx,[],rfl,sm _ _ hp,RT.cl,RT.nR,(by show 0<1000;decide),?_⟩;have W3:ra≠p:=by rintro rfl;rw[hp] at vP;cases vP
   exact q _ ⟨dx,ra,by rw[af];rfl,by rw[ah W3];exact sm _ _ vP⟩ (fun b o e n=>by rw[ah n];exact sm _ _ e)
theorem A4:aE ["self","net","homes","stand","beat"] ["self","net","homes","stand","beat"] (al nz):=⟨rfl,rfl,rfl,by decide +kernel,rfl,by decide +kernel,by decide +kernel⟩
def nA(CR PN:Addr):Sp:=fun vs H Q _=>∃ (x1 x4:V) (rx ha sa:Addr) (n:Nat) (ranks:List Int) (homes:List Nat) (st:List (Option Nat)),vs=[.ref rx,x1,.ref ha,.ref sa,x4]/\f_ CR H rx ranks/\ranks.length=homes.length/\H ha=some (.tup (NV homes))/\H sa=some (.tup (st.map oV))/\nu n homes st/\cT PN H/\
 ∀ (r:Addr) (H':Hp) (out:List Nat),cT PN H'->iT PN H H'->H r=none->out.Perm (yG st st.length)->out.Pairwise (Kq (fun l=>ranks.getD l 0))->H' r=some (.lst (NV out))->Q (.ref r) H'
theorem K7{f c CR PN:Addr}{fd:FuncData}(F:lu K "order" "Ranked.order" nz f fd c)(B:Bl mg)(kb:K.In base)(hb:ln mg base)(hc:PySem.W.codeHdIn K c PN=true)(RT:AW K mg CR)(MC:e_ P w K mg base be 1 CR "check_letters" ["self","homes"] (vO CR))(UW:dA P w K mg base be 1 "under_way" ["stand"] GK):
  a9 P w K mg base be 9 f fd ["self","net","homes","stand","beat"] (nA CR PN):=by
 obtain⟨fC,Uo,mC,bC,GC⟩:=MC.ex;refine F.ok A4 (fun vs H Q E h=>?_) (fun A outer s H vs Q E hr h=>?_)
 .obtain⟨x1,x4,rx,ha,sa,n,ranks,homes,st,rfl,_⟩:=h;rfl
 .obtain⟨x1,x4,rx,ha,sa,n,ranks,homes,st,rfl,RK,rl,hH,hS,LO,tb,q⟩:=h;have h1:bQ 1 _:=hr.mono (by decide);have LF:Al (gJ be P w K mg base ["self","net","homes","stand","beat"] "Ranked.order" (al nz) f (.ref c) A outer s H E).BL ["letter","self"] [none,some 0] (rh IU) Qk (sP IU) (rf IU) "letter":=
   ⟨bz (by kernel_rfl),fun _ _ _ _ _=>rfl,rfl,rfl,rfl,by decide +kernel,rfl,rfl⟩
  have PB:∀f' c' aI s' H',PE (sA (gJ be P w K mg base ["self","net","homes","stand","beat"] "Ranked.order" (al nz) f (.ref c) A outer s H E).BL ["letter","self"] (rh IU) aI Qk f' c' s' H') (rf IU) (kU (Co K) (Cg K (bb 1) "ranks") (bb 0)):=fun f' c' aI s' H'=>
   bY h_ (fA (pv 1) rfl) (pv 0) (fun _ _=>rfl)
  refine⟨_,(ak (df (cS (pv 0) RT.cl mC GC h1 bC .nil aM (aa (pv 2) ag))) (ap (aY (o4 (vA hr LF PB) rfl B.sorted tP (aa (aJ UW h1 aM (aa (pv 3) ag)) ag) (v8 (vi (NB:=["letter","self"]) (src:=[none,some 0]) (jF kb hb hc) (bz (by kernel_rfl))) zy))))),?_⟩;obtain⟨K8,Up,Dv,Uq⟩:=id RK;refine⟨_,rfl,rx,K8,_,rfl,Dv,E3,_,rfl,rx,ha,ranks,homes,rfl,RK,hH,rl,?_⟩;refine⟨_,rfl,sa,st,rfl,hS,LO.le,fun l H1 s1 M9 hl=>?_⟩;have t1:=tb.same s1;refine⟨t1,fun f' c' H2 t2 d_ BK zU=>?_⟩;have K9:∀ {b o},H1 b=some o->(∀ps,o≠.de ps)->H2 b=some o:=fun e n=>d_ _ _ e (t1.not e n);have Ow:=K9 hl (by intro ps z;cases z);have YF:=K9 (s1 _ _ hH) (by intro ps z;cases z);have Ur:=K9 (s1 _ _ hS) (by intro ps z;cases z);obtain⟨rd,ra,g1,g2⟩:=RK.same s1;have g1:=K9 g1 (by intro ps z;cases z);have g2:=K9 g2 (by intro ps z;cases z);refine⟨l,f',c',yG st st.length,(fun l=>ranks.getD l 0),rfl,rfl,bD.of Ow,jj wX (by have:=LO.le;lia),Dt,fun n hn=>by have:=(w4 hn).1;have:=LO.le;lia,zU,BK,fun m hm H3 s3=>?_,fun r H3 out s3 Ny op pw=>?_⟩
  .obtain⟨Us,y,ey,hy,Ql⟩:=LO.at hm;refine⟨_,rfl,rx,CR,rd,_,_,rfl,s3 _ _ g1,RT.cl,RT.nR,AX,_,rfl,ra,_,_,_,rfl,rfl,cQ.of (s3 _ _ g2),aO (by rw[bw,cr (show m<ranks.length by rw[rl,LO.len];exact Us)];rfl),?_,aF.refl _⟩;dsimp only;rw[dS,cr (show m<ranks.length by rw[rl,LO.len];exact Us)];rfl
  .have sm:=aj (o:=.lst (NV out)) Ny;exact q r _ out ((cw.same t2 s3).same sm) (fun b o e n=>sm _ _ (s3 _ _ (d_ _ _ (s1 _ _ e) n))) (AV s1 t2 d_ s3 Ny) op pw af
end
section
variable {n:Nat} {ts:Ts} {homes:List Nat} {st g g1:List (Option Nat)} {gd ou:Nat->List Nat} {l x y:Nat} {os p:List Nat}
noncomputable def E4(n:Nat)(ts:Ts)(st g:List (Option Nat))(l:Nat):List (Option Nat):=if g.getD l none=none then g.set l (EY st g l (dt n ts ((st.getD l none).getD 0))) else g
noncomputable def BZ(n:Nat)(ts:Ts)(homes:List Nat)(st g:List (Option Nat))(l:Nat):List (Option Nat):=g.set l (EY st g l (wZ n ts ((st.getD l none).getD 0) (homes.getD l 0)))
end
abbrev Qm:Stmt:=top 33
section
variable {P:Program} {w:World} {K:PySem.W.Frag} {mg:Str->Option Value} {base:Heap}
theorem GW:aE ["net","homes","stand","letters","goes","letter"] ["net","homes","stand","letters","goes"] (al Qm):=⟨rfl,rfl,rfl,by decide +kernel,rfl,by decide +kernel,by decide +kernel⟩
def GX(C:Addr):Sp:=fun vs H Q _=>∃ (L:Addr->Prop) (px ha sa la ga:Addr) (n:Nat) (ts:Ts) (homes os:List Nat) (st gs:List (Option Nat)),vs=[.ref px,.ref ha,.ref sa,.ref la,.ref ga]/\b_ C H L px n ts/\¬ L ga/\H ha=some (.tup (NV homes))/\H sa=some (.tup (st.map oV))/\nu n homes st/\(∀l∈os,l∈yG st st.length)/\H la=some (.lst (NV os))/\la≠ga/\H ga=some (.lst (gs.map oV))/\gs.length=st.length/\
 ∀H',aS ga H H'->H' ga=some (.lst ((os.foldl (E4 n ts st) (os.foldl (BZ n ts homes st) gs)).map oV))->Q .bH H'
theorem qI{n:Nat}{ts:Ts}{homes:List Nat}{st:List (Option Nat)}:∀ {ls:List Nat} {gs:List (Option Nat)},(ls.foldl (BZ n ts homes st) gs).length=gs.length
 |[],gs=>rfl
 |l::ls,gs=>by rw[lY,qI];unfold BZ;rw[l_]
theorem xa{n:Nat}{ts:Ts}{st:List (Option Nat)}:∀ {ls:List Nat} {gs:List (Option Nat)},(ls.foldl (E4 n ts st) gs).length=gs.length
 |[],gs=>rfl
 |l::ls,gs=>by rw[lY,xa];unfold E4;split <;> simp
theorem K_{f C:Addr}{fd:FuncData}(F:fJ K "hand_eagerly" "hand_eagerly" Qm f fd)(T:NT K mg C)(MG:e_ P w K mg base be 6 C "good" ["self","house","home"] (qG C))(MO:e_ P w K mg base be 5 C "out" ["self","house"] (vG C))(FF:dA P w K mg base be 1 "first_free" ["others","stand","goes","letter"] GS):
  a9 P w K mg base be 7 f fd ["net","homes","stand","letters","goes"] (GX C):=by
 obtain⟨fG,YG,mG,bG,GG⟩:=MG.ex;obtain⟨fO,YH,mO,bO,GO⟩:=MO.ex;refine F.ok GW (fun vs H Q E h=>?_) (fun dg A outer s H vs Q E hr h=>?_)
 .obtain⟨L,px,ha,sa,la,ga,n,ts,homes,os,st,gs,rfl,_⟩:=h;rfl
 .obtain⟨L,px,ha,sa,la,ga,n,ts,homes,os,st,gs,rfl,N,Ut,hH,hS,LO,ho,hL,Qn,hG,gl,q⟩:=h;have h1:bQ 1 _:=hr.mono (by decide);have h5:bQ 5 _:=hr.mono (by decide);refine⟨_,(ak (hW jn rfl (cn (pv 3)) (aD (i:=5) GW.nd rfl (Or.inl rfl))
    (ap (hV (aJ FF h1 aM (aa (cS (pv 0) T.cl mG GG hr bG .nil aM (aa (bY h_ (pv 2) (pv 5) (fun _ _=>rfl)) (aa (bY h_ (pv 1) (pv 5) (fun _ _=>rfl)) ag))) (aa (pv 2) (aa (pv 4) (aa (pv 5) ag))))) (j8 (pv 4) (pv 5) fX))))
   (ap (hW jn rfl (cn (pv 3)) (aD (i:=5) GW.nd rfl (Or.inl rfl))
    (ap (cG (bu zj (bY bv (pv 4) (pv 5) (fun _ _=>rfl)) fw (bB _)) (ap (hV (aJ FF h1 aM (aa (cS (pv 0) T.cl mO GO h5 bO .nil aM (aa (bY h_ (pv 2) (pv 5) (fun _ _=>rfl)) ag)) (aa (pv 2) (aa (pv 4) (aa (pv 5) ag))))) (j8 (pv 4) (pv 5) fX))) br))))),?_⟩
  have n2:=N.m_.n2;have Uu:px≠ga:=by obtain⟨dx,fs,a,_⟩:=N.Ds;rintro rfl;rw[a] at hG;cases hG
  have W4:ha≠ga:=by rintro rfl;rw[hH] at hG;cases hG
  have Uv:sa≠ga:=by rintro rfl;rw[hS] at hG;cases hG
  refine⟨_,rfl,la,rfl,⟨_,bD.of hL⟩,hX (K:=K) (xs:=NV os) (fun j σ Hc=>(∃x,σ=[some (.ref px),some (.ref ha),some (.ref sa),some (.ref la),some (.ref ga),x])/\aS ga H Hc/\Hc ga=some (.lst (((os.take j).foldl (BZ n ts homes st) gs).map oV))) ⟨⟨_,rfl⟩,aS.refl,hG⟩ (fun j σ Hc _ z=>bD.of (z.2.1 _ _ hL Qn)) ?_ ?_⟩
  .rintro j x σ Hc hx ⟨⟨x5,rfl⟩,sc,xb⟩;obtain⟨l,hv,rfl⟩:=pj hx;obtain⟨hl,y,ey,hy,Ql⟩:=LO.at (ho l (cX hv));have tk:os.take (j+1)=os.take j++[l]:=by rw[iJ,hv];rfl
   rw[tk,List.foldl_append,lY,List.foldl_nil];have Nz:((os.take j).foldl (BZ n ts homes st) gs).length=st.length:=by rw[qI,gl]
   generalize (os.take j).foldl (BZ n ts homes st) gs=g at *;have Nc:=N.keep (fun b o l e=>sc b o e (by rintro rfl;exact Ut l)) (fun o e=>sc _ _ e Uu);have W5:=sc _ _ hH W4;have La:=sc _ _ hS Uv;obtain⟨dx,fs,i1,i2,i3⟩:=Nc.Ds;refine⟨_,rfl,px,dx,fs,rfl,i1,i2,_,rfl,_,rfl,sa,_,_,_,rfl,rfl,cQ.of La,aO (pk hl),?_⟩;rw[ey];have lg:(wZ n ts y (homes.getD l 0)).length<=n:=bp (lQ _ _) w5;refine⟨_,rfl,_,rfl,ha,_,_,_,rfl,rfl,cQ.of W5,aO (K0 (by rw[LO.len];exact hl)),L,px,n,ts,y,homes.getD l 0,rfl,Nc,hy,Ql,fun r1 H1 s1 IP g1=>?_⟩;refine⟨_,rfl,_,rfl,_,rfl,r1,sa,ga,wZ n ts y (homes.getD l 0),st,g,l,rfl,g1,s1 _ _ La,s1 _ _ xb,Nz,LO.le,hl,fun H4 s4=>?_⟩;have A5:=s1.trans s4;refine⟨_,rfl,_,rfl,ga,_,(l:Int),l,rfl,rfl,A5 _ _ xb,iB (by rw[aT,Nz];exact hl),⟨_,rfl⟩,fun b o e m=>by rw[ah m];exact A5 _ _ (sc _ _ e m),?_⟩;rw[af];unfold BZ;rw[ey,List.map_set];rfl
  .rintro σ Hc ⟨⟨x5,rfl⟩,sc,xb⟩;rw[cK,kR] at xb;have Nz:(os.foldl (BZ n ts homes st) gs).length=st.length:=by rw[qI,gl]
   generalize os.foldl (BZ n ts homes st) gs=g0 at *;refine⟨_,rfl,la,rfl,⟨_,bD.of (sc _ _ hL Qn)⟩,hX (K:=K) (xs:=NV os) (fun j σ Hc=>(∃x,σ=[some (.ref px),some (.ref ha),some (.ref sa),some (.ref la),some (.ref ga),x])/\aS ga H Hc/\Hc ga=some (.lst (((os.take j).foldl (E4 n ts st) g0).map oV))) ⟨⟨_,rfl⟩,sc,xb⟩ (fun j σ Hc _ z=>bD.of (z.2.1 _ _ hL Qn)) ?_ ?_⟩
   .clear sc xb;rintro j x σ Hc hx ⟨⟨x5,rfl⟩,sc,xb⟩;obtain⟨l,hv,rfl⟩:=pj hx;obtain⟨hl,y,ey,hy,Ql⟩:=LO.at (ho l (cX hv));have tk:os.take (j+1)=os.take j++[l]:=by rw[iJ,hv];rfl
    rw[tk,List.foldl_append,lY,List.foldl_nil];have Qo:((os.take j).foldl (E4 n ts st) g0).length=st.length:=by rw[xa,Nz]
    generalize (os.take j).foldl (E4 n ts st) g0=g at *;have Nc:=N.keep (fun b o l e=>sc b o e (by rintro rfl;exact Ut l)) (fun o e=>sc _ _ e Uu);have La:=sc _ _ hS Uv;obtain⟨dx,fs,i1,i2,i3⟩:=Nc.Ds;refine⟨_,rfl,_,rfl,ga,_,_,_,rfl,rfl,bD.of xb,aO (pk (by rw[Qo];exact hl)),rfl,_,rfl,?_⟩;unfold E4;cases eg:g.getD l none with
    |some z=>refine sO rfl ⟨⟨_,rfl⟩,sc,?_⟩;rw[am (fun z=>by cases z)];exact xb
    |none=>
    rw[ao rfl];refine EX rfl ⟨_,rfl,px,dx,fs,rfl,i1,i3,_,rfl,_,rfl,sa,_,_,_,rfl,rfl,cQ.of La,aO (pk hl),?_⟩;rw[ey];refine⟨L,px,n,ts,y,rfl,Nc,hy,fun r1 H1 s1 IP g1=>?_⟩;have lo:=w5 (n:=n) (ts:=ts) (h:=y);refine⟨_,rfl,_,rfl,_,rfl,r1,sa,ga,dt n ts y,st,g,l,rfl,g1,s1 _ _ La,s1 _ _ xb,Qo,LO.le,hl,fun H4 s4=>?_⟩;have A5:=s1.trans s4;refine⟨_,rfl,_,rfl,ga,_,(l:Int),l,rfl,rfl,A5 _ _ xb,iB (by rw[aT,Qo];exact hl),⟨_,rfl⟩,fun b o e m=>by rw[ah m];exact A5 _ _ (sc _ _ e m),?_⟩;rw[af,List.map_set];rfl
   .rintro σ Hc ⟨⟨x5,rfl⟩,sc,xb⟩;rw[cK,kR] at xb;exact q Hc sc xb
end
abbrev vQ:Stmt:=top 50
theorem jf:(["_law_k","_law_pot_here","_law_size"]:List Str).Nodup:=by decide +kernel
section
variable {P:Program} {w:World} {K:PySem.W.Frag} {mg:Str->Option Value} {base:Heap}
theorem xc:aE ["_law_pot_here","_law_many","_law_size"] ["_law_pot_here","_law_many"] (al vQ):=⟨rfl,rfl,rfl,by decide +kernel,rfl,by decide +kernel,by decide +kernel⟩
def qJ:Sp:=fun vs H Q _=>∃ (p:Addr) (m:Nat),vs=[.ref p,.int (m:Nat)]/\bZ H p/\m<=16/\∀ (t:Addr) (ranks:List Int) (H':Hp),aS p H H'->bZ H' p->H' t=some (.tup (ranks.map V.int))->ranks.length=m->Q (.ref t) H'
theorem A6{f:Addr}{fd:FuncData}(F:fJ K "_law_ranks" "_law_ranks" vQ f fd)(B:Bl mg)(TK:dA P w K mg base be 1 "_law_take" ["_law_pot_here","_law_many"] gx):a9 P w K mg base be 2 f fd ["_law_pot_here","_law_many"] qJ:=by
 refine F.ok xc (fun vs H Q E h=>?_) (fun dg A outer s H vs Q E hr h=>?_)
 .obtain⟨p,m,rfl,_⟩:=h;rfl
 .obtain⟨p,m,rfl,hp,m1,q⟩:=h;refine'⟨_,(ak (bj (i:=2) xc.nd rfl (Or.inr rfl) (bY bv (fD (aa aw (aa (bx p8 aw (bx zg aw aw)) ag))) (aJ TK hr aM (aa (pv 0) (aa aw ag))) (fun _ _=>rfl)))
   (ap (aY (dw dY (by rfl) B.tup lP (aa ?c1 ag))))),?_⟩
  case c1=>
   refine' cA (g:=(bA 0)) (te:=(kU (v1 fun i j=>.int (i-j)) (gG gx [] E0 (aQ (bb 1) (aQ (bb 2) eA))) (kU (rI Jr fun i j=>.int (i / j)) (bb 2) (tC (.int 2))))) (NB:=["_law_k","_law_pot_here","_law_size"]) (src:=[none,some 0,some 2]) (bz (by kernel_rfl)) rfl (cR rfl B.range (aa (pv 1) ag)) ?g ?t ?e;case g=>exact fun cl C s₃ H₃ fp=>(aD (i:=0) jf rfl (Or.inl rfl) (Or.inr rfl))
   case t=>exact fun cl C s₃ H₃ fp=>cq
   case e=>exact fun cl C s₃ H₃ fp=>(bx j_ (aJ TK hr aM (aa (pv 1) (aa (pv 2) ag))) (bx B9 (pv 2) aw))
  have W6:((10:Int) ^ Int.toNat 59)=100000000000000000000000000000000000000000000000000000000000:=by decide +kernel
  refine⟨_,_,rfl,rfl,⟨by decide,by decide,by decide⟩,_,_,rfl,rfl,?_,by show 2<=sizeLine;decide,fun l hl=>?_⟩
  .exact .inl ⟨by decide,by decide⟩
  have sl:=aj (o:=.lst [V.int 3,.int (2*10 ^ Int.toNat 59)]) hl;refine⟨_,rfl,p,2,rfl,by decide,by decide,hp.same sl,fun d H1 hd s1 Ng=>?_⟩;have gl:=s1 _ _ (af (H:=H) (a:=l) (o:=.lst [V.int 3,.int (2*10 ^ Int.toNat 59)])) (hp.ne hl);have W7:aS p H H1:=(aS.of sl).trans s1;obtain⟨z,hz,z0,z1⟩:∃z:Nat,BN [V.int 3,.int (2*10 ^ Int.toNat 59)] (d:Int)=some (.int (z:Nat))/\0<z/\z<2 ^ 200:=by
   rcases(show d=0\/d=1 by lia) with rfl|rfl
   .exact⟨3,aO (j:=0) rfl,by decide,by decide⟩
   .refine⟨200000000000000000000000000000000000000000000000000000000000,?_,by decide,by decide⟩;rw[W6];exact aO (j:=1) rfl
  refine⟨l,_,_,_,rfl,rfl,bD.of gl,hz,?_⟩;clear gl hz;refine⟨_,rfl,(m:Nat),rfl,by lia,by lia,fun D hD=>?_⟩;have nD:D≠p:=Ng.ne hD;rw[jR];refine dq (fun i ys σ H2=>(∃x,σ=[x,some (.ref p),some (.int (z:Nat))])/\aS p H1 H2/\bZ H2 p/\H2 D=some (.lst ys)/\∃rs:List Int,ys=rs.map V.int/\rs.length=i) ⟨⟨_,rfl⟩,aS.of (aj hD),Ng.same (aj hD),af,[],rfl,rfl⟩ ?_ ?_
  .rintro i ys σ H2 Kt Kf hi ⟨⟨x,rfl⟩,s2,CU,gP,rs,rfl,rl⟩ kt kf;refine⟨_,rfl,_,rfl,p,z,rfl,z0,z1,CU,fun e H3 he s3 yI=>⟨_,rfl,_,_,rfl,rfl,⟨by decide,by decide⟩,_,_,rfl,rfl,?_⟩⟩;refine kt _ _ _ (s3 _ _ gP nD) (by rw[aT,rl];exact bK (show i<17 by lia) (by decide)) ⟨⟨_,rfl⟩,fun b o e' n=>?_,?_,af,rs++[_],by rw[c_];rfl,by rw[fL,rl];rfl⟩
   .rw[ah (ai e' hD)];exact s3 _ _ (s2 _ _ e' n) n
   .exact yI.put nD.symm
  .rintro ys σ H2 ⟨_,s2,CU,gP,rs,rfl,rl⟩;refine⟨D,_,rfl,.inl ⟨bD.of gP,fun t ht=>?_⟩⟩;exact q t rs _ ((W7.trans s2).trans (aS.of (aj ht))) (CU.same (aj ht)) af rl
theorem qg.keep{H H':Hp}{x:V}{t:Value}(e:∀a o,x=.ref a->H a=some o->H' a=some o)(h:qg K H x t):qg K H' x t:=by
 cases h with
 |exc T q=>exact .exc T (e _ _ rfl q)
 |of h=>
  refine .of ?_;cases h with
  |bH=>exact .bH
  |bl b=>exact .bl b
  |int i=>exact .int i
  |str z=>exact .str z
  |yX z=>exact .yX z
  |lst q=>exact .lst (e _ _ rfl q)
  |lh q=>exact .lh (e _ _ rfl q)
  |tup q=>exact .tup (e _ _ rfl q)
  |dK q=>exact .dK (e _ _ rfl q)
  |dT q=>exact .dT (e _ _ rfl q)
  |ins q a b c d m=>exact .ins (e _ _ rfl q) a b c d m
theorem Wh.keep{H H':Hp}{x:V}{o:Option Int}(e:∀a o,x=.ref a->H a=some o->H' a=some o)(h:Wh K H x o):Wh K H' x o:=by
 cases h with
 |int i=>exact .int i
 |no h=>
  obtain⟨t,ty,q⟩:=h;exact .no ⟨t,qg.keep e ty,q⟩
theorem Wh.same{H H':Hp}{x:V}{o:Option Int}(e:aF H H')(h:Wh K H x o):Wh K H' x o:=h.keep fun a o _ z=>e a o z
def nB(K:PySem.W.Frag)(H:Hp)(v:V):Prop:=(∃t,qg K H v t/\PySem.W.kitOne K t (.type "tuple")=some false)\/∃ (a:Addr) (xs:List V) (os:List (Option Int)),v=.ref a/\H a=some (.tup xs)/\xs.length<=20/\os.length=xs.length/\(∀ (i:Nat) (x:V) (o:Option Int),xs[i]?=some x->os[i]?=some o->Wh K H x o)/\none∈os
theorem nB.keep{H H':Hp}{v:V}(h:nB K H v)(s:∀a o,H a=some o->(∀ps,o≠.de ps)->H' a=some o):nB K H' v:=by
 have Uw:∀ {x t},qg K H x t->qg K H' x t:=fun {x t} h=>by
  cases h with
  |exc T q=>exact .exc T (s _ _ q (by intro ps z;cases z))
  |of h=>
   refine .of ?_;cases h with
   |bH=>exact .bH
   |bl b=>exact .bl b
   |int i=>exact .int i
   |str z=>exact .str z
   |yX z=>exact .yX z
   |lst q=>exact .lst (s _ _ q (by intro ps z;cases z))
   |lh q=>exact .lh (s _ _ q (by intro ps z;cases z))
   |tup q=>exact .tup (s _ _ q (by intro ps z;cases z))
   |dK q=>exact .dK (s _ _ q (by intro ps z;cases z))
   |dT q=>exact .dT (s _ _ q (by intro ps z;cases z))
   |ins q a b c d m=>exact .ins (s _ _ q (by intro ps z;cases z)) a b c d m
 rcases h with ⟨t,ty,k⟩|⟨a,xs,os,rfl,hx,hl,ol,wh,nn⟩
 .exact .inl ⟨t,Uw ty,k⟩
 .refine .inr ⟨a,xs,os,rfl,s _ _ hx (by intro ps z;cases z),hl,ol,fun i x o e1 e2=>?_,nn⟩;cases wh i x o e1 e2 with
  |int i=>exact .int i
  |no h=>obtain⟨t,ty,q⟩:=h;exact .no ⟨t,Uw ty,q⟩
theorem A7{f CR CE:Addr}{fd:FuncData}(F:fJ K "check_letters" "Ranked.check_letters" w6 f fd)(B:Bl mg)(RT:AW K mg CR)(e:Er K mg "NoRanks" CE):a9 P w K mg base (jh P w) 1 f fd ["self","homes"] (fun vs H Q E=>∃ (rx ha:Addr) (ranks:List Int) (homes:List Nat),vs=[.ref rx,.ref ha]/\f_ CR H rx ranks/\H ha=some (.tup (NV homes))/\ranks.length≠homes.length/\E (.ref CE) none H):=by
 refine F.M_ AY (fun vs H Q E h=>?_) (fun dg A outer s H vs Q E hr h=>?_)
 .obtain⟨rx,ha,ranks,homes,rfl,_⟩:=h;rfl
 .obtain⟨rx,ha,ranks,homes,rfl,⟨rd,ra,g1,g2⟩,hH,rl,q⟩:=h;refine⟨_,(ap (cG (bu kW (au aP (by rfl) B.len eF (aa (fA (pv 0) rfl) ag)) (au aP (by rfl) B.len eF (aa (pv 1) ag)) (bB _)) (ap (rR (q:=fun H1=>E (.ref CE) none H1) rfl e.ok rfl e.at_ (aa el ag) (fun _ _ _ _ _ _ _ I m q=>rO I m q))) br)),?_⟩;refine⟨_,rfl,rx,CR,rd,_,_,rfl,g1,RT.cl,RT.nR,AX,ra,_,rfl,.inr (cQ.of g2),_,rfl,ha,_,rfl,.inr (cQ.of hH),rfl,_,rfl,?_⟩;have:(!decide (V.int (((ranks.map V.int).length:Nat):Int)=V.int (((NV homes).length:Nat):Int)))=true:=by
   rw[aT,cK,jm (fun z=>rl (by injection z with z;lia))];rfl
  exact EX this ⟨by show 1<=sizeLine;decide,q⟩
theorem yk{f CR CE:Addr}{fd:FuncData}(F:fJ K "__init__" "Ranked.__init__" ny f fd)(B:Bl mg)(e:Er K mg "NoRanks" CE)(WH:dA P w K mg base be 1 "is_whole" ["thing"] (gw K)):a9 P w K mg base (jh P w) 2 f fd ["self","ranks"] (fun vs H Q E=>∃ (x v:V),vs=[x,v]/\nB K H v/\∀H',aF H H'->E (.ref CE) none H'):=by
 refine F.M_ w_ (fun vs H Q E h=>?_) (fun dg A outer s H vs Q E hr h=>?_)
 .obtain⟨x,v,rfl,_⟩:=h;rfl
 .obtain⟨x,v,rfl,GY,q⟩:=h;refine'⟨_,(ak (cG (PW.pt (oF (dh (cm (au eV (by rfl) B.rc dM (aa (pv 1) (aa (gf (v:=.ty "tuple") rfl B.tup lP rfl) ag))))) (j6 (dh (cm (au (o7 rfl) (by rfl) B.all PyProof.Rows.boot_all (aa ?c1 ag))))))) (ap (rR (q:=fun H1=>E (.ref CE) none H1) rfl e.ok rfl e.at_ (aa el ag) (fun _ _ _ _ _ _ _ I m q=>rO I m q))) br)
   bL),?_⟩
  case c1=>
   refine' cA (g:=(bA 0)) (te:=gG (gw K) [] E0 (aQ (bb 0) eA)) (NB:=["rank"]) (src:=[none]) (bz (by kernel_rfl)) rfl (uL (pv 1)) ?g ?t ?e;case g=>exact fun cl C s₃ H₃ fp=>(aD (i:=0) w9 rfl (Or.inl rfl) (Or.inr rfl))
   case t=>exact fun cl C s₃ H₃ fp=>cq
   case e=>exact fun cl C s₃ H₃ fp=>aJ WH hr aM (aa (pv 0) ag)
  rcases GY with ⟨t,ty,kt⟩|⟨a,xs,os,rfl,hx,hl,ol,wh,nn⟩
  .exact⟨_,rfl,_,_,_,t,false,rfl,⟨rfl,kt⟩,ty,_,rfl,rL ⟨by show 1<=sizeLine;decide,q H (aF.refl _)⟩⟩
  refine⟨_,rfl,_,_,_,.type "tuple",true,rfl,⟨rfl,qz⟩,.of (.tup hx),_,rfl,fZ ?_⟩;refine⟨_,rfl,a,rfl,⟨_,cQ.of hx⟩,fun D hD=>?_⟩;refine nq (K:=K) (a:=a) (xs:=xs) (fun i ys σ H2=>(∃x,σ=[x])/\aF H H2/\H2 D=some (.lst ys)/\ys=((os.take i).map Option.isSome).map V.bl) ⟨⟨_,rfl⟩,aj hD,af,rfl⟩ (fun i ys σ H2 _ z=>cQ.of (z.2.1 _ _ hx)) ?_ ?_
  .rintro i y ys σ H2 Kt Kf hy ⟨⟨x',rfl⟩,sm,gP,rfl⟩ kt kf;have hi:i<os.length:=by have:=(dD.mp hy).1;lia
   have ho:os[i]?=some os[i]:=cr hi;refine⟨_,rfl,_,_,rfl,(wh i _ _ hy ho).same sm,?_⟩;exact kt _ _ _ gP (by rw[aT,aT];exact jj (t7 _ _) (bK (show os.length<21 by lia) (by decide))) ⟨⟨_,rfl⟩,cf sm hD,af,by rw[iJ,ho,c_,c_];rfl⟩
  .rintro ys σ H2 ⟨_,sm,gP,rfl⟩;rw[show os.take xs.length=os by rw[<-ol,kR]] at gP;refine⟨D,_,rfl,bD.of gP,_,rfl,?_⟩;have e0:(os.map Option.isSome).all id=false:=by
    rw[List.all_eq_false];exact⟨false,ck.mpr ⟨none,nn,rfl⟩,by simp⟩
   rw[e0];exact rL ⟨by show 1<=sizeLine;decide,q H2 sm⟩
theorem GZ{f c CR CE:Addr}{fd:FuncData}(F:lu K "order" "Ranked.order" nz f fd c)(RT:AW K mg CR)(MC:e_ P w K mg base (jh P w) 1 CR "check_letters" ["self","homes"] (fun vs H Q E=>∃ (rx ha:Addr) (ranks:List Int) (homes:List Nat),vs=[.ref rx,.ref ha]/\f_ CR H rx ranks/\H ha=some (.tup (NV homes))/\ranks.length≠homes.length/\E (.ref CE) none H)):
  a9 P w K mg base (jh P w) 2 f fd ["self","net","homes","stand","beat"] (fun vs H Q E=>∃ (rx ha:Addr) (x1 x2 x3:V) (ranks:List Int) (homes:List Nat),vs=[.ref rx,x1,.ref ha,x2,x3]/\f_ CR H rx ranks/\H ha=some (.tup (NV homes))/\ranks.length≠homes.length/\E (.ref CE) none H):=by
 obtain⟨fC,Uo,mC,bC,GC⟩:=MC.ex;refine F.fun.M_ A4 (fun vs H Q E h=>?_) (fun dg A outer s H vs Q E hr h=>?_)
 .obtain⟨rx,ha,x1,x2,x3,ranks,homes,rfl,_⟩:=h;rfl
 .obtain⟨rx,ha,x1,x2,x3,ranks,homes,rfl,RK,hH,rl,q⟩:=h;obtain⟨K8,Up,Dv,Uq⟩:=id RK;refine⟨_,ak (df (cS (E:=E) (pv 0) RT.cl mC GC hr bC .nil (Ex fun _ _ _ h=>h) (aa (pv 2) ag))) bL,?_⟩;exact⟨_,rfl,rx,K8,_,rfl,Dv,E3,_,rfl,rx,ha,ranks,homes,rfl,RK,hH,rl,q⟩
end
theorem A8:(["home"]:List Str).Nodup:=by decide +kernel
structure NA(K:PySem.W.Frag)(mg:Str->Option Value)(nm:Str)(CB Ci:Addr)(bt:Bool):Prop where
 cl:xy K Ci
 KC:mg nm=some (.ref Ci)
 ha:PySem.W.findIn K (.ref Ci) "__class__"=some (some (.builtin "object.__class__"))
 hn:PySem.W.specialIn K (.builtin "object.__class__") "__get__"=some (some (.builtin "getset_descriptor.__get__"))
 FK:PySem.W.takesIn K (.builtin "object.__class__")=some true
 hm:PySem.W.mroIn K Ci (.type "object")=some true
 kt:PySem.W.kitOne K (.ref Ci) (.ref CB)=some bt
theorem NA.ty{K:PySem.W.Frag}{mg:Str->Option Value}{nm:Str}{CB Ci a d:Addr}{fs:List (Str×V)}{H:Hp}{bt:Bool}(T:NA K mg nm CB Ci bt)(e:H a=some (.ins Ci d fs)):qg K H (.ref a) (.ref Ci):=.of (.ins e T.cl T.ha T.hn T.FK T.hm)
theorem qK{v:V}:([("ranks",v)]:List (Str×V)).lookup ("order":Str)=none:=by
 rw[cV];rw[show (("order":Str)==("ranks":Str))=false by decide +kernel];rfl
theorem G0{v:V}:([("ranks",v)]:List (Str×V)).lookup ("period":Str)=none:=by
 rw[cV];rw[show (("period":Str)==("ranks":Str))=false by decide +kernel];rfl
abbrev IW:List Str:=["self","net","homes","stand","beat"]
section
variable {P:Program} {w:World} {K:PySem.W.Frag} {mg:Str->Option Value} {base:Heap}
theorem nC:aE ["rule","net","homes","stand","beat","letters","goes"] ["rule","net","homes","stand","beat"] (al wY):=⟨rfl,rfl,rfl,by decide +kernel,rfl,by decide +kernel,by decide +kernel⟩
def G4:Sp:=fun vs _ _ _=>vs.length=5/\False
theorem Lb{f:Addr}{fd:FuncData}{k:Nat}:a9 P w K mg base be k f fd ["net","homes","stand","letters","goes"] G4:=⟨fun _ _ _ _ h=>h.2.elim,fun _ _ _ _ _ _ _ _ _ _ _ _ _ h=>h.2.elim⟩
def lO(C CR PN:Addr):Sp:=fun vs H Q _=>∃ (L:Addr->Prop) (a px ha sa:Addr) (bt:V) (n:Nat) (ts:Ts) (homes:List Nat) (st:List (Option Nat)) (ranks:List Int),vs=[.ref a,.ref px,.ref ha,.ref sa,bt]/\f_ CR H a ranks/\ranks.length=homes.length/\b_ C H L px n ts/\H ha=some (.tup (NV homes))/\H sa=some (.tup (st.map oV))/\nu n homes st/\cT PN H/\
 ∀ (t:Addr) (H':Hp),cT PN H'->iT PN H H'->Q (.ref t) H'
theorem Dw{f C CR CI PN:Addr}{fd:FuncData}(F:fJ K "hand" "hand" wY f fd)(B:Bl mg)(RT:AW K mg CR)(R:NA K mg "Ranked" CI CR false)(mI:mg "InTurn"=some (.ref CI))(MO:e_ P w K mg base be 9 CR "order" IW (nA CR PN))(HT:dA P w K mg base be 1 "hand_in_turn" ["net","homes","stand","letters","goes"] G4)(HE:dA P w K mg base be 7 "hand_eagerly" ["net","homes","stand","letters","goes"] (GX C)):
  a9 P w K mg base be 10 f fd ["rule","net","homes","stand","beat"] (lO C CR PN):=by
 obtain⟨f2,d2,m2,b2,G2⟩:=MO.ex;refine F.ok nC (fun vs H Q E h=>?_) (fun dg A outer s H vs Q E hr h=>?_)
 .obtain⟨L,a,px,ha,sa,bt,n,ts,homes,st,ranks,rfl,_⟩:=h;rfl
 .obtain⟨L,a,px,ha,sa,bt,n,ts,homes,st,ranks,rfl,RK,rl,N,hH,hS,LO,tb,q⟩:=h;have h1:bQ 1 _:=hr.mono (by decide);have h2:bQ 2 _:=hr.mono (by decide);have h7:bQ 7 _:=hr.mono (by decide);obtain⟨da,ra,hR,YI⟩:=id RK;refine'⟨_,(ak (bj (i:=5) nC.nd rfl (Or.inl rfl) (cS (pv 0) RT.cl m2 G2 hr b2 .nil aM (aa (pv 1) (aa (pv 2) (aa (pv 3) (aa (pv 4) ag))))))
   (ak (dk (i:=6) (g:=(bA 0)) (te:=(tC .bH)) (NB:=["home"]) (src:=[none]) (bz (by kernel_rfl)) rfl (uL (pv 2)) ?g1 ?t1 ?e1 nC.nd rfl rfl rfl)
   (ak (cG (cm (au cx (by rfl) B.rc dM (aa (pv 0) (aa (bi (v:=.ref CI) rfl mI rfl) ag)))) (ap (df (aJ HT h1 aM (aa (pv 1) (aa (pv 2) (aa (pv 3) (aa (pv 5) (aa (pv 6) ag)))))))) (ap (df (aJ HE h7 aM (aa (pv 1) (aa (pv 2) (aa (pv 3) (aa (pv 5) (aa (pv 6) ag)))))))))
   (ap (aY (dw dY (by rfl) B.tup lP (aa (pv 6) ag))))))),?_⟩
  case g1=>exact fun cl C s₃ H₃ fp=>(aD (i:=0) A8 rfl (Or.inl rfl) (Or.inr rfl))
  case t1=>exact fun cl C s₃ H₃ fp=>cq
  case e1=>exact fun cl C s₃ H₃ fp=>fw
  refine⟨_,rfl,a,da,_,rfl,hR,qK,_,rfl,_,rfl,_,rfl,_,rfl,.ref px,bt,a,ha,sa,n,ranks,homes,st,rfl,RK,rl,hH,hS,LO,tb,fun la H1 KR t1 k1 YJ op pw Ux=>?_⟩;have kn:∀b o,H b=some o->tE o->H1 b=some o:=fun b o e n=>k1 _ _ e (tb.not e n);have Qp:=kn _ _ hH (fun ps z=>by cases z);have ins:∃dx fs,H px=some (.ins C dx fs):=let ⟨dx,fs,a,_⟩:=N.Ds;⟨dx,fs,a⟩;have N1:b_ C H1 (fun b=>H1 b≠none) px n ts:=by
   obtain⟨dx,fs,a⟩:=ins;exact(N.Um.keep (fun b o l e=>by obtain⟨_,o',e',n⟩:=l;rw[e] at e';cases e';exact kn b o e n) fun o e=>kn _ _ e (by rw[a] at e;cases e;exact fun ps z=>by cases z)).own
  refine⟨_,rfl,ha,rfl,⟨_,cQ.of Qp⟩,fun ga hg=>?_⟩;refine nq (K:=K) (a:=ha) (xs:=NV homes) (fun i ys σ H2=>(∃x,σ=[x])/\aF H1 H2/\H2 ga=some (.lst ys)/\ys=List.replicate i V.bH) ⟨⟨_,rfl⟩,aj hg,af,rfl⟩ (fun i ys σ H2 _ z=>cQ.of (z.2.1 _ _ Qp)) ?_ ?_
  .rintro i x ys σ H2 Kt Kf hx ⟨⟨x',rfl⟩,sm,IN,rfl⟩ kt kf;have hi:i<homes.length:=by have:=(dD.mp hx).1;rwa [cK] at this
   have:=LO.len;have:=LO.le;exact kt _ _ _ IN (by rw[ji];exact bK (show i<17 by lia) (by decide)) ⟨⟨_,rfl⟩,cf sm hg,af,by rw[pI]⟩
  rintro ys σ H2 ⟨_,sm,IN,rfl⟩;rw[cK,LO.len,show V.bH=oV none from rfl,<-List.map_replicate] at IN;have KL:=sm _ _ (kn _ _ hR (fun ps z=>by cases z));have Ur:=sm _ _ (kn _ _ hS (fun ps z=>by cases z));refine⟨_,rfl,.ref a,CI,_,false,rfl,R.kt,R.ty KL,_,rfl,?_⟩;refine fZ ⟨_,rfl,_,rfl,_,rfl,_,rfl,_,rfl,fun b=>H1 b≠none,px,ha,sa,la,ga,n,ts,homes,KR,st,_,rfl,N1.same sm,fun z=>z hg,sm _ _ Qp,Ur,LO,fun l hl=>op.mem_iff.mp hl,sm _ _ Ux,ai Ux hg,IN,by rw[ji],fun H3 s3 W8=>?_⟩;refine⟨_,rfl,ga,_,rfl,.inl ⟨bD.of W8,fun t ht=>?_⟩⟩;have k3:∀b o,H1 b=some o->(upd H3 t (.tup ((KR.foldl (E4 n ts st) (KR.foldl (BZ n ts homes st) (List.replicate st.length none))).map oV))) b=some o:=fun b o e=>aj ht _ _ (s3 _ _ (sm _ _ e) (ai e hg));exact q t _ (t1.same k3) (fun b o e n=>k3 _ _ (k1 b o e n))
theorem A9{f CR CE:Addr}{fd:FuncData}(F:fJ K "hand" "hand" wY f fd)(RT:AW K mg CR)(MO:e_ P w K mg base (jh P w) 2 CR "order" IW (fun vs H Q E=>∃ (rx ha:Addr) (x1 x2 x3:V) (ranks:List Int) (homes:List Nat),vs=[.ref rx,x1,.ref ha,x2,x3]/\f_ CR H rx ranks/\H ha=some (.tup (NV homes))/\ranks.length≠homes.length/\E (.ref CE) none H)):
  a9 P w K mg base (jh P w) 3 f fd ["rule","net","homes","stand","beat"] (fun vs H Q E=>∃ (rx ha:Addr) (x1 x2 x3:V) (ranks:List Int) (homes:List Nat),vs=[.ref rx,x1,.ref ha,x2,x3]/\f_ CR H rx ranks/\H ha=some (.tup (NV homes))/\ranks.length≠homes.length/\E (.ref CE) none H):=by
 obtain⟨fC,Uo,mC,bC,GC⟩:=MO.ex;refine F.M_ nC (fun vs H Q E h=>?_) (fun dg A outer s H vs Q E hr h=>?_)
 .obtain⟨rx,ha,x1,x2,x3,ranks,homes,rfl,_⟩:=h;rfl
 .obtain⟨rx,ha,x1,x2,x3,ranks,homes,rfl,RK,hH,rl,q⟩:=h;obtain⟨K8,Up,Dv,Uq⟩:=id RK;refine⟨_,ak (bj (i:=5) nC.nd rfl (Or.inl rfl) (cS (E:=E) (pv 0) RT.cl mC GC hr bC .nil (Ex fun _ _ _ h=>h) (aa (pv 1) (aa (pv 2) (aa (pv 3) (aa (pv 4) ag)))))) bL,?_⟩;exact⟨_,rfl,rx,K8,_,rfl,Dv,qK,_,rfl,_,rfl,_,rfl,_,rfl,rx,ha,x1,x2,x3,ranks,homes,rfl,RK,hH,rl,q⟩
end
abbrev sQ:Stmt:=top 51
inductive Ox where
 |bH|bl (b:Bool)|str (s:Str)|Dx|Dy|tupI (i:Int)|Dz (i:Int)
def Lc:Expr->Option Ox
 |.Constant .none _ _=>some .bH
 |.Constant (.bool b) _ _=>some (.bl b)
 |.Constant (.str s) _ _=>some (.str s)
 |.Tuple [] _ _=>some .Dx
 |.Tuple [.Constant (.int i) _ _] _ _=>some (.tupI i)
 |.List [.Constant (.int i) _ _] _=>some (.Dz i)
 |.Dict [] [] _=>some .Dy
 |_=>none
def DA:List Expr->Option (List Ox)
 |[]=>some []
 |e::es=>(Lc e).bind fun o=>(DA es).map (o::·)
def Qq:Ox->TE
 |.bH=>tC .bH
 |.bl b=>tC (.bl b)
 |.str s=>tC (.str s)
 |.Dx=>uV eA
 |.Dy=>Ac
 |.tupI i=>uV (aQ (tC (.int i)) eA)
 |.Dz i=>Ju (aQ (tC (.int i)) eA)
def G5:List Ox->TA
 |[]=>eA
 |o::os=>aQ (Qq o) (G5 os)
section
variable {X:Cx} {e:Expr} {es:List Expr} {o:Ox}
theorem Ld(h:Lc e=some o):starEach (e::es) X.env=(false,eval e X.env)::starEach es X.env:=by
 unfold Lc at h;split at h;all_goals first|rfl|cases h
theorem Le(h:Lc e=some o):PE X e (Qq o):=by
 unfold Lc at h;split at h
 .cases h;exact fw
 .cases h;exact jt
 .cases h;exact el
 .cases h;exact hZ ag
 .cases h;exact hZ (aa aw ag)
 .cases h;exact fD (aa aw ag)
 .cases h;exact r_
 .cases h
theorem E5:∀ {es:List Expr} {os:List Ox},DA es=some os->PA X es (G5 os)
 |[],os,h=>by cases h;exact ag
 |e::es,os,h=>by
  unfold DA at h;obtain⟨o,h1,h2⟩:=Option.bind_eq_some_iff.mp h;obtain⟨Te,h3,rfl⟩:=Option.map_eq_some_iff.mp h2;exact aa (Le h1) (E5 h3) (Ld h1)
end
theorem pq{K:PySem.W.Frag}{H:Hp}{v:V}{t:Value}(ty:qg K H v t)(k:PySem.W.kitOne K t (.type "int")=some false):Wh K H v none:=.no ⟨t,ty,.inl k⟩
theorem Lf{K:PySem.W.Frag}{H:Hp}{b:Bool}:Wh K H (.bl b) none:=.no ⟨.type "bool",.of (.bl b),.inr ⟨by kernel_rfl,by kernel_rfl⟩⟩
theorem Qr{K:PySem.W.Frag}{σ:St}:∀ {o:Ox} {H:Hp} {Q:V->Hp->Prop},(∀v H',aF H H'->Wh K H' v none->(∀i,v≠.int i)/\(∀a,v=.ref a->H a=none)->Q v H')->Qq o σ H Q
 |.bH,H,Q,k=>k _ _ (aF.refl _) (pq (.of .bH) (by kernel_rfl)) ⟨fun i z=>(nomatch z),fun a z=>(nomatch z)⟩
 |.bl b,H,Q,k=>k _ _ (aF.refl _) Lf ⟨fun i z=>(nomatch z),fun a z=>(nomatch z)⟩
 |.str s,H,Q,k=>k _ _ (aF.refl _) (pq (.of (.str s)) (by kernel_rfl)) ⟨fun i z=>(nomatch z),fun a z=>(nomatch z)⟩
 |.Dx,H,Q,k=>⟨by show 0<=sizeLine;decide,fun a ha=>k _ _ (aj ha) (pq (.of (.tup af)) (by kernel_rfl)) ⟨fun i z=>(nomatch z),fun b z=>by cases z;exact ha⟩⟩
 |.Dy,H,Q,k=>fun a ha=>k _ _ (aj ha) (pq (.of (.dK af)) (by kernel_rfl)) ⟨fun i z=>(nomatch z),fun b z=>by cases z;exact ha⟩
 |.tupI i,H,Q,k=>⟨by show 1<=sizeLine;decide,fun a ha=>k _ _ (aj ha) (pq (.of (.tup af)) (by kernel_rfl)) ⟨fun i z=>(nomatch z),fun b z=>by cases z;exact ha⟩⟩
 |.Dz i,H,Q,k=>⟨by show 1<=sizeLine;decide,fun a ha=>k _ _ (aj ha) (pq (.of (.lst af)) (by kernel_rfl)) ⟨fun i z=>(nomatch z),fun b z=>by cases z;exact ha⟩⟩
theorem E6{K:PySem.W.Frag}{σ:St}:∀ {os:List Ox} {H:Hp} {Q:List V->Hp->Prop},(∀vs H',aF H H'->vs.length=os.length->(∀v∈vs,Wh K H' v none/\(∀i,v≠.int i)/\∀a,v=.ref a->H a=none)->Q vs H')->G5 os σ H Q
 |[],H,Q,k=>k [] H (aF.refl _) rfl fun v hv=>(nomatch hv)
 |o::os,H,Q,k=>by
  refine Qr (K:=K) fun v H' s wh ni=>?_;refine E6 (K:=K) (os:=os) fun vs H2 s2 hl hv=>?_;refine k (v::vs) H2 (s.trans s2) (congrArg (·+1) hl) fun x hx=>?_;rcases aR.mp hx with rfl|hx
  .exact⟨wh.same s2,ni⟩
  .obtain⟨a,b,c⟩:=hv x hx;exact⟨a,b,fun a e=>s.free (c a e)⟩
def NC(i:Nat):Stmt:=(aX sQ).getD i (.Pass ⟨0,0,0,0⟩)
def W9:Stmt->List Expr
 |.Assign _ (.Subscript (.List es _) _ _) _=>es
 |_=>[]
theorem yl:∃es os q1 q2 q3 q4 q5 q6 q7 q8 q9,aX sQ=[.Assign [.Name "_law_odd" q1] (.Subscript (.List es q2) (.Call (.Name "_law_take" q3) [.Name "_law_pot_here" q4,.Constant (.int 9) q5 q6] [] q7) q8) q9,NC 1,NC 2,NC 3]/\DA es=some os/\os.length=9:=
 ⟨W9 (NC 0),[.bl true,.bl false,.bH,.str "1",.str "",.tupI 1,.Dz 1,.Dx,.Dy],_,_,_,_,_,_,_,_,_,rfl,by kernel_rfl,rfl⟩
def vI:V->Option Int
 |.int i=>some i
 |_=>none
theorem E7{v:V}(h:∀i,v≠.int i):vI v=none:=by cases v <;> first|rfl|exact absurd rfl (h _)
theorem W_{α:Type}{a b c d e f g h i:α}{k:Nat}(hk:k<9):∃x,[a,b,c,d,e,f,g,h,i][k]?=some x/\(x=a\/x=b\/x=c\/x=d\/x=e\/x=f\/x=g\/x=h\/x=i):=by
 match k,hk with
 |0,_=>exact⟨_,rfl,by simp⟩
 |1,_=>exact⟨_,rfl,by simp⟩
 |2,_=>exact⟨_,rfl,by simp⟩
 |3,_=>exact⟨_,rfl,by simp⟩
 |4,_=>exact⟨_,rfl,by simp⟩
 |5,_=>exact⟨_,rfl,by simp⟩
 |6,_=>exact⟨_,rfl,by simp⟩
 |7,_=>exact⟨_,rfl,by simp⟩
 |8,_=>exact⟨_,rfl,by simp⟩
section
variable {P:Program} {w:World} {K:PySem.W.Frag} {mg:Str->Option Value} {base:Heap}
theorem qL:aE ["_law_pot_here","_law_ranks_here","_law_odd","_law_at","_law_spoilt"] ["_law_pot_here","_law_ranks_here"] (al sQ):=⟨rfl,rfl,rfl,by decide +kernel,rfl,by decide +kernel,by decide +kernel⟩
def qM(K:PySem.W.Frag):Sp:=fun vs H Q _=>∃ (p ra:Addr) (ranks:List Int),vs=[.ref p,.ref ra]/\bZ H p/\H ra=some (.tup (ranks.map V.int))/\ranks.length<=16/\∀v H',aS p H H'->bZ H' p->nB K H' v->Q v H'
theorem DB{f:Addr}{fd:FuncData}(F:fJ K "_law_none" "_law_none" sQ f fd)(B:Bl mg)(TK:dA P w K mg base be 1 "_law_take" ["_law_pot_here","_law_many"] gx):a9 P w K mg base be 2 f fd ["_law_pot_here","_law_ranks_here"] (qM K):=by
 refine F.ok qL (fun vs H Q E h=>?_) (fun dg A outer s H vs Q E hr h=>?_)
 .obtain⟨p,ra,ranks,rfl,_⟩:=h;rfl
 .obtain⟨p,ra,ranks,rfl,hp,vP,rl,q⟩:=h;obtain⟨es,os,q1,q2,q3,q4,q5,q6,q7,q8,q9,eb,OM,ol⟩:=yl;rw[eb];refine⟨_,(ak (bj (i:=2) qL.nd rfl (Or.inl rfl) (bY bv (fD (E5 OM)) (aJ TK hr aM (aa (pv 0) (aa aw ag))) (fun _ _=>rfl)))
   (ak (bj (i:=3) qL.nd rfl (Or.inl rfl) (aJ TK hr aM (aa (pv 0) (aa (bx et (au aP (by rfl) B.len eF (aa (pv 1) ag)) aw) ag))))
   (ak (bj (i:=4) qL.nd rfl (Or.inl rfl) (bx wV (bx wV (rG wW (pv 1) wa (wb (pv 3))) (hZ (aa (pv 2) ag))) (rG wW (pv 1) (wb (bx et (pv 3) aw)) wa)))
   (ap (aY (bY bv (fD (aa (pv 4) (aa (pv 4) (aa (pv 4) (aa (dw jy (by rfl) B.lst tV (aa (pv 1) ag)) (aa el (aa r_ (aa fw (aa aw (aa jt ag)))))))))) (aJ TK hr aM (aa (pv 0) (aa aw ag))) (fun _ _=>rfl))))))),?_⟩
  refine E6 (K:=K) fun vs H1 s1 vl hv=>?_;refine⟨by rw[vl,ol];decide,fun D hD=>?_⟩;have s2:=s1.trans (aj (o:=.lst vs) hD);have CU:=hp.same s2;have nD:D≠p:=(hp.same s1).ne hD;refine⟨_,rfl,p,9,rfl,by decide,by decide,CU,fun d H3 hd s3 yI=>?_⟩;obtain⟨E8,ho⟩:∃x,vs[d]?=some x:=⟨_,cr (by lia)⟩
  obtain⟨wo,no,fo⟩:=hv E8 (cX ho);have Lg:∀ {H':Hp},aS p H1 H'->Wh K H' E8 none:=fun {H'} s=>wo.keep fun a o e q=>s a o q (by
   rintro rfl;exact hp.full (fo _ e))
  refine⟨D,_,_,E8,rfl,rfl,bD.of (s3 _ _ af nD),aO ho,?_⟩;have Uy:ra≠p:=hp.neT vP;have Lh:=s3 _ _ (s2 _ _ vP) Uy;refine⟨_,rfl,_,rfl,ra,_,rfl,.inr (cQ.of Lh),_,_,rfl,rfl,p,ranks.length+1,by rw[aT];rfl,by lia,by lia,yI,fun at_ H4 Pf s4 B0=>?_⟩;have G6:=s4 _ _ Lh Uy;have A5:aS p H1 H4:=((aS.of (aj (o:=.lst vs) hD)).trans s3).trans s4;have e1:(at_:Int)+1=((at_+1:Nat):Int):=by lia
  refine⟨_,rfl,_,rfl,_,rfl,ra,_,rfl,G6,fun r1 H5 s5 h5=>?_⟩;refine⟨_,rfl,by show 1<=sizeLine;decide,fun r2 Uz=>?_⟩;have s6:=s5.trans (aj (o:=.tup [E8]) Uz);have UA:=aj (o:=.tup [E8]) Uz _ _ h5;rw[GI] at h5 UA;refine⟨r1,r2,_,_,rfl,rfl,UA,af,?_,fun r3 H7 s7 h7=>?_⟩
  .have:=t7 at_ (ranks.map V.int);rw[aT] at this;exact bp (show _<=17 by show _+1<=17;lia) (by decide)
  have UB:=s6.trans s7;refine⟨_,rfl,_,rfl,_,_,rfl,rfl,_,rfl,ra,_,rfl,UB _ _ G6,fun r4 H8 s8 h8=>?_⟩;rw[e1,AS] at h8;have l1:=t7 at_ (ranks.map V.int);have l2:((ranks.map V.int).drop (at_+1)).length<=16:=by rw[l6,aT];lia
  rw[aT] at l1;refine⟨r3,r4,_,_,rfl,rfl,s8 _ _ h7,h8,?_,fun sp H9 s9 h9=>?_⟩
  .rw[fL];exact bp (show _<=33 by show _+1+_<=33;lia) (by decide)
  have ND:=(UB.trans s8).trans s9;have A_:=ND _ _ G6;have DC:=B0.same ND;refine⟨_,rfl,_,rfl,_,rfl,_,rfl,ra,_,rfl,.inr (cQ.of A_),fun lr se=>fun dc UC=>⟨by show 9<=sizeLine;decide,fun LL NE=>?_⟩⟩;have Ba:=aj (o:=.lst (ranks.map V.int)) se;have yJ:=aj (o:=.dK []) UC;have Xa:=yJ _ _ (af (H:=H9) (a:=lr) (o:=.lst (ranks.map V.int)));have gd:(upd (upd H9 lr (.lst (ranks.map V.int))) dc (.dK [])) dc=some (.dK []):=af;have Bb:=Ba.trans yJ;have Xb:lr≠p:=DC.ne se;have Xc:dc≠p:=(DC.same Ba).ne UC;generalize upd (upd H9 lr (.lst (ranks.map V.int))) dc (.dK [])=UD at *;have qE:=aj (o:=.lst [.ref sp,.ref sp,.ref sp,.ref lr,.str "12",.ref dc,.bH,.int 7,.bl true]) NE;have ym:=(DC.same Bb).same qE;have Xd:=(DC.same Bb).ne NE;refine⟨_,rfl,p,9,rfl,by decide,by decide,ym,fun k E9 hk Bc Qs=>?_⟩;obtain⟨x,hx,hc⟩:=W_ (a:=V.ref sp) (b:=.ref sp) (c:=.ref sp) (d:=.ref lr) (e:=.str "12") (f:=.ref dc) (g:=.bH) (h:=.int 7) (i:=.bl true) hk;refine⟨LL,_,_,x,rfl,rfl,bD.of (Bc _ _ af Xd),aO hx,q x E9 ?_ Qs ?_⟩
  .exact(((((aS.of s2).trans s3).trans s4).trans (aS.of ND)).trans (aS.of (Bb.trans qE))).trans Bc
  have Xe:sp≠p:=DC.neT h9;have Qt:=Bc _ _ (qE _ _ (Bb _ _ h9)) Xe;have Xf:Wh K E9 E8 none:=Lg ((A5.trans (aS.of (ND.trans (Bb.trans qE)))).trans Bc);have Qu:nB K E9 (.ref sp):=by
   refine .inr ⟨sp,_,(((ranks.map V.int).take at_++[E8])++(ranks.map V.int).drop (at_+1)).map vI,rfl,Qt,?_,by rw[aT],fun i y o e1 e2=>?_,ck.mpr ⟨E8,fK _ (cU _ bU),E7 no⟩⟩
   .rw[fL,fL];have:((ranks.map V.int).take at_).length+((ranks.map V.int).drop (at_+1)).length<=16:=by rw[jT,l6,aT];lia
    show _+1+_<=20;lia
   .rw[bw,e1] at e2;obtain rfl:=bh e2;have hy:=cX e1;have int:∀y∈ranks.map V.int,Wh K E9 y (vI y):=fun y hy=>by
     obtain⟨z,_,rfl⟩:=ck.mp hy;exact .int z
    rcases cE.mp hy with z|z
    .rcases cE.mp z with z|z
     .exact int _ (lZ z)
     .rw[cy.mp z,E7 no];exact Xf
    .exact int _ (l0 z)
  have Xg:=Bc _ _ (qE _ _ Xa) Xb;have Qv:=Bc _ _ (qE _ _ gd) Xc;rcases hc with rfl|rfl|rfl|rfl|rfl|rfl|rfl|rfl|rfl
  .exact Qu
  .exact Qu
  .exact Qu
  .exact .inl ⟨_,.of (.lst Xg),by kernel_rfl⟩
  .exact .inl ⟨_,.of (.str _),by kernel_rfl⟩
  .exact .inl ⟨_,.of (.dK Qv),by kernel_rfl⟩
  .exact .inl ⟨_,.of .bH,by kernel_rfl⟩
  .exact .inl ⟨_,.of (.int 7),by kernel_rfl⟩
  .exact .inl ⟨_,.of (.bl true),by kernel_rfl⟩
end
abbrev G7:Stmt:=top 53
theorem jN:(["_law_k","_law_shift","_law_houses"]:List Str).Nodup:=by decide +kernel
theorem fH:(["_law_house","_law_pot_here","_law_houses"]:List Str).Nodup:=by decide +kernel
theorem jO:(["_law_house","_law_pot_here"]:List Str).Nodup:=by decide +kernel
theorem _root_.L2.aS.put{p D:Addr}{H H':Hp}{u:HO}(s:aS p H H')(hD:H D=none):aS p H (upd H' D u):=fun b o e n=>by rw[ah (ai e hD)];exact s b o e n
section
variable {P:Program} {w:World} {K:PySem.W.Frag} {mg:Str->Option Value} {base:Heap}
theorem xf:aE ["_law_pot_here","_law_many","_law_houses","_law_shift","_law_stand","_law_homes"] ["_law_pot_here","_law_many","_law_houses"] (al G7):=⟨rfl,rfl,rfl,by decide +kernel,rfl,by decide +kernel,by decide +kernel⟩
def Bd:Sp:=fun vs H Q _=>∃ (p:Addr) (m n:Nat),vs=[.ref p,.int m,.int n]/\bZ H p/\m<=16/\17<=n/\n<=32/\∀ (t ha sa:Addr) (homes:List Nat) (st:List (Option Nat)) (H':Hp),aS p H H'->bZ H' p->H' t=some (.tup [.ref ha,.ref sa])->H' ha=some (.tup (NV homes))->H' sa=some (.tup (st.map oV))->nu n homes st->st.length=m->Q (.ref t) H'
theorem G8{f:Addr}{fd:FuncData}(F:fJ K "_law_letters" "_law_letters" G7 f fd)(B:Bl mg)(TK:dA P w K mg base be 1 "_law_take" ["_law_pot_here","_law_many"] gx):a9 P w K mg base be 2 f fd ["_law_pot_here","_law_many","_law_houses"] Bd:=by
 refine F.ok xf (fun vs H Q E h=>?_) (fun dg A outer s H vs Q E hr h=>?_)
 .obtain⟨p,m,n,rfl,_⟩:=h;rfl
 .obtain⟨p,m,n,rfl,hp,YK,Qw,NF,q⟩:=h;refine'⟨_,(ak (bj (i:=3) xf.nd rfl (Or.inr rfl) (aJ TK hr aM (aa (pv 0) (aa (pv 2) ag))))
   (ak (dk (i:=4) (g:=(bA 0)) (te:=(kU (rI (fun _ j=>0<j) fun i j=>.int (i % j)) (kU (v1 fun i j=>.int (i+j)) (bb 1) (bb 0)) (bb 2))) (NB:=["_law_k","_law_shift","_law_houses"]) (src:=[none,some 3,some 2]) (bz (by kernel_rfl)) rfl (cR rfl B.range (aa (pv 1) ag)) ?g1 ?t1 ?e1 xf.nd rfl rfl rfl)
   (ak (dk (i:=5) (g:=(bA 0)) (te:=(kU (rI (fun _ j=>0<j) fun i j=>.int (i % j)) (kU (v1 fun i j=>.int (i+j)) (kU (v1 fun i j=>.int (i+j)) (bb 0) (tC (.int 1))) (gG gx [] E0 (aQ (bb 1) (aQ (kU (v1 fun i j=>.int (i-j)) (bb 2) (tC (.int 1))) eA)))) (bb 2))) (NB:=["_law_house","_law_pot_here","_law_houses"]) (src:=[none,some 0,some 2]) (bz (by kernel_rfl)) rfl (cn (pv 4)) ?g2 ?t2 ?e2 xf.nd rfl rfl rfl)
   (ap (aY (hZ (aa (dw dY (by rfl) B.tup lP (aa (pv 5) ag)) (aa (dw dY (by rfl) B.tup lP (aa ?c3 ag)) ag)))))))),?_⟩
  case g1=>exact fun cl C s₃ H₃ fp=>(aD (i:=0) jN rfl (Or.inl rfl) (Or.inr rfl))
  case t1=>exact fun cl C s₃ H₃ fp=>cq
  case e1=>exact fun cl C s₃ H₃ fp=>(bx i6 (bx et (pv 1) (pv 0)) (pv 2))
  case g2=>exact fun cl C s₃ H₃ fp=>(aD (i:=0) fH rfl (Or.inl rfl) (Or.inr rfl))
  case t2=>exact fun cl C s₃ H₃ fp=>cq
  case e2=>exact fun cl C s₃ H₃ fp=>(bx i6 (bx et (bx et (pv 0) aw) (aJ TK hr aM (aa (pv 1) (aa (bx j_ (pv 2) aw) ag)))) (pv 2))
  case c3=>
   refine' cA (g:=(bA 0)) (te:=(Ta (rC (kU (M5) (gG gx [] E0 (aQ (bb 1) (aQ (tC (.int 5)) eA))) (tC (.int 0)))) (tC .bH) (bb 0))) (NB:=["_law_house","_law_pot_here"]) (src:=[none,some 0]) (bz (by kernel_rfl)) rfl (cn (pv 4)) ?g ?t ?e;case g=>exact fun cl C s₃ H₃ fp=>(aD (i:=0) jO rfl (Or.inl rfl) (Or.inr rfl))
   case t=>exact fun cl C s₃ H₃ fp=>cq
   case e=>exact fun cl C s₃ H₃ fp=>(rp (bu jv (aJ TK hr aM (aa (pv 1) (aa aw ag))) aw (bB _)) fw (pv 0))
  refine⟨_,rfl,_,rfl,p,n,rfl,by lia,by lia,hp,fun sh H1 Ti s1 p1=>?_⟩;refine⟨_,rfl,_,rfl,by lia,by lia,fun D hD=>?_⟩;rw[jR];have nD:=p1.ne hD;refine dq (lo:=0) (n:=m) (fun i ys σ H2=>(∃x,σ=[x,some (.int (sh:Int)),some (.int (n:Int))])/\aF H1 H2/\H2 D=some (.lst ys)/\ys=NV ((List.range i).map fun k=>(sh+k) % n)) ⟨⟨_,rfl⟩,aj hD,af,rfl⟩ ?_ ?_
  .rintro i ys σ H2 Kt Kf hi ⟨⟨x,rfl⟩,sm,gP,rfl⟩ kt kf;refine⟨_,rfl,_,rfl,_,_,rfl,rfl,_,rfl,_,_,rfl,rfl,(by lia:(0:Int)<(n:Int)),?_⟩;have e:((sh:Int)+(0+(i:Int))) % (n:Int)=(((sh+i) % n:Nat):Int):=by rw[gU];rw[Int.natCast_emod,uy]
   dsimp only;rw[e];exact kt _ _ _ gP (by rw[cK,aT,iK];exact bK (show i<17 by lia) (by decide)) ⟨⟨_,rfl⟩,cf sm hD,af,by rw[lN,jV,c_];rfl⟩
  rintro ys σ H2 ⟨_,BW,gP,rfl⟩;have hU:∀y∈(List.range m).map (fun k=>(sh+k) % n),y<n:=fun y hy=>by
   obtain⟨k,_,rfl⟩:=ck.mp hy;exact mm _ (by lia)
  have lst:((List.range m).map fun k=>(sh+k) % n).length=m:=by rw[aT,iK]
  generalize (List.range m).map (fun k=>(sh+k) % n)=hs at *;have p2:=p1.same BW;refine⟨_,rfl,D,rfl,⟨_,bD.of gP⟩,fun D2 hE=>?_⟩;have nE:=p2.ne hE;refine dU (xs:=NV hs) (fun i ys σ H3=>(∃x,σ=[x,some (.ref p),some (.int (n:Int))])/\aS p H2 H3/\bZ H3 p/\H3 D2=some (.lst ys)/\∃gs:List Nat,ys=NV gs/\gs.length=i/\∀y∈gs,y<n) ⟨⟨_,rfl⟩,aS.of (aj hE),p2.same (aj hE),af,[],rfl,rfl,fun y hy=>(nomatch hy)⟩ (fun i ys σ H3 _ z=>bD.of (z.2.1 _ _ gP nD)) ?_ ?_
  .rintro i x ys σ H3 Kt Kf hx ⟨⟨x0,rfl⟩,sm,yI,Qx,gs,rfl,gl,gm⟩ kt kf;obtain⟨y,hy,rfl⟩:=pj hx;have hi:i<hs.length:=(dD.mp hy).1;refine⟨_,rfl,_,_,rfl,rfl,_,rfl,_,rfl,_,_,rfl,rfl,p,n-1,by rw[show (((n-1:Nat)):Int)=(n:Int)-1 by lia];rfl,by lia,by lia,yI,fun d H4 hd s4 B0=>?_⟩;refine⟨_,_,rfl,rfl,_,rfl,_,_,rfl,rfl,(by lia:(0:Int)<(n:Int)),?_⟩;have e:((y:Int)+1+(d:Int)) % (n:Int)=(((y+1+d) % n:Nat):Int):=by rw[Int.natCast_emod,uy,uy];rfl
   dsimp only;rw[e];have Xh:=s4 _ _ Qx nE;refine kt _ _ _ Xh (by rw[cK,gl];exact bK (show i<17 by lia) (by decide)) ⟨⟨_,rfl⟩,aS.put (sm.trans s4) hE,B0.put nE.symm,af,gs++[(y+1+d) % n],by rw[lN],by rw[fL,gl];rfl,fun z hz=>?_⟩;rcases cE.mp hz with z'|z'
   .exact gm _ z'
   .rw[cy.mp z'];exact mm _ (by lia)
  rintro ys σ H3 ⟨_,BY,yI,Qx,gs,rfl,gl,gm⟩;rw[cK] at gl;have re:=BY _ _ gP nD;refine⟨_,rfl,D2,_,rfl,.inl ⟨bD.of Qx,fun ha UE=>?_⟩⟩;have s4:=aj (o:=.tup (NV gs)) UE;have yF:=s4 _ _ re;have B0:=yI.same s4;have Xi:=yI.ne UE;have Xj:(upd H3 ha (.tup (NV gs))) ha=some (.tup (NV gs)):=af;generalize upd H3 ha (.tup (NV gs))=H4 at *;refine⟨_,rfl,D,rfl,⟨_,bD.of yF⟩,fun D3 hF=>?_⟩;have nF:=B0.ne hF;refine dU (xs:=NV hs) (fun i ys σ H5=>(∃x,σ=[x,some (.ref p)])/\aS p H4 H5/\bZ H5 p/\H5 D3=some (.lst ys)/\∃st:List (Option Nat),ys=st.map oV/\st.length=i/\∀y,some y∈st->y<n) ⟨⟨_,rfl⟩,aS.of (aj hF),B0.same (aj hF),af,[],rfl,rfl,fun y hy=>(nomatch hy)⟩ (fun i ys σ H5 _ z=>bD.of (z.2.1 _ _ yF nD)) ?_ ?_
  .rintro i x ys σ H5 Kt Kf hx ⟨⟨x0,rfl⟩,sm,G9,Qy,st,rfl,sl,Qz⟩ kt kf;obtain⟨y,hy,rfl⟩:=pj hx;have hi:i<hs.length:=(dD.mp hy).1;refine⟨_,rfl,p,5,rfl,by decide,by decide,G9,fun d H6 hd s6 EN=>⟨rfl,_,rfl,?_⟩⟩;have Xk:=s6 _ _ Qy nF;have go:∀o:Option Nat,(∀y,o=some y->y<n)->Kt (oV o) [some (.int (y:Int)),some (.ref p)] H6:=fun o ho=>kt _ _ _ Xk (by rw[aT,sl];exact bK (show i<17 by lia) (by decide)) ⟨⟨_,rfl⟩,aS.put (sm.trans s6) hF,EN.put nF.symm,af,st++[o],by rw[c_];rfl,by rw[fL,sl];rfl,fun z hz=>by
    rcases cE.mp hz with z'|z'
    .exact Qz _ z'
    .exact ho z (cy.mp z').symm⟩
   exact oh (fun _=>go none fun y z=>by cases z) (fun _=>⟨_,rfl,go (some y) fun z e=>by cases e;exact hU _ (cX hy)⟩)
  rintro ys σ H5 ⟨_,Na,G9,Qy,st,rfl,sl,Qz⟩;rw[cK] at sl;refine⟨D3,_,rfl,.inl ⟨bD.of Qy,fun sa Xl=>⟨by show 2<=sizeLine;decide,fun t ht=>?_⟩⟩⟩;have s6:=aj (o:=.tup (st.map oV)) Xl;have s7:=aj (o:=.tup [.ref ha,.ref sa]) ht;refine q t ha sa gs st _ (((((s1.trans (aS.of BW)).trans BY).trans (aS.of s4)).trans Na).trans (aS.of (s6.trans s7))) ((G9.same s6).same s7) af (s7 _ _ (s6 _ _ (Na _ _ Xj Xi))) (s7 _ _ af) ⟨by lia,by lia,fun x hx=>gm x hx,Qz⟩ (by lia)
end
end sH
namespace L2
open PySem PySem.Spec PyProof.Rows
def Li(K:PySem.W.Frag)(Dc:Addr)(i:Nat)(tb:(St->XK)->TS)(th:TS):TS:=fun D σ H=>∃E,JR K Dc i E (tb E) th D σ H
theorem DD{X:Cx}{body rS:List Stmt}{b₀:Stmt}{x n:Str}{np Cy pos:Pos}{Dc:Addr}{i:Nat}{tb:(St->XK)->TS}{th:TS}(TD:jA X.K Dc)(hg:Gl X x)(hm:X.mg x=some (.ref Dc))(hU:X.stack=X.env::X.outer)(OG:X.env.frame=some X.env.locals)(hN:X.N.Nodup)(hi:X.N[i]?=some n)(hn:X.env.scope.names.lookup n=some .local)(hb:∀E pn xe,lG (jh X.prog X.w) (X.eB pn xe) E->oE (X.eB pn xe) body (tb E))(hh:∀pn p,oE (X.dF pn p) (b₀::rS) th)(n9:(x==("__debug__":Str))=false:=by decide):
  PS X (.Try body [.ExceptHandler (some (.Name x np)) (some n) (b₀::rS) Cy] [] [] pos) (Li X.K Dc i tb th):=by
 intro ae s σ H D I h;obtain⟨E,h⟩:=h;exact FV (E:=E) TD hg hm hU OG hN hi hn (hb E) hh n9 ae s σ H D I h
theorem G_{X:Cx}{e:Expr}{t1 t2 t3:TE}(a:PE X e t1)(b:PE X e t2)(c:PE X e t3):PE X e (fun σ H Q=>t1 σ H Q\/(t2 σ H Q\/t3 σ H Q)):=fun ae s σ H Q I h=>h.elim (a ae s σ H Q I) fun h=>h.elim (b ae s σ H Q I) (c ae s σ H Q I)
theorem Be{X:Cx}{e:Expr}{t1 t2:TE}(a:PE X e t1)(b:PE X e t2):PE X e (fun σ H Q=>t1 σ H Q\/t2 σ H Q):=fun ae s σ H Q I h=>h.elim (a ae s σ H Q I) (b ae s σ H Q I)
end L2
namespace sH
open PySem L2 iF
abbrev Bg:Stmt:=top 52
abbrev Lj:Stmt:=top 54
abbrev sR:Stmt:=top 56
theorem Lk:bootBuiltins "ValueError"=some (.type "ValueError"):=by decide +kernel
def Hd:Expr->Expr
 |.Call _ (e::_) _ _=>e
 |e=>e
def He:Expr->Expr
 |.Compare l _ _ _=>l
 |e=>e
def Xm:Expr->Expr
 |.BoolOp _ (e::_) _=>e
 |e=>e
def QA:Stmt->Expr
 |.If t _ _ _=>t
 |.Return (some e) _=>e
 |_=>.Name "x" ⟨0,0,0,0⟩
def QB:Stmt->List Stmt
 |.For _ _ b _ _=>b
 |_=>[]
abbrev nl:Stmt:=.Pass ⟨0,0,0,0⟩
def pr:Expr:=Hd (He (QA ((QB ((aX sR).getD 0 nl)).getD 4 nl)))
def qN:Expr:=Hd (He (Xm (QA ((aX Lj).getD 0 nl))))
def pz:Expr:=Hd (He (QA ((aX Lj).getD 1 nl)))
def DE:Str:=("law":Str)++".<locals>."++"<lambda>"
def xg:Str:=("_law_many_right":Str)++".<locals>."++"<lambda>"
abbrev IX:List Str:=["_law_pot_here","_law_ranks_here"]
abbrev B1:List Str:=["_law_rule","_law_net","_law_homes","_law_stand"]
theorem Hf:ph IX 0 (rh pr) DE (sP pr) (rf pr):=by
 refine⟨rfl,by decide +kernel,fun aI pm c iS us hl=>?_,by decide +kernel,fun i x hi hx=>?_,by decide +kernel,rfl,rfl⟩
 .obtain rfl:=tS.mp hl;rfl
 .match i,hx with
  |0,hx=>cases hx;rfl
  |1,hx=>cases hx;rfl
theorem Hg:ph B1 0 (rh qN) xg (sP qN) (rf qN):=by
 refine⟨rfl,by decide +kernel,fun aI pm c iS us hl=>?_,by decide +kernel,fun i x hi hx=>?_,by decide +kernel,rfl,rfl⟩
 .obtain rfl:=tS.mp hl;rfl
 .match i,hx with
  |0,hx=>cases hx;rfl
  |1,hx=>cases hx;rfl
  |2,hx=>cases hx;rfl
  |3,hx=>cases hx;rfl
theorem Hh:ph B1 0 (rh pz) xg (sP pz) (rf pz):=by
 refine⟨rfl,by decide +kernel,fun aI pm c iS us hl=>?_,by decide +kernel,fun i x hi hx=>?_,by decide +kernel,rfl,rfl⟩
 .obtain rfl:=tS.mp hl;rfl
 .match i,hx with
  |0,hx=>cases hx;rfl
  |1,hx=>cases hx;rfl
  |2,hx=>cases hx;rfl
  |3,hx=>cases hx;rfl
def nG(K:PySem.W.Frag)(CE:Addr):Sp:=fun vs H Q E=>∃ (x v:V),vs=[x,v]/\nB K H v/\∀H',aF H H'->E (.ref CE) none H'
def pA(CR CE:Addr):Sp:=fun vs H Q E=>∃ (rx ha:Addr) (x1 x2 x3:V) (ranks:List Int) (homes:List Nat),vs=[.ref rx,x1,.ref ha,x2,x3]/\f_ CR H rx ranks/\H ha=some (.tup (NV homes))/\ranks.length≠homes.length/\E (.ref CE) none H
def NG(K:PySem.W.Frag)(CR CE:Addr)(EL:XK):TE:=Ev CR (nG K CE) [] EL (aQ (gG (qM K) [] E0 (aQ (bb 0) (aQ (bb 1) eA))) eA)
abbrev DG:TA:=aQ (bb 1) (aQ (bb 2) (aQ (bb 3) (aQ (tC (.int 0)) eA)))
def IY(CR CE PN:Addr)(EL:XK):TE:=fun σ H Q=>zq CR "order" (nA CR PN) [] E0 (bb 0) DG σ H Q\/zq CR "order" (pA CR CE) [] EL (bb 0) DG σ H Q
def IZ(C CR CE PN:Addr)(EL:XK):TE:=fun σ H Q=>gG (lO C CR PN) [] E0 (aQ (bb 0) DG) σ H Q\/gG (pA CR CE) [] EL (aQ (bb 0) DG) σ H Q
theorem Bh{CR CE PN:Addr}{EL:XK}{σ:St}{H:Hp}{Q1 Q2:VK}(m:∀v H',Q1 v H'->Q2 v H')(h:IY CR CE PN EL σ H Q1):IY CR CE PN EL σ H Q2:=by
 rcases h with h|h
 .obtain⟨x0,e0,a,dx,fs,ea,e1,e2,x1,y1,x2,y2,x3,y3,z1,z2,z3,z4,z5,z6,z7,z8,z9,g1,g2,g3,g4,g5,g6,g7,q⟩:=h;exact .inl ⟨x0,e0,a,dx,fs,ea,e1,e2,x1,y1,x2,y2,x3,y3,z1,z2,z3,z4,z5,z6,z7,z8,z9,g1,g2,g3,g4,g5,g6,g7,fun r H' out a b c d e f=>m _ _ (q r H' out a b c d e f)⟩
 .exact .inr h
theorem Bi{C CR CE PN:Addr}{EL:XK}{σ:St}{H:Hp}{Q1 Q2:VK}(m:∀v H',Q1 v H'->Q2 v H')(h:IZ C CR CE PN EL σ H Q1):IZ C CR CE PN EL σ H Q2:=by
 rcases h with h|h
 .obtain⟨x0,e0,x1,y1,x2,y2,x3,y3,L,z2,z3,z4,z5,z6,z7,z8,z9,Xn,Xo,g1,g2,g3,g4,g5,g6,g7,g8,q⟩:=h;exact .inl ⟨x0,e0,x1,y1,x2,y2,x3,y3,L,z2,z3,z4,z5,z6,z7,z8,z9,Xn,Xo,g1,g2,g3,g4,g5,g6,g7,g8,fun t H' a b=>m _ _ (q t H' a b)⟩
 .exact .inr h
structure Ll(K:PySem.W.Frag)(mg:Str->Option Value)(cB CE:Addr)(c:Nat->Addr):Prop where
 beat:Er K mg "BeatError" cB
 rank:Er K mg "NoRanks" CE
 e0:mg "NoBerth"=some (.ref (c 0))
 e1:mg "NoHanding"=some (.ref (c 1))
 e2:mg "NoHouse"=some (.ref (c 2))
 e3:mg "NoNet"=some (.ref (c 3))
 e4:mg "NoPlan"=some (.ref (c 4))
 e5:mg "NoRow"=some (.ref (c 5))
 e6:mg "NoShape"=some (.ref (c 6))
 e7:mg "NoStand"=some (.ref (c 7))
 e8:mg "NoText"=some (.ref (c 8))
 e9:mg "NoTie"=some (.ref (c 9))
 Xp:mg "TooMany"=some (.ref (c 10))
 ka:PySem.W.kitAny K (.ref CE) ([c 0,c 1,c 2,c 3,c 4,c 5,c 6,c 7,c 8,c 9].map Value.ref)=some false
 kb:PySem.W.kitOne K (.ref CE) (.ref (c 10))=some false
 ks:PySem.W.kitOne K (.ref CE) (.ref CE)=some true
 kv:PySem.W.kitOne K (.ref CE) (.type "ValueError")=some true
 sb:PySem.W.subIn K (.ref CE) (.ref cB)=some true
def Bj(CE:Addr)(H:Hp)(Q:VK)(W:VK->XK->Prop):Prop:=W (fun _ H'=>Q (.str "let") H') fun C _ H'=>C=.ref CE/\∀sC,aF H' sC->Q (.str "ranks") sC
def qO(K:PySem.W.Frag)(C CR CE PN:Addr):Sp:=fun vs H Q _=>∃f:Addr,vs=[.ref f]/\(
  ((∃cells c,H f=some (eN f DE (sP pr) (rf pr) (rh pr) cells c))/\Bj CE H Q (gv 0 (rh pr) DE (sP pr) (rf pr) IX (NG K CR CE) f [] H))\/
  (((∃cells c,H f=some (eN f xg (sP qN) (rf qN) (rh qN) cells c))/\Bj CE H Q (gv 0 (rh qN) xg (sP qN) (rf qN) B1 (IY CR CE PN) f [] H))\/
   ((∃cells c,H f=some (eN f xg (sP pz) (rf pz) (rh pz) cells c))/\Bj CE H Q (gv 0 (rh pz) xg (sP pz) (rf pz) B1 (IZ C CR CE PN) f [] H))))
section
variable {P:Program} {w:World} {K:PySem.W.Frag} {mg:Str->Option Value} {base:Heap}
theorem kF:aE ["_law_deed","_law_said_here","e","_law_beside"] ["_law_deed"] (al Bg):=⟨rfl,rfl,rfl,by decide +kernel,rfl,by decide +kernel,by decide +kernel⟩
theorem DH{f C CR CE cB PN fR:Addr}{c:Nat->Addr}{fd Lm:FuncData}(F:fJ K "_law_said" "_law_said" Bg f fd)(B:Bl mg)(R:Ll K mg cB CE c)(RT:AW K mg CR)(MR:Mk K CR fR)(bR:fV K Lm ["self","ranks"] [])(GR:a9 P w K mg base (jh P w) 2 fR Lm ["self","ranks"] (nG K CE))(NO:dA P w K mg base be 2 "_law_none" ["_law_pot_here","_law_ranks_here"] (qM K))(MO:e_ P w K mg base be 9 CR "order" IW (nA CR PN))(Xq:e_ P w K mg base (jh P w) 2 CR "order" IW (pA CR CE))(HA:dA P w K mg base be 10 "hand" ["rule","net","homes","stand","beat"] (lO C CR PN))(Xr:dA P w K mg base (jh P w) 3 "hand" ["rule","net","homes","stand","beat"] (pA CR CE)):
  a9 P w K mg base be 12 f fd ["_law_deed"] (qO K C CR CE PN):=by
 obtain⟨f1,d1,m1,b1,G1⟩:=MO.ex;obtain⟨f2,d2,m2,b2,G2⟩:=Xq.ex;obtain⟨f3,d3,m3,b3,g3,G3⟩:=Xr.ex;refine F.ok kF (fun vs H Q E h=>?_) (fun dg A outer s H vs Q E hr h=>?_)
 .obtain⟨f',rfl,_⟩:=h;rfl
 .obtain⟨f',rfl,q⟩:=h;have h3:bQ 3 _:=hr.mono (by decide);refine'⟨_,ak (bj (i:=1) kF.nd rfl (Or.inl rfl) el)
   (ak (DD (i:=2) (tb:=fun E=>y8 (Eo (fun σ H Q=>wN 0 (rh pr) DE (sP pr) (rf pr) IX (NG K CR CE) E σ H Q\/(wN 0 (rh qN) xg (sP qN) (rf qN) B1 (IY CR CE PN) E σ H Q\/wN 0 (rh pz) xg (sP pz) (rf pz) B1 (IZ C CR CE PN) E σ H Q))) y7) (th:=y8 (xp (tC (.str "other")) (bA 1)) (y8 (xp (Iu (EQ K) (aQ (bb 2) (aQ (uV (aQ (tC (.ref (c 0))) (aQ (tC (.ref (c 1))) (aQ (tC (.ref (c 2))) (aQ (tC (.ref (c 3))) (aQ (tC (.ref (c 4))) (aQ (tC (.ref (c 5))) (aQ (tC (.ref (c 6))) (aQ (tC (.ref (c 7))) (aQ (tC (.ref (c 8))) (aQ (tC (.ref (c 9))) eA))))))))))) eA))) (bA 3)) (Ji (B7 (L2.tB (Iu (zJ K) (aQ (bb 2) (aQ (tC (.ref CE)) eA)))) (B7 (L2.tB (Iu (JQ K) (aQ (bb 2) (aQ (tC (.ty "ValueError")) eA)))) (B7 (Fq (L2.tB (bb 3))) (Fq (L2.tB (Iu (zJ K) (aQ (bb 2) (aQ (tC (.ref (c 10))) eA)))))))) (xp (tC (.str "ranks")) (bA 1)) y7))) R.beat.ok rfl R.beat.at_ rfl rfl kF.nd rfl rfl
      (fun E Kv xe hx=>ap (df (G_
       (m8 hr rfl Hf (pv 0) (fun EL f' aI c' s' H'=>qa MR GR ((hr.deeper _).mono (by decide)) rfl RT.KC bR .nil (Aq fun _ _ _ h=>h) (aa (aJ NO ((hr.deeper _).mono (by decide)) aM (aa (pv 0) (aa (pv 1) ag))) ag)) hx)
       (m8 hr rfl Hg (pv 0) (fun EL f' aI c' s' H'=>Be (cS (pv 0) RT.cl m1 G1 ((hr.deeper _).mono (by decide)) b1 .nil aM (aa (pv 1) (aa (pv 2) (aa (pv 3) (aa aw ag))))) (cS (pv 0) RT.cl m2 G2 ((hr.deeper _).mono (by decide)) b2 .nil (Aq fun _ _ _ h=>h) (aa (pv 1) (aa (pv 2) (aa (pv 3) (aa aw ag)))))) hx)
       (m8 hr rfl Hh (pv 0) (fun EL f' aI c' s' H'=>Be (aJ HA ((hr.deeper _).mono (by decide)) aM (aa (pv 0) (aa (pv 1) (aa (pv 2) (aa (pv 3) (aa aw ag)))))) (v7 G3 ((hr.deeper _).mono (by decide)) rfl m3 b3 g3 .nil (Aq fun _ _ _ h=>h) (aa (pv 0) (aa (pv 1) (aa (pv 2) (aa (pv 3) (aa aw ag))))))) hx))))
      ?hh)
   (ap (aY (pv 1)))),?_⟩
  case hh=>exact fun Kv p'=>ak (bj (i:=1) kF.nd rfl (Or.inl rfl) el) (ak (bj (i:=3) kF.nd rfl (Or.inl rfl) (au yc (by rfl) B.rc dM (aa (pv 2) (aa (hZ (aa (bi (v:=.ref (c 0)) rfl R.e0 rfl) (aa (bi (v:=.ref (c 1)) rfl R.e1 rfl) (aa (bi (v:=.ref (c 2)) rfl R.e2 rfl) (aa (bi (v:=.ref (c 3)) rfl R.e3 rfl) (aa (bi (v:=.ref (c 4)) rfl R.e4 rfl) (aa (bi (v:=.ref (c 5)) rfl R.e5 rfl) (aa (bi (v:=.ref (c 6)) rfl R.e6 rfl) (aa (bi (v:=.ref (c 7)) rfl R.e7 rfl) (aa (bi (v:=.ref (c 8)) rfl R.e8 rfl) (aa (bi (v:=.ref (c 9)) rfl R.e9 rfl) ag))))))))))) ag))))
   (ap (cG (PW.pt (uG (cm (au cx (by rfl) B.rc dM (aa (pv 2) (aa (bi (v:=.ref CE) rfl R.rank.at_ rfl) ag)))) (uG (cm (au eV (by rfl) B.rc dM (aa (pv 2) (aa (gf (v:=.ty "ValueError") rfl B.Py Lk rfl) ag)))) (uG (dh (cm (pv 3))) (B8 (dh (cm (au cx (by rfl) B.rc dM (aa (pv 2) (aa (bi (v:=.ref (c 10)) rfl R.Xp rfl) ag)))))))))) (ap (bj (i:=1) kF.nd rfl (Or.inl rfl) el)) br)))
  refine⟨fun σ' C' _ H'=>σ'=[some (.ref f'),some (.str "let"),none,none]/\C'=.ref CE/\∀sC,aF H' sC->Q (.str "ranks") sC,⟨?_,?_⟩⟩
  .have QC:∀ {sc:Scope} {lq:Str} {pa:Arguments} {bo:Expr} {NB:List Str} {te:XK->TE} {Q1 Q2:VK} {E1 E2:XK},(∀ {EL σ H} {Q1 Q2:VK},(∀v H',Q1 v H'->Q2 v H')->te EL σ H Q1->te EL σ H Q2)->(∀v H',Q1 v H'->Q2 v H')->(∀C d H',E1 C d H'->E2 C d H')->gv 0 sc lq pa bo NB te f' [] H Q1 E1->gv 0 sc lq pa bo NB te f' [] H Q2 E2:=fun {sc lq pa bo NB te Q1 Q2 E1 E2} tm hq he h=>by
    obtain⟨cells,c,h0,ws,EL,a1,a2,a3,a4,a5,a6,a7,a8⟩:=h;exact⟨cells,c,h0,ws,EL,a1,a2,a3,a4,a5,a6,fun C d H' e n=>he _ _ _ (a7 C d H' e n),tm (fun v H' k n=>hq _ _ (k n)) a8⟩
   rcases q with ⟨h1,s⟩|⟨h1,s⟩|⟨h1,s⟩
   .exact .inl ⟨f',rfl,h1,QC (te:=NG K CR CE) (fun _ h=>h) (fun v H' q=>⟨_,rfl,q⟩) (fun C d H' q=>⟨rfl,q⟩) s⟩
   .exact .inr (.inl ⟨f',rfl,h1,QC (te:=IY CR CE PN) Bh (fun v H' q=>⟨_,rfl,q⟩) (fun C d H' q=>⟨rfl,q⟩) s⟩)
   .exact .inr (.inr ⟨f',rfl,h1,QC (te:=IZ C CR CE PN) Bi (fun v H' q=>⟨_,rfl,q⟩) (fun C d H' q=>⟨rfl,q⟩) s⟩)
  .rintro σ' C' H4 ⟨rfl,rfl,k⟩;refine⟨R.sb,⟨_,rfl⟩,fun px Xs=>?_⟩;have s5:=aj (o:=oj px (.ref CE)) Xs;have UF:(upd H4 px (oj px (.ref CE))) px=some (oj px (.ref CE)):=af;generalize upd H4 px _=H5 at *;refine⟨_,rfl,by show 10<=sizeLine;decide,fun t1 UG=>⟨px,CE,t1,[c 0,c 1,c 2,c 3,c 4,c 5,c 6,c 7,c 8,c 9],false,rfl,R.rank.ok,(aj UG) _ _ UF,cQ.of af,R.ka,?_⟩⟩;have s6:=aj (o:=.tup ([c 0,c 1,c 2,c 3,c 4,c 5,c 6,c 7,c 8,c 9].map V.ref)) UG;have QD:=s6 _ _ UF;refine⟨_,rfl,_,_,_,_,rfl,R.ks,.exc R.rank.ok QD,true,rfl,rL ⟨_,rfl,_,_,_,.ref CE,true,rfl,⟨rfl,R.kv⟩,.exc R.rank.ok QD,true,rfl,rL ⟨_,rfl,false,rfl,rL ?_⟩⟩⟩;refine⟨_,rfl,_,_,_,_,rfl,R.kb,.exc R.rank.ok QD,false,rfl,rL ⟨_,rfl,?_⟩⟩;exact k _ (s5.trans s6)
end
theorem kG{S:Addr->Prop}{h0:Heap}{H1 H:Hp}(n:∀a,S a->H1 a=none)(s:aF (eD S h0 H1) H):aF H1 (qv S H):=fun b o e=>by
 have c:¬ S b:=fun z=>by rw[n b z] at e;cases e
 rw[ce c];exact s b o (by rw[aN c];exact e)
theorem nI{S:Addr->Prop}{h0:Heap}{H:Hp}(n:∀a,S a->H a=none):qv S (eD S h0 H)=H:=funext fun b=>by
 by_cases c:S b
 .rw[gq c,n b c]
 .rw[ce c,aN c]
theorem _root_.L2.cw.E_{lp:Pos}{q:Str}{P P':Addr}{H H':Hp}(t:cw lp q P H)(s:iT P' H H')(hp:∃ps,H P'=some (.de ps))(n:P≠P'):cw lp q P H':=by
 obtain⟨ps,hp⟩:=hp;rcases t with z|⟨c,z,y⟩
 .exact .inl (s _ _ z n)
 .exact .inr ⟨c,s _ _ z n,s _ _ y (by rintro rfl;rw[hp] at y;cases y)⟩
theorem _root_.L2.cw.de{lp:Pos}{q:Str}{P:Addr}{H:Hp}(t:cw lp q P H):∃ps,H P=some (.de ps):=by
 rcases t with z|⟨c,z,y⟩
 .exact⟨_,z⟩
 .exact⟨_,z⟩
abbrev DI(PM:Addr)(H:Hp):Prop:=gK (yH qN) (yH pz) xg PM H
theorem _root_.L2.sG.keep{p1 p2:Pos}{q:Str}{P:Addr}{H H':Hp}(t:sG p1 p2 q P H)(k:∀b o,H b=some o->(b=P\/∀ps,o≠.de ps)->H' b=some o):sG p1 p2 q P H':=by
 obtain⟨c1,e1,t|⟨c2,e2,t⟩⟩:=t
 .exact⟨c1,k _ _ e1 (.inr fun ps z=>by cases z),.inl (k _ _ t (.inl rfl))⟩
 .exact⟨c1,k _ _ e1 (.inr fun ps z=>by cases z),.inr ⟨c2,k _ _ e2 (.inr fun ps z=>by cases z),k _ _ t (.inl rfl)⟩⟩
theorem _root_.L2.gK.de{p1 p2:Pos}{q:Str}{P:Addr}{H:Hp}(t:gK p1 p2 q P H):∃ps,H P=some (.de ps):=by
 rcases t with t|⟨c1,e1,t|⟨c2,e2,t⟩⟩ <;> exact⟨_,t⟩
theorem gy{P b:Addr}{H:Hp}{o:HO}(t:∃ps,H P=some (.de ps))(h:H b=some o)(n:tE o):b≠P:=by
 rintro rfl;obtain⟨ps,t⟩:=t;rw[h] at t;cases t;exact n _ rfl
theorem b_.kn{C px:Addr}{H H':Hp}{L:Addr->Prop}{n:Nat}{ts:Ts}(N:b_ C H L px n ts)(s:∀b o,H b=some o->tE o->H' b=some o):∃L',b_ C H' L' px n ts:=by
 obtain⟨dx,tl,ol,ds,i0,_⟩:=N.ob;exact⟨_,N.Um.keep (H':=H') (fun b o l e=>by obtain⟨_,o',e',n⟩:=l;rw[e] at e';cases e';exact s _ _ e n) (fun o e=>s _ _ e (by rw[i0] at e;cases e;intro ps z;cases z))⟩
theorem f_.kn{CR:Addr}{H H':Hp}{rx:Addr}{ranks:List Int}(h:f_ CR H rx ranks)(s:∀b o,H b=some o->tE o->H' b=some o):f_ CR H' rx ranks:=let ⟨rd,ra,a,b⟩:=h;⟨rd,ra,s _ _ a (by intro ps z;cases z),s _ _ b (by intro ps z;cases z)⟩
structure vR(C CR PN PM:Addr)(H:Hp)(a px ha sa:Addr)(n:Nat)(ts:Ts)(homes:List Nat)(st:List (Option Nat))(ranks:List Int):Prop where
 rk:f_ CR H a ranks
 net:∃L,b_ C H L px n ts
 h:H ha=some (.tup (NV homes))
 s:H sa=some (.tup (st.map oV))
 ok:nu n homes st
 tn:cT PN H
 tm:∃ps,H PM=some (.de ps)
theorem vR.kn{C CR PN PM:Addr}{H H':Hp}{a px ha sa:Addr}{n:Nat}{ts:Ts}{homes:List Nat}{st:List (Option Nat)}{ranks:List Int}(A:vR C CR PN PM H a px ha sa n ts homes st ranks)(s:∀b o,H b=some o->tE o->H' b=some o)(tn:cT PN H')(tm:∃ps,H' PM=some (.de ps)):vR C CR PN PM H' a px ha sa n ts homes st ranks:=
 ⟨A.rk.kn s,A.net.elim fun _ N=>N.kn s,s _ _ A.h (by intro ps z;cases z),s _ _ A.s (by intro ps z;cases z),A.ok,tn,tm⟩
def sS(ranks:List Int)(homes:List Nat):Str:=if ranks.length=homes.length then "let" else "ranks"
section
variable {P:Program} {w:World} {K:PySem.W.Frag} {mg:Str->Option Value} {base:Heap}
theorem xh{C CR CE PN PM a px ha sa f c:Addr}{n:Nat}{ts:Ts}{homes:List Nat}{st:List (Option Nat)}{ranks:List Int}{cells:List (Str×Addr)}{h0:Heap}{H:Hp}{R:VK}{sc:Scope}{pa:Arguments}{bo:Expr}{te:XK->TE}(A:vR C CR PN PM H a px ha sa n ts homes st ranks)(hf:H f=some (eN f xg pa bo sc cells c))(hc:H c=some (dz c xg))(nS:∀a,ba cells a->H a=none)(LE:ye cells h0 (eD (ba cells) h0 H))(cv:∀ (i:Nat) (x:Str) (v:V),B1[i]?=some x->[V.ref a,.ref px,.ref ha,.ref sa][i]?=some v->sE cells h0 x v)(Ks:∀EL (Q:VK),(ranks.length=homes.length->∀v H',cT PN H'->iT PN H H'->Q v H')->(ranks.length≠homes.length->EL (.ref CE) none H)->te EL [some (.ref a),some (.ref px),some (.ref ha),some (.ref sa)] H Q)(q:∀H' Hx,cT PN H'->iT PN H H'->qv (ba cells) Hx=H'->(∀a,ba cells a->Hx a=some (jH h0 a))->R (.str (sS ranks homes)) Hx):
  Bj CE (eD (ba cells) h0 H) R (gv 0 sc xg pa bo B1 te f [] (eD (ba cells) h0 H)):=by
 have inj:aF H (eD (ba cells) h0 H):=fun b o e=>by rw[aN fun z=>by rw[nS b z] at e;cases e];exact e
 refine⟨cells,c,h0,[.ref a,.ref px,.ref ha,.ref sa],fun C' _ H'=>C'=.ref CE/\H'=H/\ranks.length≠homes.length,inj _ _ hf,inj _ _ hc,rfl,rfl,LE,fun i x v h1 h2=>cv i x v (by rw[mi] at h1;exact h1) h2,fun C' d H' e n=>?_,?_⟩
 .obtain⟨rfl,rfl,ne⟩:=e;refine⟨rfl,fun sC s=>?_⟩;have:=q (qv (ba cells) sC) sC (A.tn.same (kG nS s)) (fun b o e _=>kG nS s b o e) rfl fun a z=>s _ _ (jI z);rw[sS,am ne] at this;exact this
 .rw[nI nS];refine Ks _ _ (fun e v H' t k n'=>?_) fun ne=>⟨rfl,rfl,ne⟩
  have:=q H' (eD (ba cells) h0 H') t k (nI n') fun a z=>jI z;rw[sS,ao e] at this;exact this
theorem QE:aE ["_law_rule","_law_net","_law_homes","_law_stand","_law_due"] ["_law_rule","_law_net","_law_homes","_law_stand","_law_due"] (al Lj):=⟨rfl,rfl,rfl,by decide +kernel,rfl,by decide +kernel,by decide +kernel⟩
def Hi(C CR PN PM:Addr):Sp:=fun vs H Q _=>∃ (a px ha sa:Addr) (n:Nat) (ts:Ts) (homes:List Nat) (st:List (Option Nat)) (ranks:List Int),vs=[.ref a,.ref px,.ref ha,.ref sa,.str (sS ranks homes)]/\vR C CR PN PM H a px ha sa n ts homes st ranks/\DI PM H/\
 ∀H',cT PN H'->DI PM H'->(∀b o,H b=some o->b≠PN->b≠PM->H' b=some o)->Q (.bl true) H'
theorem Ln{f c C CR CE PN PM:Addr}{fd:FuncData}(F:lu K "_law_many_right" "_law_many_right" Lj f fd c)(kb:K.In base)(hb:ln mg base)(hc:PySem.W.codeHdIn K c PM=true)(NH:PN≠PM)(Xt:mg "repr"=none)(RT:AW K mg CR)(SA:dA P w K mg base be 12 "_law_said" ["_law_deed"] (qO K C CR CE PN))(MP:e_ P w K mg base be 1 CR "period" ["self","homes"] AZ):a9 P w K mg base be 13 f fd ["_law_rule","_law_net","_law_homes","_law_stand","_law_due"] (Hi C CR PN PM):=by
 obtain⟨fP,dP,mP,bP,GP⟩:=MP.ex;refine F.ok QE (fun vs H Q E h=>?_) (fun A outer s H vs Q E hr h=>?_)
 .obtain⟨a,px,ha,sa,n,ts,homes,st,ranks,rfl,_⟩:=h;rfl
 .obtain⟨a,px,ha,sa,n,ts,homes,st,ranks,rfl,AK,tm,q⟩:=h;have h1:bQ 1 _:=hr.mono (by decide);refine⟨_,(ak (cG (PW.pt (oF (bu kW (qw SA hr rfl rfl (aa (At (p2:=yH pz) (NB:=B1) (src:=[some 0,some 1,some 2,some 3]) (jF kb hb hc) (bz (by kernel_rfl))) ag)) (pv 4) (bB _)) (j6 (bu kW (au (vN hr.gd hr.u) (by rfl) Xt PyProof.Rows.boot_repr (aa (cS (pv 0) RT.cl mP GP h1 bP .nil aM (aa (pv 2) ag)) ag)) el (bB _))))) (ap (aY jt)) br)
   (ap (aY (iy jv (qw SA hr rfl rfl (aa (Au (p1:=yH qN) (p2:=yH pz) (NB:=B1) (src:=[some 0,some 1,some 2,some 3]) (jF kb hb hc) (bz (by kernel_rfl)) (by kernel_rfl)) ag)) (pv 4) (bB _))))),?_⟩
  refine⟨tm,fun f1 c1 H1 tw1 k1 NI B3=>fun I0 Xu NJ Fa=>⟨f1,rfl,.inr (.inl ⟨⟨_,c1,by rw[aN fun z=>by rw[I0 _ z] at B3;cases B3];exact B3⟩,?_⟩)⟩⟩;have QF:∀b o,H b=some o->tE o->H1 b=some o:=fun b o e nt=>k1 b o e (gy AK.tm e nt);have NK:cT PN H1:=AK.tn.E_ k1 AK.tm NH;have QG:∃ps,H1 PM=some (.de ps):=gK.de (.inr tw1);have A1:=AK.kn QF NK QG;refine xh (sc:=rh qN) (pa:=sP qN) (bo:=rf qN) (te:=IY CR CE PN) A1 B3 NI I0 NJ (fun i x v e1 e2=>?_) (fun EL Q good GY=>?_) fun H2 Hx Xv k2 hx kx=>⟨kx,?_⟩
  .match i,e1,e2 with
   |0,e1,e2=>cases e1;cases e2;exact Fa 0 _ _ rfl rfl rfl
   |1,e1,e2=>cases e1;cases e2;exact Fa 1 _ _ rfl rfl rfl
   |2,e1,e2=>cases e1;cases e2;exact Fa 2 _ _ rfl rfl rfl
   |3,e1,e2=>cases e1;cases e2;exact Fa 3 _ _ rfl rfl rfl
  .obtain⟨da,ra,g1,g2⟩:=id A1.rk;by_cases e:ranks.length=homes.length
   .exact .inl ⟨_,rfl,a,da,_,rfl,g1,qK,_,rfl,_,rfl,_,rfl,.ref px,.int 0,a,ha,sa,n,ranks,homes,st,rfl,A1.rk,e,A1.h,A1.s,A1.ok,NK,fun r H' out t s _ _ _ _=>good e _ _ t s⟩
   .exact .inr ⟨_,rfl,a,da,_,rfl,g1,qK,_,rfl,_,rfl,_,rfl,a,ha,.ref px,.ref sa,.int 0,ranks,homes,rfl,A1.rk,A1.h,e,GY e⟩
  rw[hx];have Xw:∀b o,H b=some o->tE o->H2 b=some o:=fun b o e nt=>k2 _ _ (QF _ _ e nt) (NK.not (QF _ _ e nt) nt);have Xx:∀b o,H b=some o->b≠PN->b≠PM->H2 b=some o:=fun b o e n1 n2=>k2 _ _ (k1 _ _ e n2) n1;have tw2:sG (yH qN) (yH pz) xg PM H2:=tw1.keep fun b o e z=>k2 b o e (z.elim (fun z=>z ▸ NH.symm) fun nt=>NK.not e nt);have A2:=AK.kn Xw Xv (gK.de (.inr tw2));obtain⟨da,ra,g1,g2⟩:=id A2.rk;refine⟨_,rfl,rfl,_,rfl,sO (by simp) ?_⟩;refine⟨_,rfl,a,da,_,rfl,g1,G0,_,rfl,_,_,rfl,.int 1,.int 1,rfl,.inr (.inr (.inr (.inl ⟨1,rfl,rfl,by decide⟩))),rfl,_,rfl,sO (by decide) ?_⟩;refine⟨tw2,fun f3 c3 H3 tw3 k3 Xy NM=>fun UH YL Xz NN=>⟨f3,rfl,.inr (.inr ⟨⟨_,c3,by rw[aN fun z=>by rw[UH _ z] at NM;cases NM];exact NM⟩,?_⟩)⟩⟩;have XA:∀b o,H2 b=some o->tE o->H3 b=some o:=fun b o e nt=>k3 b o e (gy A2.tm e nt);have QH:cT PN H3:=A2.tn.E_ k3 A2.tm NH;have A3:=A2.kn XA QH (gK.de (.inr tw3));refine xh (sc:=rh pz) (pa:=sP pz) (bo:=rf pz) (te:=IZ C CR CE PN) A3 NM Xy UH Xz (fun i x v e1 e2=>?_) (fun EL Q good GY=>?_) fun H4 Hy XB k4 hy ky=>⟨ky,?_⟩
  .match i,e1,e2 with
   |0,e1,e2=>cases e1;cases e2;exact NN 0 _ _ rfl rfl rfl
   |1,e1,e2=>cases e1;cases e2;exact NN 1 _ _ rfl rfl rfl
   |2,e1,e2=>cases e1;cases e2;exact NN 2 _ _ rfl rfl rfl
   |3,e1,e2=>cases e1;cases e2;exact NN 3 _ _ rfl rfl rfl
  .by_cases e:ranks.length=homes.length
   .obtain⟨L,N⟩:=A3.net;exact .inl ⟨_,rfl,_,rfl,_,rfl,_,rfl,L,a,px,ha,sa,.int 0,n,ts,homes,st,ranks,rfl,A3.rk,e,N,A3.h,A3.s,A3.ok,QH,fun t H' t' s=>good e _ _ t' s⟩
   .exact .inr ⟨_,rfl,_,rfl,_,rfl,_,rfl,a,ha,.ref px,.ref sa,.int 0,ranks,homes,rfl,A3.rk,A3.h,e,GY e⟩
  rw[hy];refine⟨_,rfl,rfl,?_⟩;have tw4:sG (yH qN) (yH pz) xg PM H4:=tw3.keep fun b o e z=>k4 b o e (z.elim (fun z=>z ▸ NH.symm) fun nt=>QH.not e nt);have:=q H4 XB (.inr tw4) fun b o e n1 n2=>k4 _ _ (k3 _ _ (Xx _ _ e n1 n2) n2) n1;simpa using this
end
abbrev QI:Stmt:=top 55
theorem Bk:(["_law_k","_law_way"]:List Str).Nodup:=by decide +kernel
theorem k_{bs:Nat->Bool}:∀l:List Nat,jE we (l.map fun i=>V.bl (bs i)) (l.map fun i=>V.bl (bs i))=true
 |[]=>rfl
 |i::l=>by
  show (we (V.bl (bs i)) (V.bl (bs i))&&jE we (l.map _) (l.map _))=true;rw[k_ l];simp[we]
theorem nJ{bs:Nat->Bool}{m:Nat}(i:Nat):fY (((List.range m).map fun i=>V.bl (bs i)).getD i .bH)=true:=by
 rw[dS,bw];cases (List.range m)[i]? <;> rfl
structure UI(K:PySem.W.Frag)(mg:Str->Option Value)(CB:Addr)(c:Nat->Addr):Prop where
 m0:mg "Elder"=some (.ref (c 0))
 m1:mg "Nearest"=some (.ref (c 1))
 m2:mg "Farthest"=some (.ref (c 2))
 m3:mg "Turns"=some (.ref (c 3))
 m4:mg "InTurn"=some (.ref (c 4))
 m5:mg "Ranked"=some (.ref (c 5))
 mB:mg "Rule"=some (.ref CB)
 hn:PySem.W.specialIn K (.builtin "object.__class__") "__get__"=some (some (.builtin "getset_descriptor.__get__"))
 FK:PySem.W.takesIn K (.builtin "object.__class__")=some true
 cl:∀i,i<6->xy K (c i)
 ha:∀i,i<6->PySem.W.findIn K (.ref (c i)) "__class__"=some (some (.builtin "object.__class__"))
 hm:∀i,i<6->PySem.W.mroIn K (c i) (.type "object")=some true
 nw:∀i,i<5->Uk K (c i)
 ki:∀i j,i<6->j<6->PySem.W.kitOne K (.ref (c i)) (.ref (c j))=some (decide (j=i))
 kB:∀i,i<6->PySem.W.kitOne K (.ref (c i)) (.ref CB)=some true
def xi(c:Nat->Addr)(H:Hp)(k:Nat)(xs:List Addr):Prop:=xs.length=k/\∀i,i<k->∃d fs,H (xs.getD i 0)=some (.ins (c i) d fs)
section
variable {P:Program} {w:World} {K:PySem.W.Frag} {mg:Str->Option Value} {base:Heap}
theorem Bm:aE ["_law_rule","_law_way","_law_one","_law_kinds"] ["_law_rule"] (al QI):=⟨rfl,rfl,rfl,by decide +kernel,rfl,by decide +kernel,by decide +kernel⟩
def Hj(CR:Addr):Sp:=fun vs H Q _=>∃ (a:Addr) (d:Addr) (fs:List (Str×V)),vs=[.ref a]/\H a=some (.ins CR d fs)/\∀H',aF H H'->Q (.bl true) H'
theorem Lo{f CB:Addr}{c:Nat->Addr}{fd:FuncData}(F:fJ K "_law_rules_right" "_law_rules_right" QI f fd)(B:Bl mg)(hE:mg "enumerate"=none)(R:UI K mg CB c):a9 P w K mg base be 1 f fd ["_law_rule"] (Hj (c 5)):=by
 refine F.ok Bm (fun vs H Q E h=>?_) (fun dg A outer s H vs Q E hr h=>?_)
 .obtain⟨a,d,fs,rfl,_⟩:=h;rfl
 .obtain⟨a,d,fs,rfl,ha,q⟩:=h;refine'⟨_,(ak (hW jn rfl (CJ rfl hE (aa (fD (aa (nj (R.nw 0 (by decide)) rfl R.m0) (aa (nj (R.nw 1 (by decide)) rfl R.m1) (aa (nj (R.nw 2 (by decide)) rfl R.m2) (aa (nj (R.nw 3 (by decide)) rfl R.m3) (aa (nj (R.nw 4 (by decide)) rfl R.m4) (aa (pv 0) ag))))))) ag)) (fz (n:=2) rfl (a_ (aD (i:=1) Bm.nd rfl (Or.inr rfl)) (a_ (aD (i:=2) Bm.nd rfl (Or.inl rfl)) dX)))
    (ak (bj (i:=3) Bm.nd rfl (Or.inl rfl) (fD (aa (au cx (by rfl) B.rc dM (aa (pv 2) (aa (bi (v:=.ref (c 0)) rfl R.m0 rfl) ag))) (aa (au cx (by rfl) B.rc dM (aa (pv 2) (aa (bi (v:=.ref (c 1)) rfl R.m1 rfl) ag))) (aa (au cx (by rfl) B.rc dM (aa (pv 2) (aa (bi (v:=.ref (c 2)) rfl R.m2 rfl) ag))) (aa (au cx (by rfl) B.rc dM (aa (pv 2) (aa (bi (v:=.ref (c 3)) rfl R.m3 rfl) ag))) ag))))))
    (ak (bj (i:=3) Bm.nd rfl (Or.inl rfl) (bx zD (pv 3) (fD (aa (au cx (by rfl) B.rc dM (aa (pv 2) (aa (bi (v:=.ref (c 4)) rfl R.m4 rfl) ag))) (aa (au cx (by rfl) B.rc dM (aa (pv 2) (aa (bi (v:=.ref (c 5)) rfl R.m5 rfl) ag))) ag)))))
    (ap (cG (PW.pt (oF (dh (cm (au cx (by rfl) B.rc dM (aa (pv 2) (aa (bi (v:=.ref CB) rfl R.mB rfl) ag))))) (j6 (bu (F1 (e:=we) hr.u) (pv 3) ?c1 (bB _))))) (ap (aY jt)) br)))))
   (ap (aY jt))),?_⟩
  case c1=>
   refine' cA (g:=(bA 0)) (te:=(kU (M5) (bb 0) (bb 1))) (NB:=["_law_k","_law_way"]) (src:=[none,some 1]) (bz (by kernel_rfl)) rfl (cR rfl B.range (aa aw ag)) ?g ?t ?e;case g=>exact fun cl C s₃ H₃ fp=>(aD (i:=0) Bk rfl (Or.inl rfl) (Or.inr rfl))
   case t=>exact fun cl C s₃ H₃ fp=>cq
   case e=>exact fun cl C s₃ H₃ fp=>(iy jv (pv 0) (pv 1) (bB _))
  have step:∀ {k:Nat} {xs:List Addr} {H0 H1:Hp} {y dy:Addr},xi c H0 k xs->aF H H0->H0 y=none->H0 dy=none->dy≠y->xi c (upd (upd H0 dy (.own y)) y (.ins (c k) dy [])) (k+1) (xs++[y])/\aF H (upd (upd H0 dy (.own y)) y (.ins (c k) dy [])):=fun {k xs H0 H1 y dy} f s n1 n2 n3=>by
   have sN:aF H0 (upd (upd H0 dy (.own y)) y (.ins (c k) dy [])):=(aj (o:=.own y) n2).trans (aj (D:=y) (o:=.ins (c k) dy []) (by rw[ah n3.symm];exact n1));refine⟨⟨by rw[fL,f.1];rfl,fun i hi=>?_⟩,s.trans sN⟩;rw[o8 f.1];by_cases e:i=k
   .rw[ao e,e];exact⟨dy,[],af⟩
   .rw[am e];obtain⟨d,fs,q⟩:=f.2 i (by lia);exact⟨d,fs,sN _ _ q⟩
  have z0:xi c H 0 []:=⟨rfl,fun i hi=>absurd hi (Nat.not_lt_zero _)⟩
  refine fun y0 d0 a0 b0 e0=>?_;obtain⟨z1,s1⟩:=step (H1:=H) z0 (aF.refl _) a0 b0 e0;generalize upd (upd H d0 (.own y0)) y0 (.ins (c 0) d0 [])=H1 at *;refine fun y1 d1 a1 b1 e1=>?_;obtain⟨z2,s2⟩:=step (H1:=H) z1 s1 a1 b1 e1;generalize upd (upd H1 d1 (.own y1)) y1 (.ins (c 1) d1 [])=H2 at *;refine fun y2 d2 a2 b2 e2=>?_;obtain⟨z3,s3⟩:=step (H1:=H) z2 s2 a2 b2 e2;generalize upd (upd H2 d2 (.own y2)) y2 (.ins (c 2) d2 [])=H3 at *;refine fun y3 d3 a3 b3 e3=>?_;obtain⟨z4,s4⟩:=step (H1:=H) z3 s3 a3 b3 e3;generalize upd (upd H3 d3 (.own y3)) y3 (.ins (c 3) d3 [])=H4 at *;refine fun y4 d4 a4 b4 e4=>?_;obtain⟨z5,s5⟩:=step (H1:=H) z4 s4 a4 b4 e4;generalize upd (upd H4 d4 (.own y4)) y4 (.ins (c 4) d4 [])=H5 at *;have z6:xi c H5 6 [y0,y1,y2,y3,y4,a]:=by
   refine⟨rfl,fun i hi=>?_⟩;by_cases e:i<5
   .obtain⟨d',N3,q⟩:=z5.2 i e;refine⟨d',N3,?_⟩;rw[<-q]
    match i,e with
    |0,_=>rfl
    |1,_=>rfl
    |2,_=>rfl
    |3,_=>rfl
    |4,_=>rfl
   .obtain rfl:i=5:=by lia
    exact⟨d,fs,s5 _ _ ha⟩
  refine⟨_,rfl,by show 6<=sizeLine;decide,fun LL NE=>⟨LL,_,rfl,af,?_⟩⟩;have s6:=aj (o:=.lst [.ref y0,.ref y1,.ref y2,.ref y3,.ref y4,.ref a]) NE;have gL:(upd H5 LL (.lst [.ref y0,.ref y1,.ref y2,.ref y3,.ref y4,.ref a])) LL=some (.lst [.ref y0,.ref y1,.ref y2,.ref y3,.ref y4,.ref a]):=af;have z7:∀i,i<6->∃d fs,(upd H5 LL (.lst [.ref y0,.ref y1,.ref y2,.ref y3,.ref y4,.ref a])) ([y0,y1,y2,y3,y4,a].getD i 0)=some (.ins (c i) d fs):=fun i hi=>by
   obtain⟨d,fs,q⟩:=z6.2 i hi;exact⟨d,fs,s6 _ _ q⟩
  have XC:=s5.trans s6;generalize upd H5 LL (.lst [.ref y0,.ref y1,.ref y2,.ref y3,.ref y4,.ref a])=H6 at *;refine Ad (K:=K) (a:=LL) (xs:=[y0,y1,y2,y3,y4,a].map V.ref) (fun i σ H7=>(∃x1 x2 x3,σ=[some (.ref a),x1,x2,x3])/\aF H6 H7) ⟨⟨_,_,_,rfl⟩,aF.refl _⟩ (fun i σ H7 _ z=>bD.of (z.2 _ _ gL)) ?_ ?_
  .rintro i x p σ H7 hx ⟨⟨x1,x2,x3,rfl⟩,s7⟩ hp;have hi:i<6:=by have:=(dD.mp hx).1;rw[aT] at this;exact this
   obtain rfl:x=.ref ([y0,y1,y2,y3,y4,a].getD i 0):=by
    rw[bw,Dq (d:=0) (by exact hi)] at hx;exact(bh hx).symm
   obtain⟨di,fi,gi⟩:=z7 i hi;generalize [y0,y1,y2,y3,y4,a].getD i 0=b at *;have s8:=s7.trans (aj (o:=.tup [.int (i:Int),.ref b]) hp);have g8:=s8 _ _ gi;have ty:qg K (upd H7 p (.tup [.int (i:Int),.ref b])) (.ref b) (.ref (c i)):=.of (.ins g8 (R.cl i hi) (R.ha i hi) R.hn R.FK (R.hm i hi));refine⟨_,_,rfl,cQ.of af,rfl,_,_,rfl,_,_,rfl,rfl,?_⟩;generalize upd H7 p (.tup [.int (i:Int),.ref b])=H8 at *;refine⟨_,rfl,_,_,_,_,rfl,R.ki i 0 hi (by decide),ty,_,rfl,_,_,_,_,rfl,R.ki i 1 hi (by decide),ty,_,rfl,_,_,_,_,rfl,R.ki i 2 hi (by decide),ty,_,rfl,_,_,_,_,rfl,R.ki i 3 hi (by decide),ty,by show 4<=sizeLine;decide,fun D hD=>?_⟩;have s9:=aj (o:=.lst [.bl (decide (0=i)),.bl (decide (1=i)),.bl (decide (2=i)),.bl (decide (3=i))]) hD;have ty:=qg.keep (fun a o _ e=>s9 a o e) ty;refine⟨_,rfl,_,rfl,_,_,_,_,rfl,R.ki i 4 hi (by decide),ty,_,rfl,_,_,_,_,rfl,R.ki i 5 hi (by decide),ty,by show 2<=sizeLine;decide,fun D2 gP=>?_⟩;have Ba:=aj (o:=.lst [.bl (decide (4=i)),.bl (decide (5=i))]) gP;refine⟨D,D2,_,_,rfl,rfl,Ba _ _ af,af,by show 6<=sizeLine;decide,fun D3 re=>?_⟩;have yJ:=aj (o:=.lst ([.bl (decide (0=i)),.bl (decide (1=i)),.bl (decide (2=i)),.bl (decide (3=i))]++[.bl (decide (4=i)),.bl (decide (5=i))])) re;have ty:=qg.keep (fun a o _ e=>yJ a o e) (qg.keep (fun a o _ e=>Ba a o e) ty);have qE:=((s8.trans s9).trans Ba).trans yJ;have e6:([.bl (decide (0=i)),.bl (decide (1=i)),.bl (decide (2=i)),.bl (decide (3=i))]++[.bl (decide (4=i)),.bl (decide (5=i))]:List V)=(List.range 6).map fun k=>.bl (decide (k=i)):=rfl;rw[e6] at yJ qE ty |-;refine⟨_,rfl,_,_,_,_,rfl,R.kB i hi,ty,true,rfl,fZ ?_⟩;have XD:(upd (upd (upd H8 D (.lst [.bl (decide (0=i)),.bl (decide (1=i)),.bl (decide (2=i)),.bl (decide (3=i))])) D2 (.lst [.bl (decide (4=i)),.bl (decide (5=i))])) D3 (.lst ((List.range 6).map fun k=>.bl (decide (k=i))))) D3=some (.lst ((List.range 6).map fun k=>.bl (decide (k=i)))):=af;generalize upd (upd (upd H8 D _) D2 _) D3 _=H9 at *;refine⟨_,rfl,6,rfl,by decide,by decide,fun D4 yF=>?_⟩;rw[show ((6:Int)).toNat=6 from rfl];refine dq (lo:=0) (n:=6) (fun j ys σ I_=>(∃x,σ=[x,some (.int (i:Int))])/\aF H9 I_/\I_ D4=some (.lst ys)/\ys=(List.range j).map fun k=>.bl (decide (k=i))) ⟨⟨_,rfl⟩,aj yF,af,rfl⟩ ?_ ?_
   .rintro j ys σ I_ Kt Kf hj ⟨⟨x,rfl⟩,sm,Dv,rfl⟩ kt kf;refine⟨_,rfl,_,rfl,rfl,?_⟩;have e:decide (V.int (0+(j:Int))=V.int (i:Int))=decide (j=i):=by
     rw[gU];exact decide_eq_decide.mpr ⟨fun z=>by injection z with z;exact pW z,fun z=>by rw[z]⟩
    rw[e];exact kt _ _ _ Dv (by rw[aT,iK];exact bK (show j<7 by lia) (by decide)) ⟨⟨_,rfl⟩,cf sm yF,af,by rw[jV,c_];rfl⟩
   .rintro ys σ I_ ⟨_,sm,Dv,rfl⟩;refine⟨D3,D4,_,_,rfl,rfl,bD.of (sm _ _ XD),bD.of Dv,fun k _ _=>xP (nJ k) (nJ k),_,rfl,?_⟩;rw[ao rfl,k_];exact fZ ⟨⟨_,_,_,rfl⟩,qE.trans sm⟩
  .rintro σ H7 ⟨⟨x1,x2,x3,rfl⟩,s7⟩;exact q H7 (XC.trans s7)
end
end sH
namespace iF
def Bn(n z:Nat):List (Nat×Nat):=(List.range (n-z)).map fun h=>(h,(h+1) % n)
theorem Bo:(List.range 33).all (fun n=>Nat.blt n 3||(wL n (Bn n 0)&&wL n (Bn n 1)))=true:=by decide +kernel
theorem Bp{n z:Nat}(h1:3<=n)(h2:n<=32)(hz:z<2):ik n (mY ((Bn n z).map k9)):=by
 have:=lX.mp Bo n (d5.mpr (by lia));rw[uz,fg] at this;rcases this with q|⟨q1,q2⟩
 .have:=m6 q;lia
 .rcases(show z=0\/z=1 by lia) with rfl|rfl
  .exact(sw q1).1
  .exact(sw q2).1
end iF
namespace L2
open PySem PySem.Spec PyProof.Rows
theorem yn{X:Cx}:dE X (.type "int") (fun xs H Q=>∃b,xs=[.bl b]/\Q (.int (if b then 1 else 0)) H):=by
 intro ae s σ H xs us Q I r h;obtain⟨b,rfl,q⟩:=h;obtain⟨u1,rfl,r1⟩:=r.one;obtain rfl:u1=Value.bool b:=r1;exact call_int_bool ⟨.int _,H,I.tok _,⟨_,rfl⟩,q⟩
end L2
namespace sH
open PySem L2 iF
theorem sT:(["_law_k","_law_houses"]:List Str).Nodup:=by decide +kernel
theorem jP:(["_law_one","_law_other"]:List Str).Nodup:=by decide +kernel
def Hk(K:PySem.W.Frag)(H:Hp)(a:Addr)(xs:List V):Prop:=(∃o,H a=some (.lh o (.lst xs)))\/(∀H':Hp,bD K H' a xs)
theorem Hk.seq{K:PySem.W.Frag}{H:Hp}{a:Addr}{xs:List V}(h:Hk K H a xs):bD K H a xs:=by
 rcases h with ⟨o,h⟩|h
 .exact .inl (.inr ⟨o,h⟩)
 .exact h H
inductive Fx:HO->Prop
 |code (c:Addr) (q:Str):Fx (dz c q)
 |lh (o:Obj) (u:HO):Fx (.lh o u)
theorem Fx.nt{o:HO}(f:Fx o):tE o:=by intro ps z;cases f <;> cases z
theorem Fx.nl{o:HO}(f:Fx o){xs:List V}:o≠.lst xs:=by intro z;cases f <;> cases z
theorem _root_.L2.cw.cP{lp:Pos}{q:Str}{Pt:Addr}{H H':Hp}(t:cw lp q Pt H)(k:∀b o,H b=some o->Fx o->H' b=some o)(kt:∀ps,H Pt=some (.de ps)->H' Pt=some (.de ps)):cw lp q Pt H':=by
 rcases t with z|⟨c,z,y⟩
 .exact .inl (kt _ z)
 .exact .inr ⟨c,kt _ z,k _ _ y (.code _ _)⟩
theorem _root_.L2.gK.cP{p1 p2:Pos}{q:Str}{Pt:Addr}{H H':Hp}(t:gK p1 p2 q Pt H)(k:∀b o,H b=some o->Fx o->H' b=some o)(kt:∀ps,H Pt=some (.de ps)->H' Pt=some (.de ps)):gK p1 p2 q Pt H':=by
 rcases t with z|⟨c,y,z|⟨c2,y2,z⟩⟩
 .exact .inl (kt _ z)
 .exact .inr ⟨c,k _ _ y (.code _ _),.inl (kt _ z)⟩
 .exact .inr ⟨c,k _ _ y (.code _ _),.inr ⟨c2,k _ _ y2 (.code _ _),kt _ z⟩⟩
structure rj(K:PySem.W.Frag)(PN PM PL Pt a:Addr)(ns:List Int)(H:Hp):Prop where
 sc:Hk K H a (ns.map V.int)
 tn:cT PN H
 tm:DI PM H
 tl:cw (yH pr) DE PL H
 tt:ng Pt H
section
variable {K:PySem.W.Frag} {PN PM PL Pt a:Addr} {ns:List Int} {H H':Hp}
theorem Hk.cP{xs:List V}(h:Hk K H a xs)(k:∀b o,H b=some o->Fx o->H' b=some o):Hk K H' a xs:=by
 rcases h with ⟨o,h⟩|h
 .exact .inl ⟨o,k _ _ h (.lh _ _)⟩
 .exact .inr h
theorem rj.same(S:rj K PN PM PL Pt a ns H)(s:aF H H'):rj K PN PM PL Pt a ns H':=
 ⟨S.sc.cP fun b o e _=>s b o e,S.tn.cP (fun b o e _=>s b o e) fun ps e=>s _ _ e,S.tm.cP (fun b o e _=>s b o e) fun ps e=>s _ _ e,S.tl.cP (fun b o e _=>s b o e) fun ps e=>s _ _ e,S.tt.cP (fun b o e _=>s b o e) fun ps e=>s _ _ e⟩
theorem rj.lc{p:Addr}(S:rj K PN PM PL Pt a ns H)(s:aS p H H')(hp:bZ H p):rj K PN PM PL Pt a ns H':=by
 obtain⟨x,y,e,_⟩:=hp;have k:∀b o,H b=some o->Fx o->H' b=some o:=fun b o h f=>s b o h (by rintro rfl;rw[e] at h;cases h;exact f.nl rfl);have kt:∀ {P:Addr} ps,H P=some (.de ps)->H' P=some (.de ps):=fun {P} ps h=>s _ _ h (by rintro rfl;rw[e] at h;cases h);exact⟨S.sc.cP k,S.tn.cP k kt,S.tm.cP k kt,S.tl.cP k kt,S.tt.cP k kt⟩
theorem rj.lam(S:rj K PN PM PL Pt a ns H)(tl:cw (yH pr) DE PL H')(k1:∀b o,H b=some o->b≠PL->H' b=some o)(n:PN≠PL/\PM≠PL/\Pt≠PL):rj K PN PM PL Pt a ns H':=by
 obtain⟨n1,n2,n3⟩:=n;have k:∀b o,H b=some o->Fx o->H' b=some o:=fun b o h f=>k1 b o h (gy (cw.de S.tl) h f.nt);exact⟨S.sc.cP k,S.tn.cP k fun ps h=>k1 _ _ h n1,S.tm.cP k fun ps h=>k1 _ _ h n2,tl,S.tt.cP k fun ps h=>k1 _ _ h n3⟩
theorem rj.net{px:Addr}(S:rj K PN PM PL Pt a ns H)(tt:ng Pt H')(s:ir px Pt H H')(hx:H px=none)(n:PN≠Pt/\PM≠Pt/\PL≠Pt):rj K PN PM PL Pt a ns H':=by
 obtain⟨n1,n2,n3⟩:=n;have k:∀b o,H b=some o->Fx o->H' b=some o:=fun b o h f=>s b o h (ai h hx) (gy (cw.de S.tt) h f.nt);exact⟨S.sc.cP k,S.tn.cP k fun ps h=>s _ _ h (ai h hx) n1,S.tm.cP k fun ps h=>s _ _ h (ai h hx) n2,S.tl.cP k fun ps h=>s _ _ h (ai h hx) n3,tt⟩
theorem rj.mr(S:rj K PN PM PL Pt a ns H)(tn:cT PN H')(tm:DI PM H')(k1:∀b o,H b=some o->b≠PN->b≠PM->H' b=some o)(n:PL≠PN/\PL≠PM/\Pt≠PN/\Pt≠PM):rj K PN PM PL Pt a ns H':=by
 obtain⟨n1,n2,n3,n4⟩:=n;have k:∀b o,H b=some o->Fx o->H' b=some o:=fun b o h f=>k1 b o h (S.tn.not h f.nt) (gy (gK.de S.tm) h f.nt);exact⟨S.sc.cP k,tn,tm,S.tl.cP k fun ps h=>k1 _ _ h n1 n2,S.tt.cP k fun ps h=>k1 _ _ h n3 n4⟩
end
section
variable {P:Program} {w:World} {K:PySem.W.Frag} {mg:Str->Option Value} {base:Heap}
theorem yo{CR CE p ra f c:Addr}{ranks:List Int}{cells:List (Str×Addr)}{h0:Heap}{H:Hp}{R:VK}(hp:bZ H p)(vP:H ra=some (.tup (ranks.map V.int)))(rl:ranks.length<=16)(hf:H f=some (eN f DE (sP pr) (rf pr) (rh pr) cells c))(hc:H c=some (dz c DE))(nS:∀a,ba cells a->H a=none)(LE:ye cells h0 (eD (ba cells) h0 H))(cv:∀ (i:Nat) (x:Str) (v:V),IX[i]?=some x->[V.ref p,.ref ra][i]?=some v->sE cells h0 x v)(q:∀H' Hx,aS p H H'->bZ H' p->qv (ba cells) Hx=H'->(∀a,ba cells a->Hx a=some (jH h0 a))->R (.str "ranks") Hx):
  Bj CE (eD (ba cells) h0 H) R (gv 0 (rh pr) DE (sP pr) (rf pr) IX (NG K CR CE) f [] (eD (ba cells) h0 H)):=by
 have inj:aF H (eD (ba cells) h0 H):=fun b o e=>by rw[aN fun z=>by rw[nS b z] at e;cases e];exact e
 refine⟨cells,c,h0,[.ref p,.ref ra],fun C' _ H'=>C'=.ref CE/\aS p H H'/\bZ H' p,inj _ _ hf,inj _ _ hc,rfl,rfl,LE,fun i x v h1 h2=>cv i x v (by rw[mi] at h1;exact h1) h2,fun C' d H' e n=>?_,?_⟩
 .obtain⟨rfl,s1,p1⟩:=e;refine⟨rfl,fun sC s=>?_⟩;have s2:aF H' (qv (ba cells) sC):=kG n s;exact q _ sC (s1.trans (aS.of s2)) (p1.same s2) rfl fun a z=>s _ _ (jI z)
 .rw[nI nS];refine⟨_,rfl,_,rfl,p,ra,ranks,rfl,hp,vP,rl,fun v H2 s2 CU GY=>fun x dx nx NP Fb=>?_⟩;have sN:aF H2 (upd (upd H2 dx (.own x)) x (.ins CR dx [])):=(aj (o:=.own x) NP).trans (aj (D:=x) (o:=.ins CR dx []) (by rw[ah Fb.symm];exact nx));exact⟨_,v,rfl,GY.keep fun a o e _=>sN _ _ e,fun H' s'=>⟨rfl,s2.trans (aS.of (sN.trans s')),CU.same (sN.trans s')⟩⟩
theorem eI:aE ["_law_script","_law_k","_law_pot_here","_law_way","_law_none_here","_law_ranks_here","_law_rule","_law_houses","_law_pairs","_law_net","_law_many","_law_due","_law_homes","_law_stand","_law_good","_law_standing"] ["_law_script"] (al sR):=⟨rfl,rfl,rfl,by decide +kernel,rfl,by decide +kernel,by decide +kernel⟩
def xj(K:PySem.W.Frag)(PN PM PL Pt:Addr):Sp:=fun vs H Q _=>∃ (a:Addr) (ns:List Int),vs=[.ref a]/\ns.length<=63/\rj K PN PM PL Pt a ns H/\∀H',Q (.bl true) H'
theorem Hl{f c C CR CE CB PN PM PL Pt fI fR:Addr}{cs:Nat->Addr}{fd UJ Lm:FuncData}(F:lu K "law" "law" sR f fd c)(kb:K.In base)(hb:ln mg base)(hc:PySem.W.codeHdIn K c PL=true)(nd:(PN≠PM/\PN≠PL/\PN≠Pt)/\(PM≠PL/\PM≠Pt)/\PL≠Pt)(B:Bl mg)(T:NT K mg C)(RT:AW K mg CR)(S6:cs 5=CR)(MN:Mk K C fI)(bN:fV K UJ ["self","many","ties"] [])(GN:a9 P w K mg base be 7 fI UJ ["self","many","ties"] (vM C Pt))(MR:Mk K CR fR)(bR:fV K Lm ["self","ranks"] [])(GR:a9 P w K mg base be 2 fR Lm ["self","ranks"] (qH CR))(PT:dA P w K mg base be 1 "_law_pot" ["_law_script","_law_k"] (AQ K))(TK:dA P w K mg base be 1 "_law_take" ["_law_pot_here","_law_many"] gx)(RK:dA P w K mg base be 2 "_law_ranks" ["_law_pot_here","_law_many"] qJ)(SA:dA P w K mg base be 12 "_law_said" ["_law_deed"] (qO K C CR CE PN))(LT:dA P w K mg base be 2 "_law_letters" ["_law_pot_here","_law_many","_law_houses"] Bd)(MY:dA P w K mg base be 13 "_law_many_right" ["_law_rule","_law_net","_law_homes","_law_stand","_law_due"] (Hi C CR PN PM))(RR:dA P w K mg base be 1 "_law_rules_right" ["_law_rule"] (Hj CR)):a9 P w K mg base be 14 f fd ["_law_script"] (xj K PN PM PL Pt):=by
 refine F.ok eI (fun vs H Q E h=>?_) (fun A outer s H vs Q E hr h=>?_)
 .obtain⟨a,ns,rfl,_⟩:=h;rfl
 .obtain⟨a,ns,rfl,CG,S0,q⟩:=h;have h1:bQ 1 _:=hr.mono (by decide);have h2:bQ 2 _:=hr.mono (by decide);have h3:bQ 3 _:=hr.mono (by decide);have h8:bQ 8 _:=hr.mono (by decide);have XE:bQ 12 _:=hr.mono (by decide);have QJ:bQ 13 _:=hr.mono (by decide);refine'⟨_,(ak (hW jn rfl (cR rfl B.range (aa aw ag)) (aD (i:=1) eI.nd rfl (Or.inl rfl))
    (ak (bj (i:=2) eI.nd rfl (Or.inr rfl) (aJ PT h1 aM (aa (pv 0) (aa (pv 1) ag))))
    (ak (bj (i:=3) eI.nd rfl (Or.inl rfl) (bx j_ (aJ TK h1 aM (aa (pv 2) (aa aw ag))) aw))
    (ak (bj (i:=4) eI.nd rfl (Or.inl rfl) (aJ TK h1 aM (aa (pv 2) (aa aw ag))))
    (ak (bj (i:=5) eI.nd rfl (Or.inr rfl) (aJ RK h2 aM (aa (pv 2) (aa (aJ TK h1 aM (aa (pv 2) (aa aw ag))) ag))))
    (ak (cG (bu kW (qw SA XE rfl rfl (aa (vi (NB:=IX) (src:=[some 2,some 5]) (jF kb hb hc) (bz (by kernel_rfl))) ag)) el (bB _)) (ap (aY jt)) br)
    (ak (bj (i:=6) eI.nd rfl (Or.inl rfl) (qa MR GR h3 rfl RT.KC bR .nil aM (aa (pv 5) ag)))
    (ak (bj (i:=7) eI.nd rfl (Or.inr rfl) (bx et aw (aJ TK h1 aM (aa (pv 2) (aa aw ag)))))
    (ak (dk (i:=8) (g:=(bA 0)) (te:=(uV (aQ (bb 0) (aQ (kU (rI (fun _ j=>0<j) fun i j=>.int (i % j)) (kU (v1 fun i j=>.int (i+j)) (bb 0) (tC (.int 1))) (bb 1)) eA)))) (NB:=["_law_k","_law_houses"]) (src:=[none,some 7]) (bz (by kernel_rfl)) rfl (cR rfl B.range (aa (bx j_ (pv 7) (pv 4)) ag)) ?g1 ?t1 ?e1 eI.nd rfl rfl rfl)
    (ak (bj (i:=9) eI.nd rfl (Or.inl rfl) (qa MN GN h8 rfl T.KC bN .nil aM (aa (pv 7) (aa (bx zD (pv 8) ?c2) ag))))
    (ak (bj (i:=10) eI.nd rfl (Or.inl rfl) (au (oI rfl) (by rfl) B.max PyProof.Rows.boot_max (aa aw (aa (au (xu rfl) (by rfl) B.min PyProof.Rows.boot_min (aa aw (aa (bx et (au aP (by rfl) B.len eF (aa (pv 5) ag)) (pv 3)) ag))) ag))))
    (ak (bj (i:=11) eI.nd rfl (Or.inl rfl) (bY bv (fD (aa el (aa el ag))) (dw yn (by rfl) B.int PyProof.Rows.boot_int (aa (iy jv (pv 10) (au aP (by rfl) B.len eF (aa (pv 5) ag)) (bB _)) ag)) (fun _ _=>rfl)))
    (ak (hV (aJ LT h2 aM (aa (pv 2) (aa (pv 10) (aa (pv 7) ag)))) (fz (n:=2) rfl (a_ (aD (i:=12) eI.nd rfl (Or.inl rfl)) (a_ (aD (i:=13) eI.nd rfl (Or.inl rfl)) dX))))
    (ak (hV (aJ LT h2 aM (aa (pv 2) (aa (au aP (by rfl) B.len eF (aa (pv 5) ag)) (aa (pv 7) ag)))) (fz (n:=2) rfl (a_ (aD (i:=14) eI.nd rfl (Or.inl rfl)) (a_ (aD (i:=15) eI.nd rfl (Or.inl rfl)) dX))))
    (ak (cG (PW.pt (oF (dh (cm (aJ MY QJ aM (aa (pv 6) (aa (pv 9) (aa (pv 12) (aa (pv 13) (aa (pv 11) ag)))))))) (j6 (dh (cm (aJ MY QJ aM (aa (pv 6) (aa (pv 9) (aa (pv 14) (aa (pv 15) (aa el ag))))))))))) (ap (aY jt)) br)
    (ap (cG (PW.pt (oF (dh (cm (aJ MY QJ aM (aa (pv 6) (aa (pv 9) (aa (pv 12) (aa (pv 13) (aa (pv 11) ag)))))))) (j6 (dh (cm (aJ RR h1 aM (aa (pv 6) ag))))))) (ap (aY jt)) br)))))))))))))))))
   (ap (aY jt))),?_⟩
  case g1=>exact fun cl C s₃ H₃ fp=>(aD (i:=0) sT rfl (Or.inl rfl) (Or.inr rfl))
  case t1=>exact fun cl C s₃ H₃ fp=>cq
  case e1=>exact fun cl C s₃ H₃ fp=>(hZ (aa (pv 0) (aa (bx i6 (bx et (pv 0) aw) (pv 1)) ag)))
  case c2=>
   refine' cA (g:=(uI K 2 (fU (bA 0) (fU (bA 1) uH)))) (te:=(uV (aQ (bb 1) (aQ (bb 0) eA)))) (NB:=["_law_one","_law_other"]) (src:=[none,none]) (bz (by kernel_rfl)) rfl (cn (pv 8)) ?g ?t ?e;case g=>exact fun cl C s₃ H₃ fp=>(fz (n:=2) rfl (a_ (aD (i:=0) jP rfl (Or.inl rfl) (Or.inr rfl)) (a_ (aD (i:=1) jP rfl (Or.inl rfl) (Or.inr rfl)) dX)))
   case t=>exact fun cl C s₃ H₃ fp=>cq
   case e=>exact fun cl C s₃ H₃ fp=>(hZ (aa (pv 1) (aa (pv 0) ag)))
  refine⟨2,rfl,by decide,by decide,oH (n:=2) (lo:=0) (fun k σ H2=>(∃x1 x2 x3 x4 x5 x6 x7 x8 x9 QK QL QM QN QO QP,σ=[some (.ref a),x1,x2,x3,x4,x5,x6,x7,x8,x9,QK,QL,QM,QN,QO,QP])/\rj K PN PM PL Pt a ns H2) ⟨⟨_,_,_,_,_,_,_,_,_,_,_,_,_,_,_,rfl⟩,S0⟩ ?_ ?_⟩
  rotate_left
  .rintro σ H2 ⟨⟨x1,x2,x3,x4,x5,x6,x7,x8,x9,QK,QL,QM,QN,QO,QP,rfl⟩,_⟩;exact q H2
  clear S0;rintro k σ Hc hk ⟨⟨x1,x2,x3,x4,x5,x6,x7,x8,x9,QK,QL,QM,QN,QO,QP,rfl⟩,S1⟩;rw[gU];refine⟨_,rfl,_,rfl,a,ns,k,rfl,S1.sc.seq,by lia,fun p H3 s3 PD yI=>?_⟩;have S3:=S1.same s3;refine⟨_,rfl,p,3,rfl,by decide,by decide,yI,fun DJ H4 hw s4 B0=>⟨_,_,rfl,rfl,?_⟩⟩;have S4:=S3.lc s4 yI;refine⟨_,rfl,p,2,rfl,by decide,by decide,B0,fun z H5 hz s5 G9=>?_⟩;have S5:=S4.lc s5 B0;refine⟨_,rfl,_,rfl,p,17,rfl,by decide,by decide,G9,fun m H6 hm s6 EN=>⟨p,m,rfl,EN,by lia,fun ra ranks H7 s7 UK vP YM=>?_⟩⟩;have S7:=(S5.lc s6 G9).lc s7 EN;clear S1 S3 S4 S5 s3 s4 s5 s6 s7 yI B0 G9 EN PD;have Hm:ranks.length<=16:=by lia
  obtain⟨⟨YN,UL,UM⟩,⟨UN,UO⟩,UP⟩:=nd;refine⟨S7.tl,fun f1 c1 H8 UQ k8 NI B3=>fun I0 Xu NJ Fa=>⟨f1,rfl,.inl ⟨⟨_,c1,by rw[aN fun z=>by rw[I0 _ z] at B3;cases B3];exact B3⟩,?_⟩⟩⟩;have S8:=S7.lam UQ k8 ⟨UL,UN,UP.symm⟩;have QQ:=cw.de S7.tl;have NQ:bZ H8 p:=let ⟨x,y,e,r⟩:=UK;⟨x,y,k8 _ _ e (gy QQ e fun ps z=>by cases z),r⟩;have DK:=k8 _ _ vP (gy QQ vP fun ps z=>by cases z);clear S7 k8 UQ QQ UK vP;refine yo NQ DK Hm B3 NI I0 NJ (fun i x v e1 e2=>?_) fun H9 Hx s9 DC hx kx=>⟨kx,?_⟩
  .match i,e1,e2 with
   |0,e1,e2=>cases e1;cases e2;exact Fa 2 _ _ rfl rfl rfl
   |1,e1,e2=>cases e1;cases e2;exact Fa 5 _ _ rfl rfl rfl
  rw[hx];have S9:=S8.lc s9 NQ;have A_:=s9 _ _ DK (NQ.neT DK);clear S8 NQ DK hx kx NJ Fa I0 B3 NI s9;refine⟨rfl,_,rfl,sO (by simp) ?_⟩;refine⟨_,rfl,fun rx rd nx QR Fb=>⟨rx,rd,ra,ranks,rfl,af,?_,Hm,fun I_ Lp Lq=>⟨rfl,?_⟩⟩⟩
  .exact((aj (o:=.own rx) QR).trans (aj (D:=rx) (o:=.ins CR rd []) (by rw[ah Fb.symm];exact nx))) _ _ A_
  have Ba:aF H9 I_:=fun b o e=>Lq _ _ (((aj (o:=.own rx) QR).trans (aj (D:=rx) (o:=.ins CR rd []) (by rw[ah Fb.symm];exact nx))) _ _ e) (ai e nx);have UR:=S9.same Ba;have Bq:=DC.same Ba;have Br:=Ba _ _ A_;have QS:rx≠p:=fun z=>by obtain⟨x,y,e,_⟩:=DC;rw[z,e] at nx;cases nx
  clear S9 DC A_ Lq Ba QR Fb nx;refine⟨_,rfl,p,15,rfl,by decide,by decide,Bq,fun d UD hd yJ Lr=>⟨_,_,rfl,rfl,?_⟩⟩;have US:=UR.lc yJ Bq;have Ls:f_ CR UD rx ranks:=by
   obtain⟨rd,rb,e1,e2⟩:=Lp;exact⟨rd,rb,yJ _ _ e1 QS,yJ _ _ e2 (Bq.neT e2)⟩
  have Fc:=yJ _ _ Br (Bq.neT Br);clear UR Lp Br Bq yJ;obtain⟨n,en,Qw,NF⟩:∃n:Nat,(17:Int)+(d:Int)=(n:Int)/\17<=n/\n<=32:=⟨17+d,by lia,by lia,by lia⟩
  change bA 7 (V.int (17+(d:Int))) _ _ _;rw[en];obtain⟨e,ee⟩:∃e:Nat,(n:Int)-(z:Int)=(e:Int)/\e=n-z:=⟨n-z,by lia,rfl⟩
  refine⟨_,rfl,_,rfl,_,_,rfl,rfl,(e:Int),(by rw[<-ee.1]),by lia,by lia,fun D hD=>?_⟩;rw[jR];have XF:e<=32:=by lia
  refine AB (lo:=0) (n:=e) (fun k=>k9 (k,(k+1) % n)) (fun σ=>∃x,σ=[x,some (.int n)]) hD (by lia) ⟨_,rfl⟩ ?_ ?_
  .rintro k σ H3 R Kf hk ⟨x,rfl⟩ BY kt;have e1:(0:Int)+(k:Int)=((k:Nat):Int):=gU _;have e2:(((k:Nat):Int)+1) % (n:Int)=(((k+1) % n:Nat):Int):=by lia
   rw[e1];refine⟨_,rfl,_,rfl,_,_,rfl,rfl,_,rfl,_,_,rfl,rfl,(by show (0:Int)<(n:Int);lia),by show 2<=sizeLine;decide,fun t ht=>?_⟩;dsimp only;rw[e2];exact kt _ _ ⟨_,rfl⟩ ht
  intro zs E9 qE DL Hn ez _;have NR:=US.same qE;have Lu:=Ls.same qE;have Fd:=qE _ _ Fc;have ym:=Lr.same qE;clear US Ls Fc Lr qE;have zl:zs.length<=32:=by rw[<-cW,ez,aT,iK];exact XF
  refine⟨_,rfl,_,rfl,_,rfl,D,rfl,⟨_,bD.of DL⟩,fun D1 UT=>?_⟩;refine sJ vx (fun σ=>∃a b,σ=[a,b]) DL Hn UT (by lia) ⟨_,_,rfl⟩ ?_ ?_
  .rintro z σ H1 R Kf hz ⟨a,b,rfl⟩ _ XG kt;exact⟨z.1,_,rfl,cQ.of XG,rfl,_,_,rfl,_,_,rfl,rfl,_,rfl,_,rfl,by show 2<=sizeLine;decide,fun t ht=>kt _ _ ⟨_,_,rfl⟩ ht⟩
  intro B4 QT Bc Lv Lw QU _;have l1:B4.length<=32:=by rw[<-cW,QU,aT,cW];exact zl
  refine⟨D,D1,_,_,rfl,rfl,Bc _ _ DL,Lv,by rw[jd,jd];exact bp (show _<=100 by lia) (by decide),fun N hN=>?_⟩;have sN:=aj (o:=.lst (zr zs++zr B4)) hN;have gN:(upd QT N (.lst (zr zs++zr B4))) N=some (.lst (zr (zs++B4))):=by rw[af,ku]
  have UU:PO (upd QT N (.lst (zr zs++zr B4))) (zs++B4):=((Hn.same Bc).append Lw).same sN;have A5:=Bc.trans sN;generalize upd QT N (.lst (zr zs++zr B4))=NS at *;refine fun px dx nx NP Fb=>?_;have sM:aF NS (upd (upd NS dx (.own px)) px (.ins C dx [])):=(aj (o:=.own px) NP).trans (aj (D:=px) (o:=.ins C dx []) (by rw[ah Fb.symm];exact nx));have UV:(upd (upd NS dx (.own px)) px (.ins C dx [])) px=some (.ins C dx []):=af;have UX:=sM _ _ gN;have Lx:=UU.same sM;have NU:=A5.trans sM;generalize upd (upd NS dx (.own px)) px (.ins C dx [])=HM at *;have FI:ik n (zp (zs++B4)):=by
   rw[kC,QU,ez,ee.2];have:(List.range (n-z)).map (fun k=>k9 (k,(k+1) % n))=(Bn n z).map k9:=by unfold Bn;rw[gC];rfl
   rw[this];exact(Bp (by lia) NF hz).perm io.symm
  have Bs:E9 px=none:=A5.free nx;refine⟨px,dx,n,N,_,rfl,UV,⟨FI,UX,Lx⟩,(NR.same NU).tt,fun Ja UY UZ Ly=>⟨rfl,?_⟩⟩;have Ho:ir px Pt E9 Ja:=fun b o e n1 n2=>Ly b o (NU _ _ e) n1 n2;have U0:=NR.net UZ Ho Bs ⟨UM,UO,UP⟩;have Lz:=cw.de NR.tt;have DM:∀b o,E9 b=some o->tE o->Ja b=some o:=fun b o e nt=>Ho b o e (ai e Bs) (gy Lz e nt);have LA:=Lu.kn DM;have Bt:=DM _ _ Fd fun ps z=>by cases z
  have LB:bZ Ja p:=let ⟨x,y,e,r⟩:=ym;⟨x,y,DM _ _ e fun ps z=>(by cases z),r⟩;have U1:px≠p:=fun z=>by obtain⟨x,y,e,_⟩:=ym;rw[z,e] at Bs;cases Bs
  obtain⟨L,NL,hL⟩:∃L:Addr->Prop,b_ C Ja L px n (zp (zs++B4))/\∀b,L b->b≠p:=⟨_,UY,fun b hb z=>by
   obtain⟨x,y,e,_⟩:=ym;rw[z,NU _ _ e] at hb;cases hb⟩
  clear UY UZ Ly Ho DM Lz NR Lu Fd ym NU sM UV UX Lx gN UU sN A5 Bc nx Fb NP Bs hN Lv Lw DL Hn hD UT;generalize zp (zs++B4)=ts at *;clear QU ez zl l1 FI;refine⟨_,rfl,ra,_,rfl,.inr (cQ.of Bt),_,rfl,_,_,rfl,rfl,16,_,rfl,0,_,rfl,?_⟩;obtain⟨M,eM,XH⟩:∃M:Nat,(if (if (((ranks.map V.int).length:Nat):Int)+((DJ:Int)-1)<16 then (((ranks.map V.int).length:Nat):Int)+((DJ:Int)-1) else 16) > 0 then (if (((ranks.map V.int).length:Nat):Int)+((DJ:Int)-1)<16 then (((ranks.map V.int).length:Nat):Int)+((DJ:Int)-1) else 16) else 0)=(M:Int)/\M<=16:=by
   generalize (((ranks.map V.int).length:Nat):Int)+((DJ:Int)-1)=u;exact⟨(if (if u<16 then u else 16) > 0 then (if u<16 then u else 16) else 0).toNat,by split <;> split <;> lia,by split <;> split <;> lia⟩
  change bA 10 (V.int (if (if (((ranks.map V.int).length:Nat):Int)+((DJ:Int)-1)<16 then (((ranks.map V.int).length:Nat):Int)+((DJ:Int)-1) else 16) > 0 then (if (((ranks.map V.int).length:Nat):Int)+((DJ:Int)-1)<16 then (((ranks.map V.int).length:Nat):Int)+((DJ:Int)-1) else 16) else 0)) _ _ _;rw[eM];clear eM;refine⟨by show 2<=sizeLine;decide,fun Dl wP=>?_⟩;have sD:=aj (o:=.lst [V.str "ranks",.str "let"]) wP;have U2:=U0.same sD;have LC:=LA.same sD;have xk:=sD _ _ Bt;have Bu:=LB.same sD;have U3:=NL.same sD;have gD:(upd Ja Dl (.lst [V.str "ranks",.str "let"])) Dl=some (.lst [V.str "ranks",.str "let"]):=af;clear U0 LA Bt LB NL sD wP;generalize upd Ja Dl _=YO at *;have U4:BN [V.str "ranks",.str "let"] (if decide (V.int (M:Int)=V.int (((ranks.map V.int).length:Nat):Int))=true then 1 else 0)=some (.str (if ranks.length=M then "let" else "ranks")):=by
   rw[aT];by_cases e:ranks.length=M
   .rw[ao e,ao (by rw[e];simp)];exact aO (j:=1) rfl
   .rw[am e,am (fun z=>e (by have:=V.int.inj (uk z);lia))];exact aO (j:=0) rfl
  refine⟨_,rfl,_,rfl,ra,_,rfl,.inr (cQ.of xk),rfl,_,rfl,Dl,_,_,_,rfl,rfl,bD.of gD,U4,?_⟩;clear U4 gD;refine⟨_,rfl,_,rfl,_,rfl,p,M,n,rfl,Bu,XH,Qw,NF,fun t ha sa homes st U5 Hq yp LD Hr Hs DN XI=>⟨t,_,rfl,cQ.of LD,rfl,_,_,rfl,_,_,rfl,rfl,?_⟩⟩;have LG:=DN;have QV:homes.length=M:=by rw[DN.len,XI]
  have U6:=U2.lc Hq Bu;have LH:f_ CR U5 rx ranks:=by
   obtain⟨rd,rb,e1,e2⟩:=LC;exact⟨rd,rb,Hq _ _ e1 QS,Hq _ _ e2 (Bu.neT e2)⟩
  have Fe:=Hq _ _ xk (Bu.neT xk);have U7:b_ C U5 L px n ts:=U3.keep (fun b o l e=>Hq b o e (hL b l)) fun o e=>Hq _ _ e U1;clear U2 LC xk Bu U3 Hq LD;refine⟨_,rfl,_,rfl,ra,_,rfl,.inr (cQ.of Fe),_,rfl,p,ranks.length,n,by rw[aT];rfl,yp,Hm,Qw,NF,fun t2 iP sb qP qX NW Ff QW LI LJ LK Ht QX=>⟨t2,_,rfl,cQ.of LI,rfl,_,_,rfl,_,_,rfl,rfl,?_⟩⟩;have QY:qP.length=ranks.length:=by rw[Ht.len,QX]
  have DO:=U6.lc Ff yp;have Hu:f_ CR NW rx ranks:=by
   obtain⟨rd,rb,e1,e2⟩:=LH;exact⟨rd,rb,Ff _ _ e1 QS,Ff _ _ e2 (yp.neT e2)⟩
  have QZ:b_ C NW L px n ts:=U7.keep (fun b o l e=>Ff b o e (hL b l)) fun o e=>Ff _ _ e U1;have Fg:=Ff _ _ Hr (yp.neT Hr);have Fh:=Ff _ _ Hs (yp.neT Hs);clear U6 LH Fe yp U7 Ff LI Hr Hs QW;have A1:vR C CR PN PM NW rx px ha sa n ts homes st ranks:=⟨Hu,⟨L,QZ⟩,Fg,Fh,DN,DO.tn,gK.de DO.tm⟩
  have A2:vR C CR PN PM NW rx px iP sb n ts qP qX ranks:=⟨Hu,⟨L,QZ⟩,LJ,LK,Ht,DO.tn,gK.de DO.tm⟩
  have LM:(if ranks.length=M then "let" else "ranks":Str)=sS ranks homes:=by unfold sS;rw[QV]
  have Q0:("let":Str)=sS ranks qP:=by unfold sS;rw[ao QY.symm]
  rw[LM];clear LM Hu QZ Fg Fh LJ LK LG DN Ht hL;have NX:∀ {Ha Hb:Hp},rj K PN PM PL Pt a ns Ha->(∀b o,Ha b=some o->b≠PN->b≠PM->Hb b=some o)->∀b o,Ha b=some o->tE o->Hb b=some o:=fun S kk b o e nt=>kk b o e (S.tn.not e nt) (gy (gK.de S.tm) e nt);have Q3:PL≠PN/\PL≠PM/\Pt≠PN/\Pt≠PM:=⟨UL.symm,UN.symm,UM.symm,UO.symm⟩
  refine⟨_,rfl,_,rfl,_,rfl,_,rfl,_,rfl,rx,px,ha,sa,n,ts,homes,st,ranks,rfl,A1,DO.tm,fun YQ DP DQ NY=>⟨true,rfl,fZ ?_⟩⟩;have NZ:=DO.mr DP DQ NY Q3;have A1:=A1.kn (NX DO NY) DP (gK.de DQ);have A2:=A2.kn (NX DO NY) DP (gK.de DQ);clear DO DP DQ NY;refine⟨_,rfl,_,rfl,_,rfl,_,rfl,rx,px,iP,sb,n,ts,qP,qX,ranks,by rw[Q0];rfl,A2,NZ.tm,fun YR Hv Hw Q4=>⟨true,rfl,fZ ?_⟩⟩;have Q5:=NZ.mr Hv Hw Q4 Q3;have A1:=A1.kn (NX NZ Q4) Hv (gK.de Hw);clear NZ Hv Hw Q4 A2;refine⟨_,rfl,_,rfl,_,rfl,_,rfl,_,rfl,rx,px,ha,sa,n,ts,homes,st,ranks,rfl,A1,Q5.tm,fun YS LN LP U8=>⟨true,rfl,fZ ?_⟩⟩;have XJ:=Q5.mr LN LP U8 Q3;have A1:=A1.kn (NX Q5 U8) LN (gK.de LP);obtain⟨rd,rb,e1,e2⟩:=A1.rk;exact⟨_,rfl,rx,rd,_,rfl,e1,fun YT XM=>⟨true,rfl,fZ ⟨⟨_,_,_,_,_,_,_,_,_,_,_,_,_,_,_,rfl⟩,XJ.same XM⟩⟩⟩
end
def FD(K:PySem.W.Frag)(n:Str)(st:Stmt):Prop:=∃ (f:Addr) (oc:Value) (od an:Option Addr) (sl:Array (Option Value)) (kV dc pm cd ct:Value),PySem.W.nsIn K mainGlobals n=some (some (.ref f))/\K.lookup f=some ⟨oc,od,.func (PySem.W.fnOf n n (b9 st) (aX st) (al st) .none kV dc pm an cd ct),sl⟩/\PySem.W.codeIn K cd n=true/\PySem.W.keepIn K (.ref f)=true
def FC(K:PySem.W.Frag)(n:Str)(st:Stmt)(c:Addr):Prop:=∃ (f:Addr) (oc:Value) (od an:Option Addr) (sl:Array (Option Value)) (kV dc pm ct:Value),PySem.W.nsIn K mainGlobals n=some (some (.ref f))/\K.lookup f=some ⟨oc,od,.func (PySem.W.fnOf n n (b9 st) (aX st) (al st) .none kV dc pm an (.ref c) ct),sl⟩/\PySem.W.codeIn K (.ref c) n=true/\PySem.W.keepIn K (.ref f)=true
def MD(K:PySem.W.Frag)(C:Addr)(n q:Str)(st:Stmt):Prop:=∃ (f:Addr) (oc:Value) (od an:Option Addr) (sl:Array (Option Value)) (kV dc pm cd ct:Value),PySem.W.findIn K (.ref C) n=some (some (.ref f))/\PySem.W.isFn K (.ref f)=true/\K.lookup f=some ⟨oc,od,.func (PySem.W.fnOf n q (b9 st) (aX st) (al st) .none kV dc pm an cd ct),sl⟩/\PySem.W.codeIn K cd q=true/\PySem.W.keepIn K (.ref f)=true
def MC(K:PySem.W.Frag)(C:Addr)(n q:Str)(st:Stmt)(c:Addr):Prop:=∃ (f:Addr) (oc:Value) (od an:Option Addr) (sl:Array (Option Value)) (kV dc pm ct:Value),PySem.W.findIn K (.ref C) n=some (some (.ref f))/\PySem.W.isFn K (.ref f)=true/\K.lookup f=some ⟨oc,od,.func (PySem.W.fnOf n q (b9 st) (aX st) (al st) .none kV dc pm an (.ref c) ct),sl⟩/\PySem.W.codeIn K (.ref c) q=true/\PySem.W.keepIn K (.ref f)=true
section
variable {P:Program} {w:World} {K:PySem.W.Frag} {mg:Str->Option Value} {base h:Heap} {n q:Str} {st:Stmt} {f c C:Addr} {oc kV dc pm cd ct:Value} {od an:Option Addr} {sl:Array (Option Value)} {CX:qZ} {k:Nat} {ps:List Str} {sp:Sp}
theorem FD.mk(a:PySem.W.nsIn K mainGlobals n=some (some (.ref f)))(l:K.lookup f=some ⟨oc,od,.func (PySem.W.fnOf n n (b9 st) (aX st) (al st) .none kV dc pm an cd ct),sl⟩)(d:PySem.W.codeIn K cd n=true)(k:PySem.W.keepIn K (.ref f)=true):FD K n st:=⟨f,oc,od,an,sl,kV,dc,pm,cd,ct,a,l,d,k⟩
theorem FC.mk(a:PySem.W.nsIn K mainGlobals n=some (some (.ref f)))(l:K.lookup f=some ⟨oc,od,.func (PySem.W.fnOf n n (b9 st) (aX st) (al st) .none kV dc pm an (.ref c) ct),sl⟩)(d:PySem.W.codeIn K (.ref c) n=true)(k:PySem.W.keepIn K (.ref f)=true):FC K n st c:=⟨f,oc,od,an,sl,kV,dc,pm,ct,a,l,d,k⟩
theorem MD.mk(a:PySem.W.findIn K (.ref C) n=some (some (.ref f)))(i:PySem.W.isFn K (.ref f)=true)(l:K.lookup f=some ⟨oc,od,.func (PySem.W.fnOf n q (b9 st) (aX st) (al st) .none kV dc pm an cd ct),sl⟩)(d:PySem.W.codeIn K cd q=true)(k:PySem.W.keepIn K (.ref f)=true):MD K C n q st:=⟨f,oc,od,an,sl,kV,dc,pm,cd,ct,a,i,l,d,k⟩
theorem MC.mk(a:PySem.W.findIn K (.ref C) n=some (some (.ref f)))(i:PySem.W.isFn K (.ref f)=true)(l:K.lookup f=some ⟨oc,od,.func (PySem.W.fnOf n q (b9 st) (aX st) (al st) .none kV dc pm an (.ref c) ct),sl⟩)(d:PySem.W.codeIn K (.ref c) q=true)(k:PySem.W.keepIn K (.ref f)=true):MC K C n q st c:=⟨f,oc,od,an,sl,kV,dc,pm,ct,a,i,l,d,k⟩
def BD(n q:Str)(st:Stmt)(ps:List Str):Prop:=∀ (kV jg pm:Value) (an:Option Addr) (dg ct:Value) (us:List Value),us.length=ps.length->bindArgs (PySem.W.fnOf n q (b9 st) (aX st) (al st) .none kV jg pm an dg ct) ⟨us,[]⟩=pure (ps.zip us)
theorem FD.gO(X:K.In h)(G:h.Ns mainGlobals mg)(D:FD K n st)(b:BD n n st ps)(o:∀ {f fd},fJ K n n st f fd->a9 P w K mg base CX k f fd ps sp):dA P w K mg base CX k n ps sp:=by
 obtain⟨f,_,_,_,_,_,_,_,_,_,a,l,d,kp⟩:=D;have F:=qc (x:=n) (qual:=n) (st:=st) l d kp;exact⟨⟨f,_,bW X G a,kp,F.binds b,o F⟩⟩
theorem FC.gO(X:K.In h)(G:h.Ns mainGlobals mg)(D:FC K n st c)(b:BD n n st ps)(o:∀ {f fd},lu K n n st f fd c->a9 P w K mg base CX k f fd ps sp):dA P w K mg base CX k n ps sp:=by
 obtain⟨f,_,_,_,_,_,_,_,_,a,l,d,kp⟩:=D;have F:=qp (x:=n) (qual:=n) (st:=st) l d kp;exact⟨⟨f,_,bW X G a,kp,F.fun.binds b,o F⟩⟩
theorem MD.gO(D:MD K C n q st)(b:BD n q st ps)(o:∀ {f fd},fJ K n q st f fd->a9 P w K mg base CX k f fd ps sp):e_ P w K mg base CX k C n ps sp:=by
 obtain⟨f,_,_,_,_,_,_,_,_,_,a,i,l,d,kp⟩:=D;have F:=qc (x:=n) (qual:=q) (st:=st) l d kp;exact⟨⟨f,_,⟨a,i,kp⟩,F.binds b,o F⟩⟩
theorem MC.gO(D:MC K C n q st c)(b:BD n q st ps)(o:∀ {f fd},lu K n q st f fd c->a9 P w K mg base CX k f fd ps sp):e_ P w K mg base CX k C n ps sp:=by
 obtain⟨f,_,_,_,_,_,_,_,_,a,i,l,d,kp⟩:=D;have F:=qp (x:=n) (qual:=q) (st:=st) l d kp;exact⟨⟨f,_,⟨a,i,kp⟩,F.fun.binds b,o F⟩⟩
end
theorem pB{α:Type}{P:List α->Prop}(h:∀a0,P [a0])(l:List α)(e:l.length=1):P l:=by
 cases l with
 |nil=>cases e
 |cons a t=>cases t with
  |nil=>exact h a
  |cons b t=>cases e
theorem d9{α:Type}{P:List α->Prop}(h:∀a0 a1,P [a0,a1])(l:List α)(e:l.length=2):P l:=by
 cases l with
 |nil=>cases e
 |cons a t=>exact pB (P:=fun t=>P (a::t)) (h a) t (pY e)
theorem lf{α:Type}{P:List α->Prop}(h:∀a0 a1 a2,P [a0,a1,a2])(l:List α)(e:l.length=3):P l:=by
 cases l with
 |nil=>cases e
 |cons a t=>exact d9 (P:=fun t=>P (a::t)) (h a) t (pY e)
theorem Fi{α:Type}{P:List α->Prop}(h:∀a0 a1 a2 a3,P [a0,a1,a2,a3])(l:List α)(e:l.length=4):P l:=by
 cases l with
 |nil=>cases e
 |cons a t=>exact lf (P:=fun t=>P (a::t)) (h a) t (pY e)
theorem nK{α:Type}{P:List α->Prop}(h:∀a0 a1 a2 a3 a4,P [a0,a1,a2,a3,a4])(l:List α)(e:l.length=5):P l:=by
 cases l with
 |nil=>cases e
 |cons a t=>exact Fi (P:=fun t=>P (a::t)) (h a) t (pY e)
theorem Hz{l:PySem.W.OpenLaw}{w:World}{K:PySem.W.Frag}{h:Heap}{mg:Str->Option Value}{fa:Addr}(X:K.In h)(G:h.Ns mainGlobals mg)(XN:mg "law"=some (.ref fa)){C cO Pt cM PM cL PL cN PN gz cC bE bn cD bI aA fu bF kH iu kI qQ nM qR kJ kK nN qS kL:Addr}{lA ot lB:Tok}(aC:PySem.W.nsIn K mainGlobals "Net"=some (some (.ref C)))(HB:PySem.W.nsIn K mainGlobals "Rule"=some (some (.ref gz)))(DR:PySem.W.nsIn K mainGlobals "Elder"=some (some (.ref cC)))(yq:PySem.W.nsIn K mainGlobals "Nearest"=some (some (.ref bE)))(vS:PySem.W.nsIn K mainGlobals "Farthest"=some (some (.ref bn)))(DS:PySem.W.nsIn K mainGlobals "Turns"=some (some (.ref cD)))(sU:PySem.W.nsIn K mainGlobals "InTurn"=some (some (.ref bI)))(nQ:PySem.W.nsIn K mainGlobals "Ranked"=some (some (.ref aA)))(sV:PySem.W.nsIn K mainGlobals "BeatError"=some (some (.ref fu)))(yr:PySem.W.nsIn K mainGlobals "NoRanks"=some (some (.ref bF)))(yt:PySem.W.nsIn K mainGlobals "NoBerth"=some (some (.ref kH)))(sW:PySem.W.nsIn K mainGlobals "NoHanding"=some (some (.ref iu)))(yu:PySem.W.nsIn K mainGlobals "NoHouse"=some (some (.ref kI)))(DT:PySem.W.nsIn K mainGlobals "NoNet"=some (some (.ref qQ)))(Bv:PySem.W.nsIn K mainGlobals "NoPlan"=some (some (.ref nM)))(DU:PySem.W.nsIn K mainGlobals "NoRow"=some (some (.ref qR)))(yv:PySem.W.nsIn K mainGlobals "NoShape"=some (some (.ref kJ)))(yw:PySem.W.nsIn K mainGlobals "NoStand"=some (some (.ref kK)))(Bw:PySem.W.nsIn K mainGlobals "NoText"=some (some (.ref nN)))(DV:PySem.W.nsIn K mainGlobals "NoTie"=some (some (.ref qS)))(yx:PySem.W.nsIn K mainGlobals "TooMany"=some (some (.ref kL)))(DW:FD K "is_whole" vC)(Bx:FD K "is_whole_within" qx)(DX:FD K "is_house" vD)(LQ:FD K "is_row" Gh)(LR:FD K "are_unlike_houses" Gp)(LU:FD K "is_tie" Gn)(DY:FD K "check_ties" vJ)(LV:FD K "check_balance" Go)(HC:FC K "houses_out" sK cO)(HD:FD K "distances_from" AI)(DZ:FD K "check_reached" vK)(Q6:FD K "under_way" Qg)(Q7:FD K "first_free" Qh)(Q8:FD K "hand_in_turn" WY)(Q9:FD K "hand_eagerly" Qm)(By:FD K "hand" wY)(LW:FD K "_law_pot" GE)(HF:FD K "_law_take" AN)(D5:FD K "_law_ranks" vQ)(HG:FD K "_law_none" sQ)(LX:FD K "_law_letters" G7)(HI:FD K "_law_said" Bg)(Q_:FC K "_law_many_right" Lj cM)(Ra:FD K "_law_rules_right" QI)(LY:FC K "law" sR cL)(HJ:MD K C "__init__" "Net.__init__" wQ)(D6:MD K C "check_house" "Net.check_house" vF)(LZ:MD K C "far" "Net.far" Gk)(L3:MD K C "out" "Net.out" Gj)(HK:MD K C "good" "Net.good" AC)(pg:PySem.W.plainGet K C Str.empty=true)(Rb:PySem.W.hasDictIn K C=true)(po:PySem.W.plainOver K C=true)(sa:PySem.W.findIn K (.ref C) "__setattr__"=some (some (.builtin "object.__setattr__")))(mk:PySem.W.makesIn K C=true)(kc:PySem.W.keepIn K (.ref C)=true)(nH:PySem.W.findIn K (.ref C) "house_count"=some none)(nT:PySem.W.findIn K (.ref C) "tie_list"=some none)(nO:PySem.W.findIn K (.ref C) "out_lists"=some none)(nD:PySem.W.findIn K (.ref C) "distances"=some none)(qT:PySem.W.nsIn K mainGlobals "isinstance"=some none)(L4:PySem.W.nsIn K mainGlobals "int"=some none)(HL:PySem.W.nsIn K mainGlobals "bool"=some none)(D7:PySem.W.nsIn K mainGlobals "tuple"=some none)(HN:PySem.W.nsIn K mainGlobals "list"=some none)(L5:PySem.W.nsIn K mainGlobals "str"=some none)(L6:PySem.W.nsIn K mainGlobals "set"=some none)(L7:PySem.W.nsIn K mainGlobals "len"=some none)(D8:PySem.W.nsIn K mainGlobals "range"=some none)(Bz:PySem.W.nsIn K mainGlobals "sorted"=some none)(L8:PySem.W.nsIn K mainGlobals "any"=some none)(L9:PySem.W.nsIn K mainGlobals "max"=some none)(L_:PySem.W.nsIn K mainGlobals "min"=some none)(qU:PySem.W.nsIn K mainGlobals "ValueError"=some none)(Ma:PySem.W.nsIn K mainGlobals "all"=some none)(Mb:PySem.W.nsIn K mainGlobals "abs"=some none)(BA:PySem.W.nsIn K mainGlobals "divmod"=some none)(HP:PySem.W.nsIn K mainGlobals "dict"=some none)(Mc:PySem.W.nsIn K mainGlobals "zip"=some none)(HQ:PySem.W.nsIn K mainGlobals "repr"=some none)(sX:PySem.W.nsIn K mainGlobals "enumerate"=some none)(lC:PySem.W.nsIn K mainGlobals "FEWEST_HOUSES"=some (some (.int 2 lA)))(ow:PySem.W.nsIn K mainGlobals "MOST_HOUSES"=some (some (.int 32 ot)))(lD:PySem.W.nsIn K mainGlobals "MOST_TIES_OUT"=some (some (.int 8 lB)))(sY:jA K fu)(yy:jA K bF)(Md:PySem.W.specialIn K (.builtin "object.__class__") "__get__"=some (some (.builtin "getset_descriptor.__get__")))(Me:PySem.W.takesIn K (.builtin "object.__class__")=some true)(Rc:PySem.W.plainGet K cC Str.empty=true)(Re:PySem.W.hasDictIn K cC=true)(Rf:PySem.W.plainOver K cC=true)(Rg:PySem.W.findIn K (.ref cC) "__setattr__"=some (some (.builtin "object.__setattr__")))(Rh:PySem.W.findIn K (.ref cC) "__class__"=some (some (.builtin "object.__class__")))(Ri:PySem.W.mroIn K cC (.type "object")=some true)(Rj:PySem.W.kitOne K (.ref cC) (.ref gz)=some true)(Rk:PySem.W.makesIn K cC=true)(Rl:PySem.W.keepIn K (.ref cC)=true)(Rm:PySem.W.findIn K (.ref cC) "__init__"=some (some (.builtin "object.__init__")))(Rn:PySem.W.plainGet K bE Str.empty=true)(Ro:PySem.W.hasDictIn K bE=true)(Rp:PySem.W.plainOver K bE=true)(Rq:PySem.W.findIn K (.ref bE) "__setattr__"=some (some (.builtin "object.__setattr__")))(Rr:PySem.W.findIn K (.ref bE) "__class__"=some (some (.builtin "object.__class__")))(Rt:PySem.W.mroIn K bE (.type "object")=some true)(Ru:PySem.W.kitOne K (.ref bE) (.ref gz)=some true)(Rv:PySem.W.makesIn K bE=true)(Rx:PySem.W.keepIn K (.ref bE)=true)(Ry:PySem.W.findIn K (.ref bE) "__init__"=some (some (.builtin "object.__init__")))(Rz:PySem.W.plainGet K bn Str.empty=true)(RA:PySem.W.hasDictIn K bn=true)(RB:PySem.W.plainOver K bn=true)(RC:PySem.W.findIn K (.ref bn) "__setattr__"=some (some (.builtin "object.__setattr__")))(RD:PySem.W.findIn K (.ref bn) "__class__"=some (some (.builtin "object.__class__")))(RE:PySem.W.mroIn K bn (.type "object")=some true)(RF:PySem.W.kitOne K (.ref bn) (.ref gz)=some true)(RG:PySem.W.makesIn K bn=true)(RH:PySem.W.keepIn K (.ref bn)=true)(RI:PySem.W.findIn K (.ref bn) "__init__"=some (some (.builtin "object.__init__")))(RJ:PySem.W.plainGet K cD Str.empty=true)(RL:PySem.W.hasDictIn K cD=true)(RM:PySem.W.plainOver K cD=true)(RN:PySem.W.findIn K (.ref cD) "__setattr__"=some (some (.builtin "object.__setattr__")))(RP:PySem.W.findIn K (.ref cD) "__class__"=some (some (.builtin "object.__class__")))(RQ:PySem.W.mroIn K cD (.type "object")=some true)(RS:PySem.W.kitOne K (.ref cD) (.ref gz)=some true)(RU:PySem.W.makesIn K cD=true)(RV:PySem.W.keepIn K (.ref cD)=true)(RW:PySem.W.findIn K (.ref cD) "__init__"=some (some (.builtin "object.__init__")))(RX:PySem.W.plainGet K bI Str.empty=true)(RY:PySem.W.hasDictIn K bI=true)(RZ:PySem.W.plainOver K bI=true)(R0:PySem.W.findIn K (.ref bI) "__setattr__"=some (some (.builtin "object.__setattr__")))(R1:PySem.W.findIn K (.ref bI) "__class__"=some (some (.builtin "object.__class__")))(R3:PySem.W.mroIn K bI (.type "object")=some true)(R4:PySem.W.kitOne K (.ref bI) (.ref gz)=some true)(R5:PySem.W.makesIn K bI=true)(R6:PySem.W.keepIn K (.ref bI)=true)(R7:PySem.W.findIn K (.ref bI) "__init__"=some (some (.builtin "object.__init__")))(Mf:PySem.W.plainGet K aA Str.empty=true)(Mg:PySem.W.hasDictIn K aA=true)(Mh:PySem.W.plainOver K aA=true)(Mi:PySem.W.findIn K (.ref aA) "__setattr__"=some (some (.builtin "object.__setattr__")))(Mj:PySem.W.findIn K (.ref aA) "__class__"=some (some (.builtin "object.__class__")))(Ml:PySem.W.mroIn K aA (.type "object")=some true)(R8:PySem.W.kitOne K (.ref aA) (.ref gz)=some true)(R9:PySem.W.makesIn K aA=true)(R_:PySem.W.keepIn K (.ref aA)=true)(Mm:MC K aA "order" "Ranked.order" nz cN)(Sa:MD K aA "period" "Rule.period" GU)(Mn:MD K aA "check_letters" "Ranked.check_letters" w6)(HR:MD K aA "__init__" "Ranked.__init__" ny)(Sb:PySem.W.findIn K (.ref aA) "ranks"=some none)(Sc:((List.range 6).all fun i=>(List.range 6).all fun j=>PySem.W.kitOne K (.ref ((fun i=>[cC,bE,bn,cD,bI,aA].getD i 0) i)) (.ref ((fun i=>[cC,bE,bn,cD,bI,aA].getD i 0) j))==some (decide (j=i)))=true)(Sd:PySem.W.kitAny K (.ref bF) ([kH,iu,kI,qQ,nM,qR,kJ,kK,nN,qS].map Value.ref)=some false)(Se:PySem.W.kitOne K (.ref bF) (.ref kL)=some false)(Sf:PySem.W.kitOne K (.ref bF) (.ref bF)=some true)(Sg:PySem.W.kitOne K (.ref bF) (.type "ValueError")=some true)(Sh:PySem.W.subIn K (.ref bF) (.ref fu)=some true)(XO:PySem.W.codeHdIn K cN PN=true)(nd:(PN≠PM/\PN≠PL/\PN≠Pt)/\(PM≠PL/\PM≠Pt)/\PL≠Pt)(Si:PySem.W.kitOne K (.ref aA) (.ref bI)=some false)(HS:PySem.W.codeHdIn K cO Pt=true)(Sj:PySem.W.codeHdIn K cM PM=true)(Mo:PySem.W.codeHdIn K cL PL=true):
  ∃fd:FuncData,(∀ (s:Shared) (v:Value),BindsTo s fd ⟨[v],[]⟩ [("_law_script",v)])/\∀base:Heap,K.In base->base.Ns mainGlobals mg->ln mg base->a9 l.prog w K mg base be 14 fa fd ["_law_script"] (xj K PN PM PL Pt):=by
 obtain⟨U9,oc,od,an,sl,kV,dc,pm,ct,Mp,Mq,Mr,Ms⟩:=LY;have e:=XN.symm.trans (bW X G Mp);cases e;have Mt:=qp (x:="law") (qual:="law") (st:=sR) Mq Mr Ms;obtain⟨U_,YU,YV,YW,YX,YY,YZ,Y0,Y1,Y2,XQ,XR,XS,XT,XU⟩:=HJ;have sZ:=qc (x:="__init__") (qual:="Net.__init__") (st:=wQ) XS XT XU;have BB:=sZ.binds (ps:=["self","many","ties"]) fun _ _ _ _ _ _=>lf fun _ _ _=>rfl;have MK:Mk K C U_:=⟨mk,XQ,XR,kc⟩
 have B:Bl mg:=⟨cY X G qT,cY X G L4,cY X G HL,cY X G D7,cY X G HN,cY X G L5,cY X G L6,cY X G L7,cY X G D8,cY X G Bz,cY X G L8,cY X G L9,cY X G L_,cY X G qU,cY X G Ma⟩
 have T:NT K mg C:=⟨⟨pg,Rb,po,sa⟩,nH,nT,nO,nD,bW X G aC⟩
 have B2:Qf mg:=⟨cY X G Mb,cY X G BA,cY X G HP,cY X G Mc,cY X G HQ⟩
 have hE:mg "enumerate"=none:=cY X G sX;have BC:AW K mg aA:=⟨⟨Mf,Mg,Mh,Mi⟩,Sb,bW X G nQ⟩
 have XV:NA K mg "Ranked" bI aA false:=⟨BC.cl,bW X G nQ,Mj,Md,Me,Ml,Si⟩
 obtain⟨HU,Y3,Y4,Y5,Y6,Y7,Y8,Y9,Y_,Za,Sk,Sl,Sm,Sn,So⟩:=HR;have HV:=qc (x:="__init__") (qual:="Ranked.__init__") (st:=ny) Sm Sn So;have Mu:=HV.binds (ps:=["self","ranks"]) fun _ _ _ _ _ _=>d9 fun _ _=>rfl;have Va:Mk K aA HU:=⟨R9,Sk,Sl,R_⟩
 have Sq:Er K mg "NoRanks" bF:=⟨bW X G yr,yy⟩
 have XW:Ll K mg fu bF (fun i=>[kH,iu,kI,qQ,nM,qR,kJ,kK,nN,qS,kL].getD i 0):=⟨⟨bW X G sV,sY⟩,Sq,bW X G yt,bW X G sW,bW X G yu,bW X G DT,bW X G Bv,bW X G DU,bW X G yv,bW X G yw,bW X G Bw,bW X G DV,bW X G yx,Sd,Se,Sf,Sg,Sh⟩
 have XX:UI K mg gz (fun i=>[cC,bE,bn,cD,bI,aA].getD i 0):=⟨bW X G DR,bW X G yq,bW X G vS,bW X G DS,bW X G sU,bW X G nQ,bW X G HB,Md,Me,(fun i hi=>match i,hi with|0,_=>⟨Rc,Re,Rf,Rg⟩|1,_=>⟨Rn,Ro,Rp,Rq⟩|2,_=>⟨Rz,RA,RB,RC⟩|3,_=>⟨RJ,RL,RM,RN⟩|4,_=>⟨RX,RY,RZ,R0⟩|5,_=>⟨Mf,Mg,Mh,Mi⟩),(fun i hi=>match i,hi with|0,_=>Rh|1,_=>Rr|2,_=>RD|3,_=>RP|4,_=>R1|5,_=>Mj),(fun i hi=>match i,hi with|0,_=>Ri|1,_=>Rt|2,_=>RE|3,_=>RQ|4,_=>R3|5,_=>Ml),(fun i hi=>match i,hi with|0,_=>⟨Rk,Rm,Rl⟩|1,_=>⟨Rv,Ry,Rx⟩|2,_=>⟨RG,RI,RH⟩|3,_=>⟨RU,RW,RV⟩|4,_=>⟨R5,R7,R6⟩),fun i j hi hj=>eq_of_beq (lX.mp (lX.mp Sc i (d5.mpr hi)) j (d5.mpr hj)),(fun i hi=>match i,hi with|0,_=>Rj|1,_=>Ru|2,_=>RF|3,_=>RS|4,_=>R4|5,_=>R8)⟩
 refine⟨PySem.W.fnOf "law" "law" (b9 sR) (aX sR) (al sR) .none kV dc pm an (.ref cL) ct,fun s v=>.of_eq rfl,fun base kb nb hb=>?_⟩;have qV:dA l.prog w K mg base be 1 "is_whole" ["thing"] (gw K):=FD.gO X G DW (fun _ _ _ _ _ _=>pB fun _=>rfl) fun D9=>Aw D9 B;have s_:dA l.prog w K mg base be 2 "is_whole_within" ["thing","least","most"] (jJ K):=FD.gO X G Bx (fun _ _ _ _ _ _=>lf fun _ _ _=>rfl) fun BE=>yf BE qV;have xl:dA l.prog w K mg base be 3 "is_house" ["many","thing"] (lL K):=FD.gO X G DX (fun _ _ _ _ _ _=>d9 fun _ _=>rfl) fun D_=>Ay D_ s_;have Mv:dA l.prog w K mg base be 1 "is_row" ["thing","length"] (Az K):=FD.gO X G LQ (fun _ _ _ _ _ _=>d9 fun _ _=>rfl) fun Mw=>Gi Mw B;have Mx:dA l.prog w K mg base be 4 "are_unlike_houses" ["many","one","other"] AD:=FD.gO X G LR (fun _ _ _ _ _ _=>lf fun _ _ _=>rfl) fun My=>Gq My xl;have Mz:dA l.prog w K mg base be 5 "is_tie" ["many","thing"] AE:=FD.gO X G LU (fun _ _ _ _ _ _=>d9 fun _ _=>rfl) fun MA=>Gr MA Mv Mx;have Ea:dA l.prog w K mg base be 6 "check_ties" ["many","ties"] iC:=FD.gO X G DY (fun _ _ _ _ _ _=>d9 fun _ _=>rfl) fun Eb=>AG Eb B ⟨_,bW X G lC⟩ ⟨_,bW X G ow⟩ s_ Mz;have MB:dA l.prog w K mg base be 1 "check_balance" ["many","ties"] iC:=FD.gO X G LV (fun _ _ _ _ _ _=>d9 fun _ _=>rfl) fun ME=>Gs ME B ⟨_,bW X G lD⟩;have HW:dA l.prog w K mg base be 1 "houses_out" ["many","ties","house"] (qB Pt):=FC.gO X G HC (fun _ _ _ _ _ _=>lf fun _ _ _=>rfl) fun HX=>Dh HX B kb hb HS;have HY:dA l.prog w K mg base be 1 "distances_from" ["out_lists","start"] qC:=FD.gO X G HD (fun _ _ _ _ _ _=>d9 fun _ _=>rfl) fun HZ=>Di HZ B;have Ec:dA l.prog w K mg base be 1 "check_reached" ["distances"] qD:=FD.gO X G DZ (fun _ _ _ _ _ _=>pB fun _=>rfl) fun Ed=>AL Ed B;have H_:a9 l.prog w K mg base be 7 U_ _ ["self","many","ties"] (vM C Pt):=Dn sZ T B Ea MB HW HY Ec;have xm:e_ l.prog w K mg base be 4 C "check_house" ["self","thing"] (jL C):=MD.gO D6 (fun _ _ _ _ _ _=>d9 fun _ _=>rfl) fun yz=>yi yz T xl;have MF:e_ l.prog w K mg base be 5 C "far" ["self","one","other"] (vH C):=MD.gO LZ (fun _ _ _ _ _ _=>lf fun _ _ _=>rfl) fun Ee=>Db Ee T xm;have MH:e_ l.prog w K mg base be 5 C "out" ["self","house"] (vG C):=MD.gO L3 (fun _ _ _ _ _ _=>d9 fun _ _=>rfl) fun Ef=>Da Ef T B xm;have Ib:e_ l.prog w K mg base be 6 C "good" ["self","house","home"] (qG C):=MD.gO HK (fun _ _ _ _ _ _=>lf fun _ _ _=>rfl) fun BF=>AU BF T MF;have Sr:dA l.prog w K mg base be 1 "under_way" ["stand"] GK:=FD.gO X G Q6 (fun _ _ _ _ _ _=>pB fun _=>rfl) fun Ss=>K3 Ss hE;have Su:a9 l.prog w K mg base be 2 HU _ ["self","ranks"] (qH aA):=A0 HV B BC qV;have MI:a9 l.prog w K mg base (jh l.prog w) 2 HU _ ["self","ranks"] (nG K bF):=yk (CR:=aA) HV B Sq qV;have MJ:e_ l.prog w K mg base be 1 aA "check_letters" ["self","homes"] (vO aA):=MD.gO Mn (fun _ _ _ _ _ _=>d9 fun _ _=>rfl) fun F=>Du F B BC;have Ic:=MD.gO (P:=l.prog) (w:=w) (mg:=mg) (base:=base) (CX:=(jh l.prog w)) (ps:=["self","homes"]) Mn (fun _ _ _ _ _ _=>d9 fun _ _=>rfl) fun F=>A7 F B BC Sq;have ML:e_ l.prog w K mg base be 9 aA "order" IW (nA aA PN):=MC.gO Mm (fun _ _ _ _ _ _=>nK fun _ _ _ _ _=>rfl) fun F=>K7 F B kb hb XO BC MJ Sr;have Fj:e_ l.prog w K mg base (jh l.prog w) 2 aA "order" IW (pA aA bF):=MC.gO Mm (fun _ _ _ _ _ _=>nK fun _ _ _ _ _=>rfl) fun F=>GZ F BC Ic;have MM:e_ l.prog w K mg base be 1 aA "period" ["self","homes"] AZ:=MD.gO Sa (fun _ _ _ _ _ _=>d9 fun _ _=>rfl) fun F=>GV F;have Sv:dA l.prog w K mg base be 1 "first_free" ["others","stand","goes","letter"] GS:=FD.gO X G Q7 (fun _ _ _ _ _ _=>Fi fun _ _ _ _=>rfl) fun Sw=>K4 Sw B;have Sx:dA l.prog w K mg base be 1 "hand_in_turn" ["net","homes","stand","letters","goes"] G4:=FD.gO X G Q8 (fun _ _ _ _ _ _=>nK fun _ _ _ _ _=>rfl) fun XY=>Lb;have Sy:dA l.prog w K mg base be 7 "hand_eagerly" ["net","homes","stand","letters","goes"] (GX C):=FD.gO X G Q9 (fun _ _ _ _ _ _=>nK fun _ _ _ _ _=>rfl) fun Sz=>K_ Sz T Ib MH Sv;have Ie:dA l.prog w K mg base be 10 "hand" ["rule","net","homes","stand","beat"] (lO C aA PN):=FD.gO X G By (fun _ _ _ _ _ _=>nK fun _ _ _ _ _=>rfl) fun Ig=>Dw Ig B BC XV (bW X G sU) ML Sx Sy;have Eg:dA l.prog w K mg base (jh l.prog w) 3 "hand" ["rule","net","homes","stand","beat"] (pA aA bF):=FD.gO X G By (fun _ _ _ _ _ _=>nK fun _ _ _ _ _=>rfl) fun F=>A9 F BC Fj;have MQ:dA l.prog w K mg base be 1 "_law_pot" ["_law_script","_law_k"] (AQ K):=FD.gO X G LW (fun _ _ _ _ _ _=>d9 fun _ _=>rfl) fun MS=>GF MS B B2;have qW:dA l.prog w K mg base be 1 "_law_take" ["_law_pot_here","_law_many"] gx:=FD.gO X G HF (fun _ _ _ _ _ _=>d9 fun _ _=>rfl) fun Ih=>Do Ih B2;have Eh:dA l.prog w K mg base be 2 "_law_ranks" ["_law_pot_here","_law_many"] qJ:=FD.gO X G D5 (fun _ _ _ _ _ _=>d9 fun _ _=>rfl) fun Ei=>A6 Ei B qW;have Ii:dA l.prog w K mg base be 2 "_law_none" ["_law_pot_here","_law_ranks_here"] (qM K):=FD.gO X G HG (fun _ _ _ _ _ _=>d9 fun _ _=>rfl) fun Ij=>DB Ij B qW;have MT:dA l.prog w K mg base be 2 "_law_letters" ["_law_pot_here","_law_many","_law_houses"] Bd:=FD.gO X G LX (fun _ _ _ _ _ _=>lf fun _ _ _=>rfl) fun MU=>G8 MU B qW;have BG:dA l.prog w K mg base be 12 "_law_said" ["_law_deed"] (qO K C aA bF PN):=FD.gO X G HI (fun _ _ _ _ _ _=>pB fun _=>rfl) fun Ik=>DH Ik B XW BC Va Mu MI Ii ML Fj Ie Eg;have SB:dA l.prog w K mg base be 13 "_law_many_right" ["_law_rule","_law_net","_law_homes","_law_stand","_law_due"] (Hi C aA PN PM):=FC.gO X G Q_ (fun _ _ _ _ _ _=>nK fun _ _ _ _ _=>rfl) fun SC=>Ln SC kb hb Sj nd.1.1 B2.repr BC BG MM;have SD:dA l.prog w K mg base be 1 "_law_rules_right" ["_law_rule"] (Hj aA):=FD.gO X G Ra (fun _ _ _ _ _ _=>pB fun _=>rfl) fun SE=>Lo SE B hE XX;exact Hl (CB:=gz) (cs:=fun _=>aA) Mt kb hb Mo nd B T BC rfl MK BB H_ Va Mu Su MQ qW Eh BG MT SB SD
theorem nU(h:((List.range 2000).any fun c=>PySem.W.codeHdIn K c P)=true):∃c,PySem.W.codeHdIn K c P=true:=
 let ⟨c,_,e⟩:=List.any_eq_true.mp h;⟨c,e⟩
theorem Il(hO:wA ts H)(h:bD K H a xs):Hk K H a xs:=by
 rcases h with h|h
 .rcases h with h|⟨o,h⟩
  .rcases hO.2 a with z|⟨_,z⟩|⟨o,ys,z⟩ <;> · rw[h] at z;cases z
  .exact .inl ⟨o,h⟩
 .exact .inr fun H'=>.inr h
theorem walk{l:PySem.W.OpenLaw}{q:Program}{oT:List Str}{XP:(Str->Option Value)->Heap->Prop}{YP:World->Heap->Prop}{d:DefRec}{K:Params->PySem.W.Frag}{PA PB PC PM Pt PN PL:Addr}(hn:l.most=some 63)(JD:d.params.defaults=[])(hY:∀ (w:World) (h:Heap),YP w h->(K w.params).In h)(hT:∀ (w:World) (h:Heap),YP w h->∀P∈[PA,PB,PC,PM,Pt,PN,PL],h.get? P=some (PySem.W.tabObj #[]))(SF:∀ (w:World),((List.range 2000).any fun c=>PySem.W.codeHdIn (K w.params) c PA)=true)(SG:∀ (w:World),(K w.params).lookup PA=none)(SH:∀ (w:World),((List.range 2000).any fun c=>PySem.W.codeHdIn (K w.params) c PB)=true)(SI:∀ (w:World),(K w.params).lookup PB=none)(SJ:∀ (w:World),((List.range 2000).any fun c=>PySem.W.codeHdIn (K w.params) c PC)=true)(SK:∀ (w:World),(K w.params).lookup PC=none)(SL:∀ (w:World),((List.range 2000).any fun c=>PySem.W.codeHdIn (K w.params) c PM)=true)(SN:∀ (w:World),(K w.params).lookup PM=none)(SO:∀ (w:World),((List.range 2000).any fun c=>PySem.W.codeHdIn (K w.params) c Pt)=true)(SS:∀ (w:World),(K w.params).lookup Pt=none)(SU:∀ (w:World),((List.range 2000).any fun c=>PySem.W.codeHdIn (K w.params) c PN)=true)(SV:∀ (w:World),(K w.params).lookup PN=none)(SW:∀ (w:World),((List.range 2000).any fun c=>PySem.W.codeHdIn (K w.params) c PL)=true)(SX:∀ (w:World),(K w.params).lookup PL=none)(F:∀ (w:World) (mg:Str->Option Value) (fa:Addr) (h:Heap),(K w.params).In h->h.Ns mainGlobals mg->mg d.name=some (.ref fa)->
   ∃fd:FuncData,(∀ (s:Shared) (u:Value),BindsTo s fd ⟨[u],[]⟩ [("_law_script",u)])/\∀base:Heap,(K w.params).In base->base.Ns mainGlobals mg->ln mg base->a9 l.prog w (K w.params) mg base be 14 fa fd ["_law_script"] (xj (K w.params) PN PM PL Pt)):
  PySem.W.WalkO q oT XP YP l.row.toRowW d [] (fun f vs=>PySem.call f vs):=
 zZ (n:=63) (k:=14) (x:="_law_script") (ts:=[PA,PB,PC,PM,Pt,PN,PL]) (K:=K) (CX:=fun _=>be) (sp:=fun w=>(xj (K w.params) PN PM PL Pt)) hn (by decide) JD ⟨rfl,by decide,by decide,rfl⟩ hY hT
  (fun w P=>fun e=>(aR.mp e).elim (fun e=>by rw[e];exact nU (SF w)) (fun e=>(aR.mp e).elim (fun e=>by rw[e];exact nU (SH w)) (fun e=>(aR.mp e).elim (fun e=>by rw[e];exact nU (SJ w)) (fun e=>(aR.mp e).elim (fun e=>by rw[e];exact nU (SL w)) (fun e=>(aR.mp e).elim (fun e=>by rw[e];exact nU (SO w)) (fun e=>(aR.mp e).elim (fun e=>by rw[e];exact nU (SU w)) (fun e=>by rw[cy.mp e];exact nU (SW w)))))))) (fun w P=>fun e=>(aR.mp e).elim (fun e=>by rw[e];exact SG w) (fun e=>(aR.mp e).elim (fun e=>by rw[e];exact SI w) (fun e=>(aR.mp e).elim (fun e=>by rw[e];exact SK w) (fun e=>(aR.mp e).elim (fun e=>by rw[e];exact SN w) (fun e=>(aR.mp e).elim (fun e=>by rw[e];exact SS w) (fun e=>(aR.mp e).elim (fun e=>by rw[e];exact SV w) (fun e=>by rw[cy.mp e];exact SX w))))))) F
  (fun w H a ns hl hO hS=>⟨a,ns,rfl,hl,⟨Il hO hS,.inl (hO.1 _ (by simp)),.inl (hO.1 _ (by simp)),.inl (hO.1 _ (by simp)),.inl (hO.1 _ (by simp))⟩,fun _=>rfl⟩) fun _ _ _ _ _ z=>z
end sH
open PySem PySem.W PyProof.Rows
namespace PySem.W.Fast
def tw7663992345698756662:=trivial
def tw12381548501649992661:=trivial
def tw5875366386408237704:=trivial
def tw9729389321046914787:=trivial
def tw7444183943926147425:=trivial
def tw2095570516975572466:=trivial
def tw9994127709305441160:=trivial
def tw13715854352117393930:=trivial
def tw5967562214314572444:=trivial
def tw14116399579066561251:=trivial
def tw4157965704817262741:=trivial
def tw17781029382397403280:=trivial
def tw17458438236342922515:=trivial
def tw15086108064804712399:=trivial
def tw18053869817195082941:=trivial
def tw16285078988640428006:=trivial
def tw12422972210886274458:=trivial
def tw9579003441073973041:=trivial
def tw4710151122212254507:=trivial
def tw16958600323964761409:=trivial
def tw10147613088556915016:=trivial
def tw9003963144978296545:=trivial
def tw6532083160082068492:=trivial
def tw16887493011090299845:=trivial
def tw5494400218891477908:=trivial
def tw17760731694416597552:=trivial
def tw13406726358869682087:=trivial
def tw4355941978410295603:=trivial
def tw10161501302148151664:=trivial
def tw11546788970981857592:=trivial
def tw10962532662538500739:=trivial
def tw2848280820152549068:=trivial
def tw1470866037940460576:=trivial
def tw5847443913281993831:=trivial
def tw6866974149017538634:=trivial
def tw6259960253827796227:=trivial
def tw15643333508117968697:=trivial
def tw6452158645680487859:=trivial
def tw13897965275148611609:=trivial
def tw9187366627324470886:=trivial
def tw3030388646340021081:=trivial
def tw8459978986292990914:=trivial
def tw6293818337192833182:=trivial
def tw4541538165471493914:=trivial
def tw13088739026053367612:=trivial
def tw14858369192858547137:=trivial
def tw11580041949610899231:=trivial
def tw6187961590331259564:=trivial
def tw16992265098818104440:=trivial
def tw10879770591474293365:=trivial
def tw16413354403125347056:=trivial
def tw2913000633220433837:=trivial
def tw16472524558517448083:=trivial
def tw6923632562493463773:=trivial
def tw17528412634817274976:=trivial
def tw6505468129149758287:=trivial
def tw15178617171105423536:=trivial
def tw18125941039014640926:=trivial
def tw4069295982664054786:=trivial
def tw11618840172534914366:=trivial
def tw14371852510489181501:=trivial
def tw8732330029311308554:=trivial
def tw6936882858193351513:=trivial
def tw4434591059598634857:=trivial
def tw115245683548293310:=trivial
def tw17821250652765809769:=trivial
def tw7638129105071797798:=trivial
def tw6326483335119696710:=trivial
def tw17101580145024998207:=trivial
def tw16876283101062031825:=trivial
def tw6348260309764608952:=trivial
def tw6820700093564341738:=trivial
def tw17049511703033330876:=trivial
def tw3622413235623537194:=trivial
def tw10014473707109744846:=trivial
def tw2884778941147907056:=trivial
def tw3355257014481241673:=trivial
def tw15921608389362186661:=trivial
def tw13669036861462768166:=trivial
def tw15876376713905048990:=trivial
def tw15890727754936102444:=trivial
def tw16387538480587384890:=trivial
def tw8045637343952959008:=trivial
def tw13608880427326328614:=trivial
def tw11789882459034324279:=trivial
def tw9179848953879227743:=trivial
def tw9752500102316943729:=trivial
def tw10052959775925070983:=trivial
def tw9018521822067784344:=trivial
def tw9845669647430986306:=trivial
def tw6313513466296864266:=trivial
def tw9771342008579685422:=trivial
def tw10567436826576546686:=trivial
def tw1775815581532032876:=trivial
def tw4581126196544010739:=trivial
def tw10675322233532527766:=trivial
def tw12095386354886577854:=trivial
def tw6862625195010141254:=trivial
def tw9807270725509610160:=trivial
def tw1645885425455605406:=trivial
def tw5362115197613103206:=trivial
def tw9527725336017878231:=trivial
def tw4910334352766043779:=trivial
def tw815948783758993259:=trivial
def tw12046614207101814867:=trivial
def tw10658953455116803953:=trivial
def tw102684006897084525:=trivial
def tw8995375030354399551:=trivial
def tw17269678134647939157:=trivial
def tw9039649330282289671:=trivial
def tw1503151488538557818:=trivial
def tw1854942616828054090:=trivial
def tw3202444103994895474:=trivial
def tw8233518890950689761:=trivial
def tw10380030432352899123:=trivial
def tw10779244897519407214:=trivial
def tw9862335039291885511:=trivial
def tw2302691470496954112:=trivial
def tw13328257851323959834:=trivial
def tw14849624039150308931:=trivial
def tw14481288866561304222:=trivial
def tw12961365793561500810:=trivial
def tw782923786518130126:=trivial
def tw10182845270220235054:=trivial
def tw4432416317265959365:=trivial
def tw17266415189563878514:=trivial
def tw13339484100292699643:=trivial
def tw14474163716722505478:=trivial
def tw8908531474102631144:=trivial
def tw17799052125111311120:=trivial
def tw9311184387680909956:=trivial
def tw14607618687871229888:=trivial
def tw11767714410811563530:=trivial
def tw6260248001284335071:=trivial
def tw15101530666707816990:=trivial
def tw3981424576437396436:=trivial
def tw14003333496993782532:=trivial
def tw12165276618927540631:=trivial
def tw2031341435281156801:=trivial
def tw13776181260781561239:=trivial
def tw7233018538736465930:=trivial
def tw2736067600061801470:=trivial
def tw3266856630799709307:=trivial
def tw13728443900193881019:=trivial
def tw6904210453140821075:=trivial
def tw11907416735567308087:=trivial
def tw8293910409683797787:=trivial
def tw3175726841344651843:=trivial
def tw14188714939673322405:=trivial
def tw9426474648322532380:=trivial
def tw17026282774311023982:=trivial
def tw10946613275551764088:=trivial
def tw6581200486388794516:=trivial
def tw5611110720676186187:=trivial
def tw11684440896478082351:=trivial
def tw3997360349877304547:=trivial
def tw2748331105062694627:=trivial
def tw16346076102704050194:=trivial
def tw11885452501833634278:=trivial
def tw16045762334044406260:=trivial
def tw2287235253163306496:=trivial
def tw10203712747768293494:=trivial
def tw4486849120125548940:=trivial
def tw11361342785528124830:=trivial
def tw10102384768983910160:=trivial
def tw7550002174389094378:=trivial
def tw6188332226229399196:=trivial
def tw12867791950120407360:=trivial
def tw1981376474389741212:=trivial
def tw912806876029167157:=trivial
def tw6248545162827471683:=trivial
def tw11867721030310911411:=trivial
def tw3630291967675577543:=trivial
def tw13090231625368456595:=trivial
def tw13421801542741492144:=trivial
def tw15733450318276117365:=trivial
def tw1434495361722774975:=trivial
def tw7236195262206597826:=trivial
def tw4879063493296862131:=trivial
def tw1065324053487491888:=trivial
def tw3500671897996726326:=trivial
def tw2832024492544602589:=trivial
def tw12858341810783465169:=trivial
def tw12964458655177719641:=trivial
def tw10506447270694442441:=trivial
def tw18317858538259730902:=trivial
def tw13441099085265885021:=trivial
def tw5018766348055321585:=trivial
def tw15832917003887977541:=trivial
def tw14337309019419005312:=trivial
def tw11176403564425473176:=trivial
def tw12181962697408501709:=trivial
def tw10650339473585126046:=trivial
def tw8401049525782786607:=trivial
def tw15359401878851621070:=trivial
def tw1581342198001328703:=trivial
def tw7898436609164980311:=trivial
def tw16292302692046848375:=trivial
def tw10220692203163063420:=trivial
def tw5283411062879655726:=trivial
def tw17858632612850632535:=trivial
def tw2073443428049184784:=trivial
def tw5517999984704391181:=trivial
def tw5441746311131423337:=trivial
def tw16257956457698974456:=trivial
def tw11805432523842892078:=trivial
def tw3159085727033267169:=trivial
def tw4914772612928175490:=trivial
def tw2938533055572355427:=trivial
def tw83202915989807698:=trivial
def tw12393506472774582681:=trivial
def tw8704323325564133672:=trivial
def tw6494299265623986691:=trivial
def tw18443307541936363573:=trivial
def tw6407719442924294343:=trivial
def tw7366105046420263161:=trivial
def tw15926929818125352992:=trivial
def tw12867969874368118033:=trivial
def tw12724841433335906405:=trivial
def tw14896323084796961507:=trivial
def tw6598974042770149664:=trivial
def tw13855371979714931479:=trivial
def tw10422346087751870065:=trivial
def tw12507056217045739903:=trivial
def tw18009427183633079378:=trivial
def tw18090824655889876811:=trivial
def tw17777131744998801282:=trivial
def tw13879794194487750456:=trivial
def tw18298459739193592543:=trivial
def tw16044939853514245406:=trivial
def tw17231789264766924387:=trivial
def tw9569747588071857395:=trivial
def tw3798321149479599684:=trivial
def tw16200094359193521022:=trivial
def tw13804299289007158042:=trivial
def tw5190597975628802188:=trivial
def tw12002796798704417351:=trivial
def tw1419110442096871193:=trivial
def tw10158209954055427902:=trivial
def tw15089879019019181364:=trivial
def tw11456887773519472522:=trivial
def tw9388510433381367894:=trivial
def tw9094156965549585108:=trivial
def tw6546372915443201357:=trivial
def tw5281689024314204852:=trivial
def tw17929720902023934177:=trivial
def tw18025448214864829367:=trivial
def tw11682800826331253932:=trivial
def tw3109589212020533701:=trivial
def tw1562809346901913525:=trivial
def tw12654448253850053557:=trivial
def tw4184605473748994590:=trivial
def tw16151642273364154138:=trivial
def tw7680909240730648257:=trivial
def tw8108196589681327990:=trivial
def tw16213774183026309839:=trivial
def tw10204903022531364071:=trivial
def tw115257375403983383:=trivial
def tw586214162664894137:=trivial
def tw11365042673525844116:=trivial
def tw7050819682508060544:=trivial
def tw15482947618025471961:=trivial
def tw11717667267285121946:=trivial
def tw14080729443340495976:=trivial
def tw2414223904458031205:=trivial
def tw13283547626910344189:=trivial
def tw9170745863112245696:=trivial
def tw12836672867867091914:=trivial
def tw17784171879312271109:=trivial
def tw10024181717072361267:=trivial
def tw8878813992596741402:=trivial
def tw10510292272712395702:=trivial
def tw18445728287557544798:=trivial
def tw2469871181458031841:=trivial
def tw1520068761621957076:=trivial
def tw9957803354306141471:=trivial
def tw3271059427688985297:=trivial
def tw3014249726258906952:=trivial
def tw13113254460077831805:=trivial
def tw15046871711551299634:=trivial
def tw8861155891743696703:=trivial
def tw12653446965316831974:=trivial
def tw18394119846262679921:=trivial
def tw9124748385236793470:=trivial
def tw98309732065204943:=trivial
def tw12343837143485344662:=trivial
def tw2981355359944894926:=trivial
def tw10411638092007214499:=trivial
def tw12137071506009709281:=trivial
def tw2412445151904868292:=trivial
def tw5104999426852264846:=trivial
def tw9162418453754201634:=trivial
def tw5869389130566593982:=trivial
def tw1721506034408427849:=trivial
def tw1785568594209926541:=trivial
def tw12338819086946560422:=trivial
def tw14341088556141032575:=trivial
def tw13487507476752365910:=trivial
def tw15618202938653934733:=trivial
def tw6711358076016829371:=trivial
def tw1239095620841120012:=trivial
def tw11681944754594506599:=trivial
def tw10894373947655219074:=trivial
def tw15013160906968649545:=trivial
def tw10009998409203279599:=trivial
def tw7463791764330257340:=trivial
def tw3173671304265133311:=trivial
def tw14999284583786972533:=trivial
def tw1668051254271315674:=trivial
def tw649673015640743609:=trivial
def tw14017916062743177733:=trivial
def tw16658259744359159326:=trivial
def tw9285729348546785043:=trivial
def tw13476162758372580160:=trivial
def tw3920282084151447995:=trivial
def tw17739051787752427862:=trivial
def tw14162002892109806267:=trivial
def tw12131680002810968171:=trivial
def tw9621817655180536311:=trivial
def tw9747180035667067565:=trivial
def tw16525995024937304401:=trivial
def tw12582681333821107084:=trivial
def tw18215408646296238223:=trivial
def tw10210431703713206816:=trivial
def tw12104950831227609960:=trivial
def tw16021451433160246040:=trivial
def tw12017134471188627084:=trivial
def tw14094888212284570933:=trivial
def tw15303679015678739411:=trivial
def tw16977494299635453448:=trivial
def tw16707612775471286018:=trivial
def tw17326736907834974832:=trivial
def tw16124279628323678305:=trivial
def tw15515406234858768496:=trivial
def tw17282272376854939786:=trivial
def tw16262001935840572317:=trivial
def tw13625381276691000915:=trivial
def tw12220632198473753706:=trivial
def tw11708792042352079399:=trivial
def tw14448213859235693339:=trivial
def tw540489942531790768:=trivial
def tw16545836164485601389:=trivial
def tw17890624345633917886:=trivial
def tw11972779766757485092:=trivial
def tw2596999652242925183:=trivial
def tw12564411443036545421:=trivial
def tw5274407588992447954:=trivial
def tw3912091081995971065:=trivial
def tw7537835447189035910:=trivial
def tw10394761116517742256:=trivial
def tw16512569044601887429:=trivial
def tw15740879150564691477:=trivial
def tw10716893321646928370:=trivial
def tw7010145613253934752:=trivial
def tw5809913570528036946:=trivial
def tw8920900911792235508:=trivial
def tw16494263003007363759:=trivial
def tw9722463012450469335:=trivial
def tw8689244798539728152:=trivial
def tw2693905049675977401:=trivial
def tw1737783947614760119:=trivial
def tw14121502943296435500:=trivial
def tw856159064043037167:=trivial
def tw7454043915339300243:=trivial
def tw18422667492766967098:=trivial
def tw16211994917411218193:=trivial
def tw11566700518434072993:=trivial
def tw7841455907209351277:=trivial
def tw7943199328791041126:=trivial
def tw11123846417454221659:=trivial
def tw12014309343246220906:=trivial
def tw4888255319072222649:=trivial
def tw5607826818767738531:=trivial
def tw11633835404242890811:=trivial
def tw2766984044203432319:=trivial
def tw12377491215918093477:=trivial
def tw17961381172453544062:=trivial
def tw11143012765933009759:=trivial
def tw2599151684259211044:=trivial
def tw8548442190579754153:=trivial
def tw4169538095227416604:=trivial
def tw10367577173934980462:=trivial
def tw6557923567656073654:=trivial
def tw5507984913744093413:=trivial
def tw2290015942615050294:=trivial
def tw17887183001936759362:=trivial
def tw8212261779451278155:=trivial
def tw15788998034810309790:=trivial
def tw7434079528632249386:=trivial
def tw93566776071004661:=trivial
def tw14379883273365107116:=trivial
def tw5160185552950728135:=trivial
def tw11183030414597627257:=trivial
def tw5165436588316281991:=trivial
def tw13288690334550250415:=trivial
def tw8740411729285172515:=trivial
def tw2589722796218350747:=trivial
def tw6574052686812668766:=trivial
def tw4388851315463417384:=trivial
def tw14530870006319510091:=trivial
def tw17573332655914736397:=trivial
def tw1004798456800436070:=trivial
def tw17345980149251038799:=trivial
def tw17170238806113282381:=trivial
def tw3351982210453634271:=trivial
def tw7862943867568891499:=trivial
def tw11854428087690818152:=trivial
def tw9737522475934523:=trivial
def tw1371211922170378329:=trivial
def tw9978752053275070534:=trivial
def tw7018912968252089359:=trivial
def tw541687619683835887:=trivial
def tw17926831879820320183:=trivial
def tw11482092698688346847:=trivial
def tw6552959583736073592:=trivial
def tw5918328410595191892:=trivial
def tw14459267573177163307:=trivial
def tw12602045078332705326:=trivial
def tw6584633956034837417:=trivial
def tw1903135656118296299:=trivial
def tw2133186040798754404:=trivial
def tw10904306337530359256:=trivial
def tw1343197325146607475:=trivial
def tw9664099778243494258:=trivial
def tw4722983298185168419:=trivial
def tw15840401431439324694:=trivial
def tw12013097462794833493:=trivial
def tw5716725619649204363:=trivial
def tw7774309875629693162:=trivial
def tw12321839311478794014:=trivial
def tw14449027912558040920:=trivial
def tw14009863127477676748:=trivial
def tw13081456769631640044:=trivial
def tw18301474383302847942:=trivial
def tw9881164303472588658:=trivial
def tw2852581917525960145:=trivial
def tw1688101175917891203:=trivial
def tw9843784023974813957:=trivial
def tw683994651842298920:=trivial
def tw2112536961305020770:=trivial
def tw12434180552701552751:=trivial
def tw12692056125429584272:=trivial
def tw12288907772442593953:=trivial
def tw16451400433890136160:=trivial
def tw14992447927473028420:=trivial
def tw785319532130846007:=trivial
def tw6133848279200966972:=trivial
def tw10943559256304686384:=trivial
def tw2518895549869249776:=trivial
def tw8026767465445983821:=trivial
def tw2631306634534912162:=trivial
def tw11443738099339909359:=trivial
def tw17662160014950960031:=trivial
def tw1191152239226718302:=trivial
def tw11381801875378300531:=trivial
def tw7426230037869704746:=trivial
def tw11521035528555966011:=trivial
def tw7776282235486532655:=trivial
def tw1508989465468112740:=trivial
def tw13124185274485700106:=trivial
def tw4846825785532877022:=trivial
def tw12568942659981806557:=trivial
def tw4005099986659249420:=trivial
def tw8160466375500354780:=trivial
def tw10171260333625455065:=trivial
def tw3273731382462418261:=trivial
def tw17444398447384275365:=trivial
def tw4132671912074521801:=trivial
def tw5493892951061067727:=trivial
def tw14474771047266838644:=trivial
def tw9653958246232315243:=trivial
def tw282581527874431198:=trivial
def tw1221674157029610385:=trivial
def tw9597123658560482000:=trivial
def tw726447146163372807:=trivial
def tw7574676794738429751:=trivial
def tw12178988723183465377:=trivial
def tw5331261669080173206:=trivial
def tw11925987193112726280:=trivial
def tw3006028009320068180:=trivial
def tw5183791296796812016:=trivial
def tw17495167797683416435:=trivial
def tw1991331650676987267:=trivial
def tw523300646626527001:=trivial
def tw17822013802027517947:=trivial
def tw4720405008288820841:=trivial
def tw5802772088978705358:=trivial
def tw18023565713550857343:=trivial
def tw10277976467143275150:=trivial
def tw5653358906437004201:=trivial
def tw12199224652622232021:=trivial
def tw9234609847478952467:=trivial
def tw8176029381242737328:=trivial
def tw13754696953918001412:=trivial
def tw13657376475878998593:=trivial
def tw6373267611410232470:=trivial
def tw5695883808620734713:=trivial
def tw9179527186831435292:=trivial
def tw11114947892468950911:=trivial
def tw18389205149187613521:=trivial
def tw10327407836392426265:=trivial
def tw3741923644392559247:=trivial
def tw6240175295576584416:=trivial
def tw15204974867873627775:=trivial
def tw6028897923699262885:=trivial
def tw9275147589849961911:=trivial
def tw10848576199336139798:=trivial
def tw6349464525934176236:=trivial
def tw17977377000192549624:=trivial
def tw12090537032985843062:=trivial
def tw12944074623832945942:=trivial
def tw4471716849182971528:=trivial
def tw1690165480556952344:=trivial
def tw11817578860064619002:=trivial
def tw15827827730713251895:=trivial
def tw9972976580056854851:=trivial
def tw7924690989058992771:=trivial
def tw17206804679331934721:=trivial
def tw13370337254340556989:=trivial
def tw4319919450734108315:=trivial
def tw14916583912153520178:=trivial
def tw8117389190229635145:=trivial
def tw9009303294877119261:=trivial
def tw6957967593853351102:=trivial
def tw1239994908177488292:=trivial
def tw6895999417351693031:=trivial
def tw17552794875997726540:=trivial
def tw9405071195702414128:=trivial
def tw8199553266304236369:=trivial
def tw1109519643372278496:=trivial
def tw12054957761753807320:=trivial
def tw6834564113868914987:=trivial
def tw17186434103933300480:=trivial
def tw12835151461073024417:=trivial
def tw3242377753167441949:=trivial
def tw3047755145099106997:=trivial
def tw6768501101834603268:=trivial
def tw4534288053856904026:=trivial
def tw1665141732731302331:=trivial
def tw14753097775888189919:=trivial
def tw781179092053269555:=trivial
def tw17843687221524713714:=trivial
def tw15842188832128811119:=trivial
def tw13649023271326389893:=trivial
def tw3455857477525138712:=trivial
def tw12646829807691672791:=trivial
def tw1707439244846731575:=trivial
def tw15122583965060322716:=trivial
def tw4599965159325503998:=trivial
def tw12772757969670171621:=trivial
def tw11368262723212840694:=trivial
def tw17641532717283192773:=trivial
def tw2510806008018361333:=trivial
def tw1336241113962508044:=trivial
def tw11250813786233360000:=trivial
def tw9888688392771463152:=trivial
def tw4451390189145873451:=trivial
def tw9920738781074894538:=trivial
def tw11090343407978413529:=trivial
def tw14476941062711930171:=trivial
def tw4235239279565535080:=trivial
def tw4227119778167013832:=trivial
def tw2056997645199174555:=trivial
def tw8971907574003258495:=trivial
def tw6307909524495505312:=trivial
def tw470807904132014040:=trivial
def tw7738355495197799614:=trivial
def tw16013033155349473742:=trivial
def tw17750427251028896953:=trivial
def tw11967592049554591333:=trivial
def tw6873542522089192005:=trivial
def tw4844650020345060426:=trivial
def tw14958860098490977418:=trivial
def tw10020555270436194103:=trivial
def tw10815898544829273457:=trivial
def tw2218594564532378814:=trivial
def tw5043383537041361140:=trivial
def tw15755438051900308758:=trivial
def tw5969026171385975495:=trivial
end PySem.W.Fast
set_option maxRecDepth 100000 in
set_option maxHeartbeats 0 in
theorem PySem.Challenge.cw_neverwait_k35_ranks_holds : PySem.Challenge.rw_neverwait_k35_ranks.Holds := by
 w_on; o_law; k_head; (case hw=>w_witness2)
 k_fill
 refine sH.walk (l:=PySem.Challenge.rw_neverwait_k35_ranks) (PA:=_) (PB:=_) (PC:=_) (PM:=_) (Pt:=_) (PN:=_) (PL:=_) rfl rfl (fun w h Y=>PySem.W.km_in_of Y) (fun w h Y=>PySem.W.km_tabs_of Y) ?XZ ?X0 ?X1 ?X2 ?X3 ?X4 ?X5 ?X6 ?X7 ?X8 ?X9 ?X_ ?Qz1 ?Qz2 ?F;case F =>
  intro w mg fa h KX G JE;refine' sH.Hz (PM:=_) (Pt:=_) (PN:=_) (PL:=_) KX G JE ?_ ?_ ?_ ?_ ?_ ?_ ?_ ?_ ?_ ?_ ?_ ?_ ?_ ?_ ?_ ?_ ?_ ?_ ?_ ?_ ?_ ?_ ?_ ?_ ?_ ?_ ?_ ?_ ?_ ?_ ?_ ?_ ?_ ?_ ?_ ?_ ?_ ?_ ?_ ?_ ?_ ?_ ?_ ?_ ?_ ?_ ?_ ?_ ?_ ?_ ?_ ?_ ?_ ?_ ?_ ?_ ?_ ?_ ?_ ?_ ?_ ?_ ?_ ?_ ?_ ?_ ?_ ?_ ?_ ?_ ?_ ?_ ?_ ?_ ?_ ?_ ?_ ?_ ?_ ?_ ?_ ?_ ?_ ?_ ?_ ?_ ?_ ?_ ?_ ?_ ?_ ?_ ?_ ?_ ?_ ?_ ?_ ?_ ?_ ?_ ?_ ?_ ?_ ?_ ?_ ?_ ?_ ?_ ?_ ?_ ?_ ?_ ?_ ?_ ?_ ?_ ?_ ?_ ?_ ?_ ?_ ?_ ?_ ?_ ?_ ?_ ?_ ?_ ?_ ?_ ?_ ?_ ?_ ?_ ?_ ?_ ?_ ?_ ?_ ?_ ?_ ?_ ?_ ?_ ?_ ?_ ?_ ?_ ?_ ?_ ?_ ?_ ?_ ?_ ?_ ?_ ?_ ?_ ?_ ?_ ?_ ?_ ?_ ?_ ?_;all_goals first
   | (refine' sH.FD.mk ?a ?l ?d ?k; (case a=>k_is); (case l=>k_is); (case d=>k_is); (case k=>k_is))
   | (refine' sH.FC.mk ?a ?l ?d ?k; (case a=>k_is); (case l=>k_is); (case d=>k_is); (case k=>k_is))
   | (refine' sH.MD.mk ?a ?i ?l ?d ?k; (case a=>k_is); (case i=>k_is); (case l=>k_is); (case d=>k_is); (case k=>k_is))
   | (refine' sH.MC.mk ?a ?i ?l ?d ?k; (case a=>k_is); (case i=>k_is); (case l=>k_is); (case d=>k_is); (case k=>k_is))
   | k_is
   | kernel_rfl
   | decide
   | exact ⟨by kernel_rfl,by k_is,by k_is,by k_is,by k_is,by k_is,by k_is,by kernel_rfl⟩
   | skip
 case X0=>intro w; kernel_rfl
 case XZ=>intro w; kernel_rfl
 case X2=>intro w; kernel_rfl
 case X1=>intro w; kernel_rfl
 case X4=>intro w; kernel_rfl
 case X3=>intro w; kernel_rfl
 case X6=>intro w; kernel_rfl
 case X5=>intro w; kernel_rfl
 case X8=>intro w; kernel_rfl
 case X7=>intro w; kernel_rfl
 case X_=>intro w; kernel_rfl
 case X9=>intro w; kernel_rfl
 case Qz2=>intro w; kernel_rfl
 case Qz1=>intro w; kernel_rfl
