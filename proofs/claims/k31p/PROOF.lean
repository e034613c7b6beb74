import PyProof.Rows.All
import Wide.All
import OpenK.AllK
import Wide.FinOn
import Lean
import PyProof.EqAt
import PyProof.EqKinds
import PyProof.TupleCall
import PySem.Challenge.RW_neverwait_k31_orders
set_option Elab.async false
set_option linter.all false
set_option maxRecDepth 100000
set_option maxHeartbeats 8000000
def aA:=@PySem.wpAny_bind
def bH:=@List.getElem?_eq_getElem
def aW:=@List.length_map
def b_:=@List.getD_eq_getElem?_getD
def cB:=@PySem.Heap.get?_push_of_some
def au:=@if_neg
def bV:=@List.getElem?_map
def av:=@if_pos
def cW:=@List.mem_cons_of_mem
def aJ:=@PyProof.Rows.wpS_bind
def bn:=@Nat.lt_of_lt_of_le
def aN:=@Nat.le_refl
def aQ:=@Nat.ne_of_lt
def bp:=@List.mem_cons_self
def cJ:=@List.getElem?_eq_some_iff
def aS:=@PySem.Heap.lt_size
def bL:=@List.mem_singleton
def aF:=@PyProof.Rows.wpS_pure
def a8:=@Nat.le_trans
def bg:=@List.mem_cons
def cp:=@List.length_append
def cr:=@Bool.false_ne_true
def dj:=@List.mem_of_getElem?
def cu:=@List.size_toArray
def bN:=@Option.some.inj
def bO:=@List.mem_append
def cX:=@PySem.Heap.get?_push_size
def bh:=@List.mem_map
def cK:=@List.length_range
def bP:=@List.mem_range
def dU:=@List.mem_append_right
def e_:=@PySem.F.plainAttrs_list
def cY:=@List.map_append
def dE:=@of_decide_eq_true
def eD:=@PySem.W.mg_none_of
def bT:=@Nat.zero_le
def dS:=@List.length_cons
def gW:=@List.getElem?_append_left
def eU:=@Nat.lt_of_le_of_lt
def fX:=@List.getElem?_eq_none
def eI:=@Nat.lt_succ_of_lt
def cQ:=@List.map_map
def eE:=@List.filter_cons
def dN:=@PySem.boot_len
def fY:=@List.mem_append_left
def dF:=@Int.ofNat.inj
def fZ:=@Array.length_toList
def eF:=@PySem.PassesOwn.never
def eV:=@List.lookup_cons
def eX:=@List.getElem_mem
def iM:=@PySem.F.type_list_append
def iN:=@PySem.F.slot_list_append
def dB:=@getElem?_pos
def f8:=@Bool.false_eq_true
def gu:=@List.getElem?_range
def f9:=@List.pairwise_map
def f_:=@Int.toNat_natCast
def jC:=@Array.perm_iff_toList_perm
def fc:=@decide_eq_false
def gv:=@List.append_assoc
def fA:=@List.nodup_cons
def fE:=@List.mem_filter
def kO:=@List.getElem?_append_right
def gw:=@Bool.and_eq_true
def js:=@Array.getElem?_toList
def iq:=@of_decide_eq_false
def dW:=@PyProof.Rows.wpS_forRange
def gx:=@PySem.Heap.size_update
def ff:=@List.map_cons
def iO:=@List.filter_append
def ir:=@PySem.Heap.get?_push_ne
def jt:=@List.map_congr_left
def oo:=@PyProof.Rows.boot_isinstance
def iP:=@List.take_add_one
def iQ:=@Array.toList_push
def jD:=@PySem.mem_of_lookup
def fG:=@Nat.ne_of_gt
def gy:=@PySem.wpAny_holding
def iu:=@decide_eq_true
def iR:=@PySem.W.kia_one
def gX:=@PySem.W.mg_of
def lV:=@List.perm_append_comm
def cZ:=@Ne.symm
def p8:=@List.nodup_iff_pairwise_ne
def lW:=@List.mem_iff_getElem
def gc:=@PySem.sizeLine_eq
def oq:=@List.length_replicate
def ot:=@List.length_filter_le
def p9:=@PyProof.Rows.boot_sorted
def ju:=@List.Perm.refl
def dO:=@PyProof.Rows.wpS_mono
def kP:=@Nat.mod_eq_of_lt
def tm:=@PyProof.Rows.callWith_type1
def eJ:=@if_false
def lX:=@List.ext_getElem?
def jE:=@Array.size_map
def ow:=@Array.toList_append
def kQ:=@List.length_set
def tq:=@List.pairwise_iff_getElem
def p_:=@List.length_singleton
def gY:=@PySem.Heap.size_push
def k4:=@PySem.Heap.get?_update_other
def jF:=@PySem.F.called_set
def i7:=@Nat.lt_succ_self
def i8:=@List.nodup_range
def i9:=@List.all_eq_true
def gk:=@Nat.zero_add
def gZ:=@Nat.lt_irrefl
def fL:=@Int.le_refl
def k8:=@PySem.Heap.get?_update_self
def fh:=@beq_iff_eq
def i_:=@List.range_succ
def k9:=@beq_eq_false_iff_ne
def k_:=@List.replicate_succ
def mS:=@PyProof.Rows.boot_list
def mT:=@List.take_of_length_le
def mU:=@List.range_succ_eq_map
def mV:=@List.getElem?_set_self
def g7:=@Int.zero_add
def eS:=@PyProof.Rows.wpS_modify
def jG:=@List.take_length
def jH:=@List.length_take
def ja:=@List.nodup_nil
def qa:=@List.drop_eq_getElem_cons
def jI:=@Nat.div_add_mod
def jJ:=@List.Perm.of_eq
def jK:=@Bool.eq_iff_iff
def fN:=@PySem.wpAny_rule
def lc:=@PySem.wpAny_Call_Name_kw
def lf:=@List.nodup_append
def mW:=@List.mem_of_mem_take
def mX:=@List.getElem?_set_ne
def lh:=@List.flatMap_cons
def jL:=@PySem.codeAny_builtin
def mY:=@Int.toNat_of_nonneg
def g8:=@PySem.wpAny_field
def qb:=@PyProof.Rows.boot_tuple
def lj:=@List.length_drop
def mZ:=@PySem.Around.under_plainId
def m7:=@List.mem_filterMap
def qc:=@List.filter_eq_nil_iff
def m8:=@PySem.Heap.get?_update_ne
def m9:=@PySem.Heap.SameBut.update
def qd:=@PySem.wpAny_callSpecial?_slot
def lm:=@List.find?_cons
def jM:=@List.all_cons
def qe:=@PyProof.Rows.boot_max
def qf:=@Nat.le_of_ble_eq_true
def uv:=@Array.getD_eq_getD_getElem?
def ln:=@PySem.wpAny_passesOwn
def jN:=@Nat.le_of_lt
def m_:=@List.countP_cons
def ng:=@Array.toList_map
def nh:=@PySem.wpAny_truthy_bool
def uw:=@List.getElem?_zip_eq_some
def ux:=@Classical.byContradiction
def yE:=@PyProof.Rows.F.plain_set_update_loop
def qg:=@Nat.mul_le_mul_left
def lq:=@PySem.wpAny_seqItems
def uy:=@Option.isSome_iff_exists
def lr:=@List.cons.inj
def qh:=@PySem.Heap.get?_none_of_le
def ni:=@List.length_zip
def nj:=@List.filter_map
def nr:=@PySem.wpAny_call_entry
def qi:=@Int.emod_lt_of_pos
def qj:=@Array.forIn_toList
def uz:=@List.getElem?_replicate
def eG:=@PyProof.Rows.wpS_get
def qk:=@decide_eq_true_eq
def g9:=@Prod.ext
def lu:=@Nat.lt_trans
def lw:=@Nat.add_zero
def uA:=@List.length_pos_of_mem
def qm:=@List.flatten_cons
def uB:=@Array.toList_filterMap
def iC:=@PyProof.Rows.size_push'
def jb:=@PySem.wpAny_mono
def uC:=@Nat.eq_of_beq_eq_true
def uD:=@List.mem_iff_getElem?
def uE:=@List.Perm.append_left
def jO:=@Nat.mod_lt
def qo:=@List.getElem_map
def nw:=@List.any_cons
def qp:=@PySem.wpAny_pyIter_list
def uF:=@List.mem_of_mem_drop
def lx:=@List.map_id
def uG:=@Array.toList_reverse
def lz:=@PyProof.Rows.listUpdate_at
def ny:=@PyProof.Rows.get?_update_seq
def qr:=@Option.map_some
def qt:=@List.of_mem_zip
def qu:=@List.append_nil
def qv:=@Int.emod_nonneg
def qw:=@Bool.or_eq_true
def uH:=@PySem.builtinLookup_eq_fast
def uI:=@List.getElem_of_mem
def jP:=@PySem.call_meets
def nz:=@PySem.wpAny_standAt
def nA:=@PySem.wpAny_attempt
def uJ:=@decide_eq_true_iff
def uK:=@PySem.codeAny_call_builtin
def uL:=@List.pairwise_cons
def yF:=@Int.fmod_eq_emod_of_nonneg
def yG:=@Int.fdiv_eq_ediv_of_nonneg
def yH:=@Array.toList_setIfInBounds
def yI:=@PySem.F.plain_extend_loop
def yJ:=@Array.getElem?_eq_getElem
def iD:=@if_true
def uM:=@List.any_eq_false
def nB:=@PySem.codeAny_mono
def yK:=@List.getElem?_take_of_lt
def qx:=@Bool.not_true
def yL:=@decide_eq_false_iff_not
def yM:=@PyProof.Rows.boot_range
def uN:=@Option.getD_some
def yN:=@List.pairwise_singleton
def qy:=@Nat.sub_self
def qz:=@Nat.min_self
def qA:=@Nat.le_of_eq
def yO:=@Nat.div_div_eq_div_mul
def uO:=@PySem.wpAny_setState_of
def uP:=@PySem.wpAny_pyIter_enum
def uQ:=@PySem.wpAny_newObj_type
def uR:=@List.forIn_cons
def uS:=@List.foldl_cons
def qB:=@PySem.plainId_quiet
def yP:=@PyProof.Rows.boot_min
def yQ:=@PyProof.Rows.boot_int
def yR:=@List.take_append_drop
def qC:=@Nat.mul_pos
def qD:=@Nat.le_succ
def yS:=@List.replicate_succ'
def yT:=@List.pairwise_append
def uT:=@List.forIn_nil
def yU:=@Array.toList_extract
def yV:=@Array.getElem_toList
def jc:=@PyProof.Rows.wpS_lift
def yW:=@PySem.wpAny_pyNext_list_item
def nC:=@PySem.wpAny_call
def nE:=@PySem.wpAny_Name
def yX:=@PySem.W.plainGet_of
def Em:=@PyProof.Rows.F.entry_set_update_loop
def yY:=@List.filter_sublist
def yZ:=@List.filterMap_cons
def uU:=@PySem.wpAny_updateSeq
def uV:=@PySem.wpAny_execs_nil
def uW:=@PySem.typeLookup_type
def uX:=@Nat.add_assoc
def y_:=@PySem.wpAny_pyNext_list_end
def zc:=@PySem.W.callWith_K
def zd:=@Option.toList_some
def ze:=@List.getElem_range
def zf:=@List.getElem?_drop
def zg:=@PySem.wpAny_loadName_local
def zh:=@bne_self_eq_false
def uY:=@Nat.sub_zero
def uZ:=@Nat.beq_refl
def zi:=@List.reverse_cons
def zj:=@List.getElem?_set
def zk:=@Bool.eq_false_iff
def En:=@Array.toList_eraseIdxIfInBounds
def zm:=@PySem.wpAny_loadName_free
def zn:=@decide_eq_decide
def zo:=@PySem.W.makes_of
def zq:=@List.mem_flatMap
def zu:=@List.ext_getElem
def zw:=@Array.toList_zip
def u0:=@PySem.wpAny_newList
def u7:=@Nat.mul_one
def Eo:=@Int.mul_le_mul_of_nonneg_left
def zx:=@PySem.wpAny_pyIter_tuple
def zy:=@Nat.not_lt_zero
def zz:=@Nat.min_eq_left
def zA:=@List.count_cons
def zB:=@Array.Perm.refl
def Ep:=@PySem.F.typeOf_object_class
def zC:=@PySem.wpAny_loadPart_at
def Er:=@Nat.mul_lt_mul_of_pos_left
def zD:=@Nat.mul_le_mul
def zE:=@List.drop_zero
def Es:=@Array.getElem?_eq_some_iff
def qE:=@PyProof.Rows.seqEpoch_at
def Et:=@PySem.F.entry_extend_loop
def zF:=@PySem.wpAny_eqBool_int
def Eu:=@PyProof.noPylong_of_log2
def Ev:=@List.length_erase_of_mem
def Ew:=@List.filterMap_cons_some
namespace L2
open PySem PySem.Spec PyProof.Rows
abbrev gE:=Sum Int Str
def tw:gE->Value->Bool
 |.inl k,v=>Value.isInt k v
 |.inr x,v=>Value.isStrOf x v
def Us(w:World):gE->Int
 |.inl k=>hashInt k
 |.inr x=>hashStr w x
theorem dk:∀ {k:gE} {v:Value},tw k v=true->(∃i t,k=Sum.inl i/\v=Value.int i t)\/(∃x t,k=Sum.inr x/\v=Value.str x t)
 |.inl i,v,h=>by
  obtain⟨t,e⟩:=Value.isInt_shape (k:=i) (v:=v) h;exact .inl ⟨i,t,rfl,e⟩
 |.inr x,v,h=>by
  obtain⟨t,e⟩:=Value.isStrOf_shape (x:=x) (v:=v) h;exact .inr ⟨x,t,rfl,e⟩
theorem CO(i:Int)(t:Tok):tw (.inl i) (.int i t)=true:=by simp[tw,Value.isInt]
theorem CP(x:Str)(t:Tok):tw (.inr x) (.str x t)=true:=by simp[tw,Value.isStrOf]
theorem Lk(a b:Int):decide ((Sum.inl a:gE)=Sum.inl b)=(a==b):=by
 by_cases e:a=b
 .subst e;simp
 .have h:¬ (Sum.inl a:gE)=Sum.inl b:=fun q=>e (Sum.inl.inj q);rw[fc h];exact(k9.mpr e).symm
theorem Ll(a b:Str):decide ((Sum.inr a:gE)=Sum.inr b)=decide (a=b):=by
 by_cases e:a=b
 .subst e;simp
 .have h:¬ (Sum.inr a:gE)=Sum.inr b:=fun q=>e (Sum.inr.inj q);rw[fc h,fc e]
theorem Lm(a:Int)(b:Str):decide ((Sum.inl a:gE)=Sum.inr b)=false:=fc (fun q=>nomatch q)
theorem Ln(a:Str)(b:Int):decide ((Sum.inr a:gE)=Sum.inl b)=false:=fc (fun q=>nomatch q)
def bU(prog:Program)(w:World):PySem.KeyKind prog w gE where
 is:=tw
 hash:=Us w
 inj:=fun v a b ha hb=>by
  rcases dk ha with ⟨i,t,rfl,rfl⟩|⟨x,t,rfl,rfl⟩
  .rcases dk hb with ⟨j,u,rfl,e⟩|⟨y,u,rfl,e⟩
   .injection e with e1 _;rw[e1]
   .exact nomatch e
  .rcases dk hb with ⟨j,u,rfl,e⟩|⟨y,u,rfl,e⟩
   .exact nomatch e
   .injection e with e1 _;rw[e1]
 byValue:=fun k v h=>by
  rcases dk h with ⟨i,t,rfl,rfl⟩|⟨x,t,rfl,rfl⟩ <;> rfl
 pyHash:=fun hv h=>by
  rcases dk hv with ⟨i,t,rfl,rfl⟩|⟨x,t,rfl,rfl⟩
  .exact wpAny_pyHash_int h
  .exact wpAny_pyHash_str h
 eqBool:=fun hu hv h=>by
  rcases dk hu with ⟨i,t,rfl,rfl⟩|⟨x,t,rfl,rfl⟩
  .rcases dk hv with ⟨j,u,rfl,rfl⟩|⟨y,u,rfl,rfl⟩
   .rw[Lk] at h;exact zF h
   .rw[Lm] at h;exact SeqAt.EqAt.int_str i t y u _ _ _ _ h
  .rcases dk hv with ⟨j,u,rfl,rfl⟩|⟨y,u,rfl,rfl⟩
   .rw[Ln] at h;exact SeqAt.EqAt.str_int x t j u _ _ _ _ h
   .rw[Ll] at h;exact wpAny_eqBool_str h
 «strs»:=fun k x t v h=>by
  rcases dk h with ⟨i,u,rfl,e⟩|⟨y,u,rfl,e⟩
  .exact nomatch e
  .injection e with e1 _
   subst e1
   cases v <;> rfl
theorem wC(prog:Program)(w:World)(i:Int)(t:Tok):(bU prog w).is (.inl i) (.int i t)=true:=CO i t
theorem wD(prog:Program)(w:World)(x:Str)(t:Tok):(bU prog w).is (.inr x) (.str x t)=true:=CP x t
inductive V where
 |cS|bl (b:Bool)|int (i:Int)|str (x:Str)|D_ (b:Array UInt8)|Lo (b:UInt64)|ref (a:Addr)|ty (n:String)
 deriving DecidableEq
def bz:V->Value->Prop
 |.cS,u=>u=Value.none
 |.bl b,u=>u=Value.bool b
 |.int i,u=>∃t,u=Value.int i t
 |.str x,u=>∃t,u=Value.str x t
 |.D_ b,u=>∃t,u=Value.bytes b t
 |.Lo b,u=>∃t,u=Value.float b t
 |.ref a,u=>u=Value.ref a
 |.ty n,u=>u=Value.type n
abbrev aT:List V->List Value->Prop:=Paired bz
theorem aT.length(r:aT xs us):xs.length=us.length:=Paired.length r
theorem aT.get:∀ {xs:List V} {us:List Value} {i:Nat} {x:V},aT xs us->xs[i]?=some x->∃u,us[i]?=some u/\bz x u
 |_,_,_,_,.nil,e=>by simp at e
 |_,_,0,_,.cons r _,e=>by simp at e;subst e;exact⟨_,rfl,r⟩
 |_,_,i+1,x,.cons _ t,e=>by
  obtain⟨u,h1,h2⟩:=aT.get (i:=i) (x:=x) t (by simpa using e);exact⟨u,by simpa using h1,h2⟩
theorem aT.set(r:bz x u):∀ {xs:List V} {us:List Value} (i:Nat),aT xs us->aT (xs.set i x) (us.set i u)
 |_,_,_,.nil=>.nil
 |_,_,0,.cons _ t=>.cons r t
 |_,_,i+1,.cons q t=>.cons q (aT.set r i t)
theorem aT.append:∀ {xs ys:List V} {us ws:List Value},aT xs us->aT ys ws->aT (xs++ys) (us++ws)
 |_,_,_,_,.nil,s=>s
 |_,_,_,_,.cons r t,s=>.cons r (aT.append t s)
theorem aT.take:∀ {xs:List V} {us:List Value} (n:Nat),aT xs us->aT (xs.take n) (us.take n)
 |_,_,0,_=>.nil
 |_,_,_+1,.nil=>.nil
 |_,_,n+1,.cons r t=>.cons r (aT.take n t)
theorem aT.drop:∀ {xs:List V} {us:List Value} (n:Nat),aT xs us->aT (xs.drop n) (us.drop n)
 |_,_,0,r=>r
 |_,_,_+1,.nil=>.nil
 |_,_,n+1,.cons _ t=>aT.drop n t
def lY:Option V->Option Value->Prop
 |some v,some u=>bz v u
 |none,none=>True
 |_,_=>False
def KV{κ:Type}:List (κ×V)->List (κ×Value)->Prop:=Paired fun (p:κ×V) (q:κ×Value)=>p.1=q.1/\bz p.2 q.2
def kV:gE->V
 |.inl i=>.int i
 |.inr x=>.str x
inductive HO where
 |lst (xs:List V)
 |tup (xs:List V)
 |dK (cL:List (gE×V))|dT (cL:List (List gE×V))
 |set (S:Int->Bool) (n:Nat)
 |ins (C dx:Addr) (fs:List (Str×V))
 |own (x:Addr)
 |xd (fs:List (Str×V))
 |met (f x:Addr)
 |Bk (lo hi:Int)
 |wr (o:Obj) (u:HO)
 |ik (ps:Array Value)
 |ext (φ:Heap->Prop)
abbrev Hp:=Addr->Option HO
def upd(H:Hp)(a:Addr)(o:HO):Hp:=fun b=>if b=a then some o else H b
theorem af:upd H a o a=some o:=by unfold upd;rw[av rfl]
theorem am(h:b≠a):upd H a o b=H b:=by unfold upd;rw[au h]
theorem kr:upd (upd H a o) a u=upd H a u:=by
 funext b;unfold upd;split <;> rfl
theorem fJ{H:Hp}{a b:Addr}{o u:HO}(h:H a=some o)(h':H b=some u)(d:o≠u):a≠b:=by
 intro e;subst e;rw[h] at h';exact d (bN h')
theorem ak{H:Hp}{a b:Addr}{o:HO}(h:H a=some o)(h':H b=none):a≠b:=by
 intro e;subst e;rw[h] at h';cases h'
section
variable (P:Program) (w:World)
def nF(h:Heap)(a:Addr)(items:Array Value):Prop:=∃o,h.get? a=some o/\o.cls=.type "tuple"/\∃n,o.data=.seq items n/\o.dict=none
theorem nF.tup(p:nF h a items):IsTup h a items:=let ⟨o,e,c,n,d,_⟩:=p;⟨o,e,c,n,d⟩
theorem nF.new(h:Heap)(items:Array Value):nF (h.push { cls:=.type "tuple",data:=.seq items }) h.objs.size items:=⟨_,cX _ rfl,rfl,_,rfl,rfl⟩
def cC(H:Hp)(h:Heap)(a:Addr):HO->Prop
 |.lst xs=>xs.length<=sizeLine/\∃ (its:List Value) (n:Nat),aT xs its/\h.get? a=some { cls:=.type "list",data:=.seq its.toArray n }
 |.tup xs=>xs.length<=sizeLine/\∃its:List Value,aT xs its/\nF h a its.toArray
 |.dK cL=>cL.length<=sizeLine/\(a==sysModules)=false/\∃vs,KV cL vs/\h.DictOf (bU P w) a vs
 |.dT cL=>cL.length<=sizeLine/\(a==sysModules)=false/\∃xs:List (List gE×Addr×Value),
   Paired (fun (p:List gE×V) (q:List gE×Addr×Value)=>p.1=q.1/\H q.2.1=some (.tup (p.1.map kV))/\bz p.2 q.2.2) cL xs/\
   ∃o es ep,h.get? a=some o/\o.ExactDict/\o.data=.dict es ep/\es.toList=xs.map (entryOfKey (tupleKind (bU P w)))/\(xs.map (·.1)).Nodup
 |.set S n=>h.SetOf (intKind P w) a S n
 |.ins C dx fs=>H dx=some (.own a)/\fs.length<=1000/\dx≠a/\h.get? a=some (PySem.W.instObj C dx)/\
   ∃mA,h.Ns1 dx mA/\(∀f,lY (fs.lookup f) (mA f))/\PySem.Within mA (fs.map (·.1))
 |.own _=>∃o,h.get? a=some o
 |.xd fs=>∃mA,h.Ns1 a mA/\∀f,lY (fs.lookup f) (mA f)
 |.Bk lo hi=>∃t u v,h.get? a=some { cls:=.type "range",data:=.fields #[.int lo t,.int hi u,.int 1 v] }
 |.wr o u=>h.get? a=some o/\cC H h a u
 |.ik ps=>h.get? a=some { cls:=.none,data:=.fields ps }
 |.met f x=>h.get? a=some (PySem.W.methodObj (.ref f) (.ref x))
 |.ext φ=>φ h/\(∃o,h.get? a=some o)/\∀h1 h2:Heap,φ h1->(∀o,h1.get? a=some o->h2.get? a=some o)->φ h2
def lA(H:Hp)(h:Heap):Prop:=∀a o,H a=some o->cC P w H h a o
end
section
variable {P:Program} {w:World} {H H':Hp} {h h':Heap} {a:Addr} {o:HO}
theorem cC.lt(x:cC P w H h a o):a<h.objs.size:=by
 cases o with
 |lst xs=>obtain⟨_,_,_,_,e⟩:=x;exact aS e
 |tup xs=>obtain⟨_,_,_,p⟩:=x;exact p.tup.lt
 |dK cL=>obtain⟨_,_,_,_,o,_,_,e,_⟩:=x;exact aS e
 |dT cL=>obtain⟨_,_,_,_,o,_,_,e,_⟩:=x;exact aS e
 |set S n=>obtain⟨o,_,_,_,e,_⟩:=x;exact aS e
 |ins C dx fs=>obtain⟨_,_,_,e,_⟩:=x;exact aS e
 |own y=>obtain⟨_,e⟩:=x;exact aS e
 |xd fs=>obtain⟨_,⟨_,_,_,e,_⟩,_⟩:=x;exact aS e
 |Bk lo hi=>obtain⟨_,_,_,e⟩:=x;exact aS e
 |wr ob u=>obtain⟨e,_⟩:=x;exact aS e
 |ik ps=>exact aS (show h.get? a=some _ from x)
 |met f y=>exact aS (show h.get? a=some _ from x)
 |ext φ=>obtain⟨_,⟨_,e⟩,_⟩:=x;exact aS e
theorem Paired.Lp:∀ {l₁:List α} {l₂:List β},Paired F l₁ l₂->(∀a b,F a b->G a b)->Paired G l₁ l₂
 |_,_,.nil,_=>.nil
 |_,_,.cons r t,f=>.cons (f _ _ r) (Paired.Lp t f)
theorem cC.jd(x:cC P w H h a o)(k:∀b u,(b=a\/H b=some (.own a))->h.get? b=some u->h'.get? b=some u)(ho:∀b,H b=some (.own a)->H' b=some (.own a))(ht:∀b xs,H b=some (.tup xs)->H' b=some (.tup xs)):cC P w H' h' a o:=by
 induction o with
 |lst xs=>obtain⟨z,its,n,r,e⟩:=x;exact⟨z,its,n,r,k _ _ (.inl rfl) e⟩
 |tup xs=>obtain⟨z,its,r,ob,e,c⟩:=x;exact⟨z,its,r,ob,k _ _ (.inl rfl) e,c⟩
 |dK cL=>obtain⟨z,y,vs,r,ob,es,ep,e,c⟩:=x;exact⟨z,y,vs,r,ob,es,ep,k _ _ (.inl rfl) e,c⟩
 |dT cL=>
  obtain⟨z,y,xs,r,ob,es,ep,e,c⟩:=x;exact⟨z,y,xs,Paired.Lp r fun p q z=>⟨z.1,ht _ _ z.2.1,z.2.2⟩,ob,es,ep,k _ _ (.inl rfl) e,c⟩
 |set S n=>obtain⟨ob,es,ep,t,e,c⟩:=x;exact⟨ob,es,ep,t,k _ _ (.inl rfl) e,c⟩
 |ins C dx fs=>
  obtain⟨d,z,ne,e,mA,⟨od,es,ep,e2,c⟩,r⟩:=x;exact⟨ho _ d,z,ne,k _ _ (.inl rfl) e,mA,⟨od,es,ep,k _ _ (.inr d) e2,c⟩,r⟩
 |own y=>obtain⟨ob,e⟩:=x;exact⟨ob,k _ _ (.inl rfl) e⟩
 |xd fs=>obtain⟨mA,⟨od,es,ep,e,c⟩,r⟩:=x;exact⟨mA,⟨od,es,ep,k _ _ (.inl rfl) e,c⟩,r⟩
 |Bk lo hi=>obtain⟨t,u,v,e⟩:=x;exact⟨t,u,v,k _ _ (.inl rfl) e⟩
 |wr ob u ih=>obtain⟨e,q⟩:=x;exact⟨k _ _ (.inl rfl) e,ih q⟩
 |ik ps=>
  have e:h.get? a=some { cls:=.none,data:=.fields ps }:=x;show h'.get? a=some { cls:=.none,data:=.fields ps };exact k a _ (.inl rfl) e
 |met f y=>
  have e:h.get? a=some (PySem.W.methodObj (.ref f) (.ref y)):=x;show h'.get? a=some (PySem.W.methodObj (.ref f) (.ref y));exact k a _ (.inl rfl) e
 |ext φ=>obtain⟨p,⟨o,e⟩,st⟩:=x;exact⟨st _ _ p fun o q=>k _ _ (.inl rfl) q,⟨o,k _ _ (.inl rfl) e⟩,st⟩
theorem lA.lt(x:lA P w H h)(e:H a=some o):a<h.objs.size:=(x a o e).lt
theorem lA.fresh(x:lA P w H h)(e:h.objs.size<=a):H a=none:=by
 cases q:H a with
 |none=>rfl
 |some u=>exact absurd (bn (x.lt q) e) (gZ _)
theorem lA.kept(x:lA P w H h)(k:∀b u,h.get? b=some u->h'.get? b=some u):lA P w H h':=fun a o e=>
 (x a o e).jd (fun b u _ q=>k b u q) (fun _ q=>q) fun _ _ q=>q
theorem lA.laid(x:lA P w H h)(k:∀b u,h.get? b=some u->h'.get? b=some u)(hp:h.objs.size<=a)(new:cC P w (upd H a o) h' a o):lA P w (upd H a o) h':=fun b u e=>by
 have hn:=x.fresh hp;by_cases hb:b=a
 .subst hb;rw[af] at e;cases e;exact new
 .rw[am hb] at e;exact(x b u e).jd (fun c v _ q=>k c v q) (fun c q=>by rw[am (ak q hn)];exact q) fun c xs q=>by rw[am (ak q hn)];exact q
end
def Rd(H:Hp)(a:Addr)(u:HO):Prop:=H a=some u\/∃o,H a=some (.wr o u)
theorem Rd.ok(r:Rd H a u)(x:lA P w H h):cC P w H h a u:=by
 rcases r with r|⟨o,r⟩
 .exact x a u r
 .obtain⟨_,q⟩:=x a _ r;exact q
def Tc:Option HO->Prop
 |some (.lst _)=>True
 |some (.dK _)=>True
 |some (.dT _)=>True
 |some (.set _ _)=>True
 |some (.ins _ _ _)=>True
 |some (.ext _)=>True
 |_=>False
section
variable {P:Program} {w:World} {H:Hp} {h h':Heap} {x e:Addr} {o':HO}
theorem lA.write(ok:lA P w H h)(mu:Tc (H x))(he:e=x\/H e=some (.own x))(k:∀b u,b≠e->h.get? b=some u->h'.get? b=some u)(Oo:∃u,h'.get? e=some u)(new:cC P w (upd H x o') h' x o'):lA P w (upd H x o') h':=fun b u q=>by
 have OV:∀c y,H c=some (.own y)->c≠x:=fun c y r z=>by subst z;rw[r] at mu;exact mu
 have Ut:∀c xs,H c=some (.tup xs)->c≠x:=fun c xs r z=>by subst z;rw[r] at mu;exact mu
 by_cases hb:b=x
 .subst hb;rw[af] at q;cases q;exact new
 .rw[am hb] at q;by_cases Hn:b=e
  .have q':H b=some (.own x):=by
    rcases he with z|z
    .exact absurd (Hn.trans z) hb
    .rw[Hn];exact z
   rw[q] at q';cases q';obtain⟨v,hv⟩:=Oo;exact⟨v,by rw[Hn];exact hv⟩
  .refine(ok b u q).jd (fun c v hc r=>k c v ?_ r) (fun c r=>by rw[am (OV c b r)];exact r) fun c xs r=>by rw[am (Ut c xs r)];exact r
   rcases hc with rfl|hc
   .exact Hn
   .rintro rfl;rcases he with z|z
    .exact OV c b hc z
    .rw[hc] at z;cases z;exact hb rfl
end
structure Un(fs ex:List Addr)(H H':Hp)(h h':Heap):Prop where
 keep:∀b o,h.get? b=some o->H b=none->b∉fs->b∉ex->h'.get? b=some o
 slot:∀b o,h.get? b=some o->H b=none->b∈fs->b∉ex->∃sl,h'.get? b=some { o with slots:=sl }
 free:∀b o,h.get? b=some o->H b=none->b∉ex->H' b=none
 there:∀b o,h.get? b=some o->b∉ex->∃o',h'.get? b=some o'
 qF:∀b xs,H b=some (.tup xs)->H' b=some (.tup xs)
 u8:∀b o u,H b=some (.wr o u)->H' b=some (.wr o u)
 u9:∀b ps,H b=some (.ik ps)->∃more,H' b=some (.ik (ps++more))
section
variable {fs fs' ex ex':List Addr} {H H1 H2:Hp} {h h1 h2 h':Heap} {a x e:Addr} {o:HO}
theorem Un.any(u:Un fs ex H H1 h h1)(q:h.get? b=some ob)(n:H b=none)(hx:b∉ex):∃sl,h1.get? b=some { ob with slots:=sl }:=by
 by_cases hb:b∈fs
 .exact u.slot b ob q n hb hx
 .exact⟨ob.slots,u.keep b ob q n hb hx⟩
theorem Un.kept(k:∀b u,h.get? b=some u->h'.get? b=some u):Un fs ex H H h h':=
 ⟨fun b ob q _ _ _=>k b ob q,fun b ob q _ _ _=>⟨ob.slots,k b ob q⟩,fun _ _ _ n _=>n,fun b ob q _=>⟨ob,k b ob q⟩,fun _ _ q=>q,fun _ _ _ q=>q,fun _ ps q=>⟨#[],by rw[q];simp⟩⟩
theorem Un.refl:Un fs ex H H h h:=Un.kept fun _ _ q=>q
theorem Un.laid(k:∀b u,h.get? b=some u->h'.get? b=some u)(hp:h.objs.size<=a)(hn:H a=none):Un fs ex H (upd H a o) h h' where
 keep:=fun b u q _ _ _=>k b u q
 slot:=fun b u q _ _ _=>⟨u.slots,k b u q⟩
 free:=fun b u q n _=>by rw[am (aQ (bn (aS q) hp))];exact n
 there:=fun b u q _=>⟨u,k b u q⟩
 qF:=fun b xs q=>by rw[am (ak q hn)];exact q
 u8:=fun b u xs q=>by rw[am (ak q hn)];exact q
 u9:=fun b ps q=>⟨#[],by rw[am (ak q hn),q];simp⟩
theorem Un.write(mu:Tc (H x))(he:e=x\/H e=some (.own x))(k:∀b u,b≠e->h.get? b=some u->h'.get? b=some u)(Oo:∃u,h'.get? e=some u):Un fs ex H (upd H x o) h h':=by
 have hx:∀b,H b=none->b≠x:=fun b n z=>by subst z;rw[n] at mu;exact mu
 have hb:∀b,H b=none->b≠e:=fun b n z=>by
  subst z;rcases he with r|r
  .exact hx b n r
  .rw[n] at r;cases r
 have hm:∀b u,H b=some u->¬ Tc (some u)->b≠x:=fun b u q nm z=>by subst z;rw[q] at mu;exact nm mu
 refine⟨fun b u q n _ _=>k b u (hb b n) q,fun b u q n _ _=>⟨u.slots,k b u (hb b n) q⟩,fun b u q n _=>by rw[am (hx b n)];exact n,fun b u q _=>?_,
  fun b xs q=>by rw[am (hm b _ q fun z=>z)];exact q,fun b u xs q=>by rw[am (hm b _ q fun z=>z)];exact q,fun b ps q=>⟨#[],by rw[am (hm b _ q fun z=>z),q];simp⟩⟩
 by_cases Hn:b=e
 .subst Hn;exact Oo
 .exact⟨u,k b u Hn q⟩
end
def Td(h:Heap)(H:Hp):List Addr:=(List.range h.objs.size).filter fun a=>(H a).isSome
def sg(h:Heap)(H:Hp):Heap:=PySem.W.hideAll h (Td h H)
theorem CQ(h:Heap)(H:Hp):(sg h H).objs.size=h.objs.size:=PySem.W.hideAll_size _ _
theorem Ex(e:h.get? b=some o)(n:H b=none):(sg h H).get? b=some o:=
 PySem.W.hideAll_get _ e fun hm=>by
  have q:(H b).isSome=true:=(fE.mp hm).2;rw[n] at q;simp at q
theorem HE(e:(sg h H).get? b=some o):h.get? b=some o/\H b=none:=by
 have e':h.get? b=some o:=PySem.W.of_hideAll (Td h H) e;refine⟨e',?_⟩;cases q:H b with
 |none=>rfl
 |some x=>
  have hm:b∈Td h H:=fE.mpr ⟨bP.mpr (aS e'),by simp[q]⟩;have z:(sg h H).get? b=none:=PySem.W.hideAll_none (Td h H) hm;rw[z] at e;cases e
def je(g h:Heap)(L:Addr):List (Addr×Obj):=(List.range h.objs.size).filterMap fun a=>if a=L\/(g.get? a).isSome=true then none else (h.get? a).map fun o=>(a,o)
theorem jQ(h1:a≠L)(h2:g.get? a=none)(h3:h.get? a=some o):(a,o)∈je g h L:=
 m7.mpr ⟨a,bP.mpr (aS h3),by simp[h1,h2,h3]⟩
theorem qG(hp:p∈je g h L):p.1≠L/\g.get? p.1=none/\h.get? p.1=some p.2:=by
 obtain⟨b,_,e⟩:=m7.mp hp;split at e
 .cases e
 .rename_i hn;cases q:h.get? b with
  |none=>rw[q] at e;simp at e
  |some u=>
   rw[q] at e;simp only[qr,Option.some.injEq] at e;subst e;refine⟨fun z=>hn (.inl z),?_,q⟩;show g.get? b=none;cases r:g.get? b with
   |none=>rfl
   |some v=>exact(hn (.inr (by simp[r]))).elim
theorem Ey:News g L h (je g h L):=fun p hp=>let ⟨a,b,c⟩:=qG hp;⟨c,a,b⟩
structure Mod(K:PySem.W.Frag)(mg:Str->Option Value)(base:Heap):Prop where
 OX:K.In base
 glob:base.Ns mainGlobals mg
 blt:∃mb,base.Ns builtinsNs mb/\∀x:Str,x≠"__name__"->mb x=bootBuiltins x
 nolimit:base.NoLimit
structure Cx where
 prog:Program
 w:World
 K:PySem.W.Frag
 mg:Str->Option Value
 base:Heap
 A:Around
 N:List Str
 s₀:Shared
 H₀:Hp
 env:Env
 outer:List Env
 stack:List Env
 ex:List Addr
 fn:Str->Bool
 calm:Bool
 pn:List (Addr×Obj)
 xe:Value->Shared->Prop
def Ea(l:List Env):List Addr:=l.filterMap (·.frame)
abbrev Cx.fs(X:Cx):List Addr:=Ea X.outer
def Op(sc:Scope)(x:Str):Prop:=sc.names.lookup x=some .local\/sc.names.lookup x=some .cell\/sc.names.lookup x=some .free
def OY(sc:Scope)(x:Str):Prop:=sc.names.lookup x=some .local\/sc.names.lookup x=some .cell
def Uu(env:Env)(h:Heap)(m:Str->Option Value)(x:Str)(u:Value):Prop:=
 (env.kindOf x=some .local/\m x=some u)\/((env.kindOf x=some .cell\/env.kindOf x=some .free)/\∃c,env.cells.lookup x=some c/\h.IsCell c (some u))
structure Cx.Ok(X:Cx):Prop where
 mod:Mod X.K X.mg X.base
 kind:X.env.scope.kind=.function
 glob:X.env.globals=mainGlobals
 blt:X.env.builtins=builtinsNs
 above:X.s₀.heap.objs.size<=X.env.locals
 inj:∀x y c,X.env.cells.lookup x=some c->X.env.cells.lookup y=some c->x=y
 has:∀x,(X.env.kindOf x=some .cell\/X.env.kindOf x=some .free)->∃c,X.env.cells.lookup x=some c
 OZ:∀x c,X.fn x=true->X.env.cells.lookup x=some c->X.s₀.heap.objs.size<=c
 hd:X.calm=true->X.A.handled=none
 frames:X.A.frames=some X.stack
 Oq:X.stack=X.outer\/(X.stack=X.env::X.outer/\X.env.frame=some X.env.locals)
 Uv:∀b∈X.ex,b≠X.env.locals/\∀x c,X.env.cells.lookup x=some c->c≠b
 bs:∀b o,X.base.get? b=some o->X.s₀.heap.get? b=some o/\X.H₀ b=none
 Ez:X.base.objs.size<=X.s₀.heap.objs.size
 EA:∀b o,X.base.get? b=some o->b∉X.ex
 HF:∀b∈X.ex,b∉X.fs
 o4:X.s₀.heap.FunFrames X.base X.outer
 Lq:∀b∈X.fs,X.H₀ b=none
structure aO(X:Cx)(ae:List (Addr×Obj))(σ:List (Option V))(H:Hp)(s:Shared):Prop where
 ok:X.Ok
 os:s.os=X.s₀.os
 bare:AllBare s.gens
 base:Un X.fs X.ex X.H₀ H X.s₀.heap s.heap
 loc:∃m,s.heap.Ns X.env.locals m/\∀ (i:Nat) (x:Str) (v:V),X.N[i]?=some x->σ[i]?=some (some v)->Op X.env.scope x->∃u,bz v u/\Uu X.env s.heap m x u
 cell:∀x c,X.env.cells.lookup x=some c->∃v,s.heap.IsCell c v
 free:H X.env.locals=none
 jR:∀x c,X.env.cells.lookup x=some c->H c=none
 pin:∀p∈X.pn++ae,s.heap.get? p.1=some p.2/\H p.1=none/\p.1≠X.env.locals/\p.1∉X.fs/\∀v,p.2.data≠.cell v
 bZ:lA X.prog X.w H s.heap
 len:σ.length=X.N.length
section
variable {X:Cx} {ae:List (Addr×Obj)} {σ:List (Option V)} {H H':Hp} {s:Shared} {h':Heap}
theorem Cx.Ok.Uw(ok:X.Ok)(e:X.base.get? b=some o):b∉X.fs:=fun hb=>by
 have:=(ok.o4.mem hb).1;rw[e] at this;cases this
theorem aO.bs(I:aO X ae σ H s):∀b o,X.base.get? b=some o->s.heap.get? b=some o/\H b=none:=fun b o e=>
 ⟨I.base.keep b o (I.ok.bs b o e).1 (I.ok.bs b o e).2 (I.ok.Uw e) (I.ok.EA b o e),I.base.free b o (I.ok.bs b o e).1 (I.ok.bs b o e).2 (I.ok.EA b o e)⟩
theorem aO.bk(I:aO X ae σ H s):∀b o,X.base.get? b=some o->s.heap.get? b=some o:=fun b o e=>(I.bs b o e).1
theorem aO.mod(I:aO X ae σ H s):Mod X.K X.mg X.base:=I.ok.mod
theorem aO.lZ(I:aO X ae σ H s):X.K.In s.heap:=I.ok.mod.OX.keeps I.bk
theorem aO.nolimit(I:aO X ae σ H s):s.heap.NoLimit:=I.ok.mod.nolimit.keeps I.bk
theorem aO.fr(I:aO X ae σ H s):∃m,Fr X.base X.env.locals s.heap m:=
 let ⟨m,hn,_⟩:=I.loc
 ⟨m,hn,I.bk,a8 I.ok.Ez I.ok.above⟩
theorem aO.lt(I:aO X ae σ H s):X.env.locals<s.heap.objs.size:=let ⟨_,hn,_⟩:=I.loc;hn.lt
theorem aO.sz(I:aO X ae σ H s):X.s₀.heap.objs.size<=s.heap.objs.size:=a8 I.ok.above (jN I.lt)
theorem aO.Ux(I:aO X ae σ H s)(h:s.heap.objs.size<=a):a∉X.fs:=fun hb=>by
 obtain⟨_,o,ho,_⟩:=I.ok.o4.mem hb;exact absurd (bn (aS ho) (a8 I.sz h)) (gZ _)
theorem aO.Lr(I:aO X ae σ H s):∀x c,X.env.cells.lookup x=some c->c≠X.env.locals:=fun x c e z=>by
 obtain⟨v,o,ho,hd⟩:=I.cell x c e;obtain⟨m,⟨o',es,ep,HG,HJ,_⟩,_⟩:=I.loc;rw[z,HG] at ho;cases ho;rw[HJ] at hd;cases hd
theorem aO.o4(I:aO X ae σ H s):s.heap.FunFrames X.base X.outer:=by
 have all:∀ (l:List Env),(∀b∈Ea l,b∈X.fs)->X.s₀.heap.FunFrames X.base l->s.heap.FunFrames X.base l:=by
  intro l;induction l with
  |nil=>intro _ _;trivial
  |cons env r ih=>
   intro hs hl;obtain⟨hk,⟨L,o,hf,hn,ho,hd⟩,hr⟩:=hl;have hL:L∈X.fs:=hs L (by unfold Ea;rw[yZ,hf];exact bp);obtain⟨sl,e⟩:=I.base.slot L o ho (I.ok.Lq L hL) hL fun z=>I.ok.HF L z hL;exact⟨hk,⟨L,_,hf,hn,e,hd⟩,ih (fun b hb=>hs b (by unfold Ea;rw[yZ,hf];exact cW _ hb)) hr⟩
 exact all X.outer (fun _ hb=>hb) I.ok.o4
theorem aO.stack(I:aO X ae σ H s):s.heap.FunFrames X.base X.stack:=by
 rcases I.ok.Oq with e|⟨e,hf⟩
 .rw[e];exact I.o4
 .rw[e];obtain⟨m,hn,_⟩:=I.loc;refine .cons (by rw[I.ok.kind];decide) hf hn ?_ I.o4;exact qh (a8 I.ok.Ez I.ok.above)
theorem aO.u_(I:aO X ae σ H s):∀b∈Ea X.stack,b∈X.env.locals::X.fs:=fun b hb=>by
 rcases I.ok.Oq with e|⟨e,hf⟩
 .rw[e] at hb;exact cW _ hb
 .rw[e] at hb;unfold Ea at hb;rw[yZ,hf] at hb;exact hb
theorem aO.va(I:aO X ae σ H s):∀b∈Ea X.stack,H b=none:=fun b hb=>by
 rcases bg.mp (I.u_ b hb) with e|hb
 .rw[e];exact I.free
 .obtain⟨_,o,ho,_⟩:=I.ok.o4.mem hb;exact I.base.free b o ho (I.ok.Lq b hb) fun z=>I.ok.HF b z hb
theorem aO.step{g':Array GenState}{t':Nat}{d':Drawn}{ch:List Addr}(I:aO X ae σ H s)(Ho:∀b∈ch,(b∈X.ex\/X.s₀.heap.objs.size<=b)/\b≠X.env.locals/\(∀x c,X.env.cells.lookup x=some c->c≠b)/\∀p∈X.pn++ae,p.1≠b)(keep:∀b o,b≠X.env.locals->b∉X.fs->b∉ch->s.heap.get? b=some o->H b=none->h'.get? b=some o)(slot:∀b o,b≠X.env.locals->b∈X.fs->b∉ch->s.heap.get? b=some o->H b=none->∃sl,h'.get? b=some { o with slots:=sl })(free:∀b o,b∉ch->s.heap.get? b=some o->H b=none->H' b=none)(there:∀b o,b∉ch->s.heap.get? b=some o->∃o',h'.get? b=some o')(qF:∀b xs,H b=some (.tup xs)->H' b=some (.tup xs))(u8:∀b o u,H b=some (.wr o u)->H' b=some (.wr o u))(u9:∀b ps,H b=some (.ik ps)->∃more,H' b=some (.ik (ps++more)))(ns:∀m,s.heap.Ns X.env.locals m->h'.Ns X.env.locals m)(bZ:lA X.prog X.w H' h')(hg:AllBare g'):
  aO X ae σ H' { s with heap:=h',gens:=g',drawn:=d',toks:=t' }:=by
 have YG:∀b o,X.s₀.heap.get? b=some o->b≠X.env.locals:=fun b o e=>aQ (bn (aS e) I.ok.above);have Te:∀b o,X.s₀.heap.get? b=some o->b∉X.ex->b∉ch:=fun b o e hx hb=>by
  rcases(Ho b hb).1 with z|z
  .exact hx z
  .exact absurd (bn (aS e) z) (gZ _)
 have Kc:∀x c,X.env.cells.lookup x=some c->∀v,s.heap.IsCell c v->h'.IsCell c v:=fun x c e v ⟨o,ho,hd⟩=>by
  have O0:c∉ch:=fun z=>(Ho c z).2.2.1 x c e rfl;by_cases hc:c∈X.fs
  .obtain⟨sl,q⟩:=slot c o (I.Lr x c e) hc O0 ho (I.jR x c e);exact⟨_,q,hd⟩
  .exact⟨o,keep c o (I.Lr x c e) hc O0 ho (I.jR x c e),hd⟩
 refine⟨I.ok,I.os,hg,⟨fun b o e n hb hx=>?_,fun b o e n hb hx=>?_,fun b o e n hx=>?_,fun b o e hx=>?_,fun b xs e=>qF b xs (I.base.qF b xs e),fun b o xs e=>u8 b o xs (I.base.u8 b o xs e),fun b ps e=>?_⟩,?_,fun x c e=>?_,?_,fun x c e=>?_,fun p hp=>?_,bZ,I.len⟩
 .exact keep b o (YG b o e) hb (Te b o e hx) (I.base.keep b o e n hb hx) (I.base.free b o e n hx)
 .obtain⟨sl,e1⟩:=I.base.slot b o e n hb hx;obtain⟨Uy,e2⟩:=slot b _ (YG b o e) hb (Te b o e hx) e1 (I.base.free b o e n hx);exact⟨Uy,e2⟩
 .obtain⟨o',e1⟩:=I.base.there b o e hx;exact free b o' (Te b o e hx) e1 (I.base.free b o e n hx)
 .obtain⟨o',e1⟩:=I.base.there b o e hx;exact there b o' (Te b o e hx) e1
 .obtain⟨m1,e1⟩:=I.base.u9 b ps e;obtain⟨m2,e2⟩:=u9 b _ e1;exact⟨m1++m2,by rw[e2,Array.append_assoc]⟩
 .obtain⟨m,hn,hl⟩:=I.loc;refine⟨m,ns m hn,fun i x v e1 e2 e3=>?_⟩;obtain⟨u,r,l⟩:=hl i x v e1 e2 e3;refine⟨u,r,?_⟩;rcases l with l|⟨k,c,e,z⟩
  .exact .inl l
  .exact .inr ⟨k,c,e,Kc x c e _ z⟩
 .obtain⟨v,z⟩:=I.cell x c e;exact⟨v,Kc x c e v z⟩
 .obtain⟨m,⟨o,_,_,ho,_⟩,_⟩:=I.loc;exact free _ o (fun z=>(Ho _ z).2.1 rfl) ho I.free
 .obtain⟨v,o,ho,hd⟩:=I.cell x c e;exact free c o (fun z=>(Ho c z).2.2.1 x c e rfl) ho (I.jR x c e)
 .obtain⟨e,n,ne,nf,d⟩:=I.pin p hp;have O0:p.1∉ch:=fun z=>(Ho p.1 z).2.2.2 p hp rfl;exact⟨keep p.1 p.2 ne nf O0 e n,free p.1 p.2 O0 e n,ne,nf,d⟩
theorem aO.un{t':Nat}(I:aO X ae σ H s)(u:Un X.fs [] H H' s.heap h')(bZ:lA X.prog X.w H' h'):aO X ae σ H' { s with heap:=h',toks:=t' }:=by
 obtain⟨m,⟨o,es,ep,ho,r⟩,_⟩:=id I.loc;obtain⟨sl,hL⟩:=u.any ho I.free (by simp);exact I.step (g':=s.gens) (d':=s.drawn) (ch:=[]) (fun _ z=>nomatch z) (fun b o _ hb _ e n=>u.keep b o e n hb (by simp)) (fun b o _ hb _ e n=>u.slot b o e n hb (by simp)) (fun b o _ e n=>u.free b o e n (by simp)) (fun b o _ e=>u.there b o e (by simp)) u.qF u.u8 u.u9 (fun m' hm=>by
  obtain⟨o',yv,O1,HG,r'⟩:=hm;rw[ho] at HG;cases HG;exact⟨_,yv,O1,hL,r'⟩) bZ I.bare
theorem aO.call{g':Array GenState}{t':Nat}{d':Drawn}{ch:List Addr}(I:aO X ae σ H s)(u:Un (Ea X.stack) ch H H' s.heap h')(bZ:lA X.prog X.w H' h')(hg:AllBare g')(Ho:∀b∈ch,(b∈X.ex\/X.s₀.heap.objs.size<=b)/\b≠X.env.locals/\(∀x c,X.env.cells.lookup x=some c->c≠b)/\∀p∈X.pn++ae,p.1≠b):
  aO X ae σ H' { s with heap:=h',gens:=g',drawn:=d',toks:=t' }:=by
 obtain⟨m,⟨o,es,ep,ho,r⟩,_⟩:=id I.loc;obtain⟨sl,hL⟩:=u.any ho I.free fun z=>(Ho _ z).2.1 rfl;exact I.step (ch:=ch) Ho (fun b o hL hb hc e n=>u.keep b o e n (fun z=>(bg.mp (I.u_ b z)).elim hL hb) hc) (fun b o _ _ hc e n=>u.any e n hc) (fun b o hc e n=>u.free b o e n hc) (fun b o hc e=>u.there b o e hc) u.qF u.u8 u.u9 (fun m' hm=>by
  obtain⟨o',yv,O1,HG,r'⟩:=hm;rw[ho] at HG;cases HG;exact⟨_,yv,O1,hL,r'⟩) bZ hg
theorem aO.turned{t':Nat}{it:Addr}(I:aO X ae σ H s)(k:∀b o,b≠it->s.heap.get? b=some o->h'.get? b=some o)(hn:H it=none)(hL:it≠X.env.locals)(h1:it∈X.ex\/X.s₀.heap.objs.size<=it)(h2:∀x c,X.env.cells.lookup x=some c->c≠it)(h3:∀p∈X.pn++ae,p.1≠it):aO X ae σ H { s with heap:=h',toks:=t' }:=by
 have YH:∀b u,H b=some u->b≠it:=fun b u e z=>by rw[z,hn] at e;cases e
 refine I.step (g':=s.gens) (d':=s.drawn) (ch:=[it]) (fun b hb=>?_) (fun b o _ _ hc e _=>k b o (fun z=>hc (by simp[z])) e) (fun b o _ _ hc e _=>⟨o.slots,k b o (fun z=>hc (by simp[z])) e⟩) (fun _ _ _ _ n=>n)
  (fun b o hc e=>⟨o,k b o (fun z=>hc (by simp[z])) e⟩) (fun _ _ e=>e) (fun _ _ _ e=>e) (fun b ps e=>⟨#[],by rw[e];simp⟩) (fun m hm=>?_) (fun b u e=>?_) I.bare
 .have e:b=it:=by simpa using hb
  subst e;exact⟨h1,hL,h2,h3⟩
 .obtain⟨o,es,ep,ho,r⟩:=hm;exact⟨o,es,ep,k _ o (cZ hL) ho,r⟩
 .refine(I.bZ b u e).jd (fun c v hc q=>k c v ?_ q) (fun _ q=>q) fun _ _ q=>q;rcases hc with z|z
  .rw[z];exact YH b u e
  .exact YH c _ z
theorem aO.tok(I:aO X ae σ H s)(t:Nat):aO X ae σ H { s with toks:=t }:=I.un (h':=s.heap) (t':=t) Un.refl I.bZ
theorem aO.kept(I:aO X ae σ H s)(k:∀b u,s.heap.get? b=some u->h'.get? b=some u):aO X ae σ H { s with heap:=h',toks:=t' }:=I.un (Un.kept k) (I.bZ.kept k)
theorem aO.laid(I:aO X ae σ H s)(k:∀b u,s.heap.get? b=some u->h'.get? b=some u)(hp:s.heap.objs.size<=a)(new:cC X.prog X.w (upd H a o) h' a o):
  aO X ae σ (upd H a o) { s with heap:=h',toks:=t' }:=I.un (Un.laid k hp (I.bZ.fresh hp)) (I.bZ.laid k hp new)
theorem aO.write(I:aO X ae σ H s)(mu:Tc (H x))(he:e=x\/H e=some (.own x))(k:∀b u,b≠e->s.heap.get? b=some u->h'.get? b=some u)(Oo:∃u,h'.get? e=some u)(new:cC X.prog X.w (upd H x o) h' x o):aO X ae σ (upd H x o) { s with heap:=h',toks:=t' }:=I.un (Un.write mu he k Oo) (I.bZ.write mu he k Oo new)
theorem aO.l0(I:aO X ae σ H s)(h:∀p∈pins',s.heap.get? p.1=some p.2/\H p.1=none/\p.1≠X.env.locals/\p.1∉X.fs/\∀v,p.2.data≠.cell v):aO X pins' σ H s:=
 ⟨I.ok,I.os,I.bare,I.base,I.loc,I.cell,I.free,I.jR,fun p hp=>(bO.mp hp).elim (fun z=>I.pin p (fY _ z)) (h p),I.bZ,I.len⟩
theorem wE{N:List Str}(hN:N.Nodup){i j:Nat}{x:Str}(a:N[i]?=some x)(b:N[j]?=some x):i=j:=by
 obtain⟨h1,e1⟩:=cJ.mp a;obtain⟨h2,e2⟩:=cJ.mp b;exact(List.getElem_inj hN).mp (e1.trans e2.symm)
theorem tD{M:Model}{A:Around}{E:Value->Shared->Prop}{i:Nat}{x:Str}{v:V}{u:Value}{Q:Unit->Shared->Prop}(I:aO X ae σ H s)(hN:X.N.Nodup)(hi:X.N[i]?=some x)(hx:OY X.env.scope x)(r:bz v u)(h:∀s',aO X ae (σ.set i (some v)) H s'->(∃a,Heap.SameBut a s.heap s'.heap/\(a=X.env.locals\/X.env.cells.lookup x=some a))->Q () s')(hf:X.fn x=true\/X.env.scope.names.lookup x=some .local:=by first|exact .inl rfl|exact .inr rfl|assumption):wpAny M A (storeName X.env x u) Q E s:=by
 obtain⟨m,hn,hl⟩:=id I.loc;have Uz:(X.env.scope.kind==.class||(X.env.scope.kind==.module&&X.env.locals != X.env.globals))=false:=by rw[I.ok.kind];rfl
 have hiσ:i<σ.length:=by rw[I.len];exact(cJ.mp hi).1
 have Lr:=I.Lr;have Bm:∀ {a:Addr} {h':Heap},(∃o,s.heap.get? a=some o/\H a=none)->Heap.SameBut a s.heap h'->lA X.prog X.w H h':=fun {a h'} ha hs b ob e=>by
  obtain⟨_,_,Kd⟩:=ha;refine(I.bZ b ob e).jd (fun c w' hc q=>(hs.2 c ?_).trans q) (fun _ q=>q) fun _ _ q=>q;rintro rfl;rcases hc with rfl|hc
  .rw[Kd] at e;cases e
  .rw[Kd] at hc;cases hc
 rcases hx with hk|hk
 .refine wpAny_storeName_local hk hn (fun h' O2 hs=>?_) Uz;obtain⟨oL,_,_,CS,_⟩:=id hn;refine h _ ⟨I.ok,I.os,I.bare,⟨fun b o e n hb hx=>?_,fun b o e n hb hx=>?_,I.base.free,fun b o e hx=>?_,I.base.qF,I.base.u8,I.base.u9⟩,⟨_,O2,fun j y v' e1 e2 e3=>?_⟩,fun y c e=>?_,I.free,I.jR,fun p hp=>?_,Bm ⟨oL,CS,I.free⟩ hs,by simpa using I.len⟩ ⟨_,hs,.inl rfl⟩
  .exact(hs.2 b (aQ (bn (aS e) I.ok.above))).trans (I.base.keep b o e n hb hx)
  .obtain⟨sl,e1⟩:=I.base.slot b o e n hb hx;exact⟨sl,(hs.2 b (aQ (bn (aS e) I.ok.above))).trans e1⟩
  .obtain⟨o',e1⟩:=I.base.there b o e hx;exact⟨o',(hs.2 b (aQ (bn (aS e) I.ok.above))).trans e1⟩
  .by_cases hj:j=i
   .subst hj;rw[hi] at e1;cases e1;rw[mV hiσ] at e2;cases e2;exact⟨u,r,.inl ⟨hk,by simp⟩⟩
   .rw[mX (cZ hj)] at e2;obtain⟨u',r',q⟩:=hl j y v' e1 e2 e3;refine⟨u',r',?_⟩;rcases q with ⟨k,e⟩|⟨k,c,e,z⟩
    .refine .inl ⟨k,?_⟩;have:y≠x:=fun e=>hj (wE hN e1 (e ▸ hi));simp[this,e]
    .exact .inr ⟨k,c,e,z.sameBut hs (Lr y c e)⟩
  .obtain⟨w',z⟩:=I.cell y c e;exact⟨w',z.sameBut hs (Lr y c e)⟩
  .obtain⟨e,n,ne,nf,d⟩:=I.pin p hp;exact⟨(hs.2 p.1 ne).trans e,n,ne,nf,d⟩
 .have UA:X.fn x=true:=by
   rcases hf with z|z
   .exact z
   .rw[z] at hk;cases hk
  obtain⟨c,hc⟩:=I.ok.has x (.inl hk);obtain⟨w',z⟩:=I.cell x c hc;refine wpAny_storeName_cell I.ok.kind hk hc z (fun h' wF hs=>?_);obtain⟨oc,Tf,UB⟩:=id z;refine h { s with heap:=h' } ⟨I.ok,I.os,I.bare,⟨fun b o e n hb hx=>?_,fun b o e n hb hx=>?_,I.base.free,fun b o e hx=>?_,I.base.qF,I.base.u8,I.base.u9⟩,⟨m,hn.sameBut hs (cZ (Lr x c hc)),fun j y v' e1 e2 e3=>?_⟩,fun y c' e=>?_,I.free,I.jR,fun p hp=>?_,Bm ⟨oc,Tf,I.jR x c hc⟩ hs,by simpa using I.len⟩ ⟨c,hs,.inr hc⟩
  .exact(hs.2 b (aQ (bn (aS e) (I.ok.OZ x c UA hc)))).trans (I.base.keep b o e n hb hx)
  .obtain⟨sl,e1⟩:=I.base.slot b o e n hb hx;exact⟨sl,(hs.2 b (aQ (bn (aS e) (I.ok.OZ x c UA hc)))).trans e1⟩
  .obtain⟨o',e1⟩:=I.base.there b o e hx;exact⟨o',(hs.2 b (aQ (bn (aS e) (I.ok.OZ x c UA hc)))).trans e1⟩
  .by_cases hj:j=i
   .subst hj;rw[hi] at e1;cases e1;rw[mV hiσ] at e2;cases e2;exact⟨u,r,.inr ⟨.inl hk,c,hc,wF⟩⟩
   .rw[mX (cZ hj)] at e2;obtain⟨u',r',q⟩:=hl j y v' e1 e2 e3;refine⟨u',r',?_⟩;rcases q with q|⟨k,c',e,z'⟩
    .exact .inl q
    .refine .inr ⟨k,c',e,z'.sameBut hs ?_⟩;rintro rfl;exact hj (wE hN e1 (I.ok.inj _ _ _ e hc ▸ hi))
  .by_cases YI:c'=c
   .subst YI;exact⟨_,wF⟩
   .obtain⟨w2,z2⟩:=I.cell y c' e;exact⟨w2,z2.sameBut hs YI⟩
  .obtain⟨e,n,ne,nf,d⟩:=I.pin p hp;refine⟨(hs.2 p.1 ?_).trans e,n,ne,nf,d⟩;intro q;rw[q,Tf] at e;have q':oc=p.2:=bN e;exact d w' (by rw[<-q'];exact UB)
theorem jS(I:aO X ae σ H s)(hN:X.N.Nodup)(hi:X.N[i]?=some x)(hx:OY X.env.scope x)(r:bz v u)(h:∀s',aO X ae (σ.set i (some v)) H s'->Q () s')(hf:X.fn x=true\/X.env.scope.names.lookup x=some .local:=by first|exact .inl rfl|exact .inr rfl|assumption):wpAny M A (storeName X.env x u) Q E s:=
 tD I hN hi hx r (fun s' I' _=>h s' I') hf
theorem aO.Ke(I:aO X ae σ H s)(ho:s'.os=s.os)(u:Un (Ea X.stack) ch H H' s.heap s'.heap)(bZ:lA X.prog X.w H' s'.heap)(hg:AllBare s'.gens)(Ho:∀b∈ch,(b∈X.ex\/X.s₀.heap.objs.size<=b)/\b≠X.env.locals/\(∀x c,X.env.cells.lookup x=some c->c≠b)/\∀p∈X.pn++ae,p.1≠b):aO X ae σ H' s':=by
 obtain⟨h',g',d',t',o'⟩:=s';have e:o'=s.os:=ho;subst e;exact I.call (g':=g') (t':=t') (d':=d') u bZ hg Ho
end
abbrev XK:=Value->Option Addr->Hp->Prop
abbrev St:=List (Option V)
abbrev VK:=V->Hp->Prop
abbrev TE:=St->Hp->VK->Prop
abbrev TT:=St->Hp->(Bool->Hp->Prop)->Prop
abbrev TA:=St->Hp->(List V->Hp->Prop)->Prop
structure wG where
 nx:St->Hp->Prop
 rt:VK
 bk:St->Hp->Prop:=fun _ _=>False
 ct:St->Hp->Prop:=fun _ _=>False
abbrev TS:=wG->St->Hp->Prop
def EP(X:Cx)(ae:List (Addr×Obj))(σ:St)(Q:VK)(u:Value)(s':Shared):Prop:=∃v H',aO X ae σ H' s'/\bz v u/\Q v H'
def TP(X:Cx)(ae:List (Addr×Obj))(σ:St)(Q:Bool->Hp->Prop)(b:Bool)(s':Shared):Prop:=∃H',aO X ae σ H' s'/\Q b H'
def AP(X:Cx)(ae:List (Addr×Obj))(σ:St)(Q:List V->Hp->Prop)(us:List Value)(s':Shared):Prop:=∃vs H',aO X ae σ H' s'/\aT vs us/\Q vs H'
def SP(X:Cx)(ae:List (Addr×Obj))(D:wG)(f:Flow)(s':Shared):Prop:=
 match f with
 |.next=>∃σ' H',aO X ae σ' H' s'/\D.nx σ' H'
 |.brk=>∃σ' H',aO X ae σ' H' s'/\D.bk σ' H'
 |.cont=>∃σ' H',aO X ae σ' H' s'/\D.ct σ' H'
 |.ret u=>∃v σ' H',aO X ae σ' H' s'/\bz v u/\D.rt v H'
def PE(X:Cx)(e:Expr)(t:TE):Prop:=
 ∀ (ae:List (Addr×Obj)) (s:Shared) (σ:St) (H:Hp) (Q:VK),aO X ae σ H s->t σ H Q->wpAny (model X.prog X.w) X.A (eval e X.env) (EP X ae σ Q) X.xe s
def PT(X:Cx)(e:Expr)(t:TT):Prop:=
 ∀ (ae:List (Addr×Obj)) (s:Shared) (σ:St) (H:Hp) (Q:Bool->Hp->Prop),aO X ae σ H s->t σ H Q->wpAny (model X.prog X.w) X.A (isTrue e X.env (eval e X.env)) (TP X ae σ Q) X.xe s
def PW(X:Cx)(e:Expr)(t:TT):Prop:=
 ∀ (Bn:Sem Value) (ae:List (Addr×Obj)) (s:Shared) (σ:St) (H:Hp) (Q:Bool->Hp->Prop),aO X ae σ H s->t σ H Q->wpAny (model X.prog X.w) X.A (isTrue e X.env Bn) (TP X ae σ Q) X.xe s
theorem PW.pt(h:PW X e t):PT X e t:=h _
def PA(X:Cx)(es:List Expr)(t:TA):Prop:=
 ∀ (pos:Pos) (ae:List (Addr×Obj)) (s:Shared) (σ:St) (H:Hp) (Q:List V->Hp->Prop),aO X ae σ H s->t σ H Q->wpAny (model X.prog X.w) X.A (spliced (backTo pos (starEach es X.env))) (AP X ae σ Q) X.xe s
def PS(X:Cx)(st:Stmt)(t:TS):Prop:=
 ∀ (ae:List (Addr×Obj)) (s:Shared) (σ:St) (H:Hp) (D:wG),aO X ae σ H s->t D σ H->wpAny (model X.prog X.w) X.A (exec st X.env) (SP X ae D) X.xe s
def zG(X:Cx)(st:List Stmt)(t:TS):Prop:=
 ∀ (ae:List (Addr×Obj)) (s:Shared) (σ:St) (H:Hp) (D:wG),aO X ae σ H s->t D σ H->wpAny (model X.prog X.w) X.A (execs st X.env) (SP X ae D) X.xe s
theorem dq(h:wpAny M A t Q E s)(hQ:∀a s,Q a s->Q' a s):wpAny M A t Q' E s:=jb h hQ fun _ _ x=>x
section
variable {X:Cx}
def a_(i:Nat):TE:=fun σ H Q=>∃v,σ[i]?=some (some v)/\Q v H
def tC(v:V):TE:=fun _ H Q=>Q v H
theorem Ls(hN:X.N[i]?=some x)(hv:Op X.env.scope x)(hd:(x==("__debug__":Str))=false:=by decide)(tE:(x==("__classdict__":Str))=false:=by decide):PE X (.Name x pos) (a_ i):=by
 intro ae s σ H Q I h;obtain⟨v,e,h⟩:=h;obtain⟨m,hn,hl⟩:=I.loc;obtain⟨u,r,l⟩:=hl i x v hN e hv;have fin:EP X ae σ Q u s:=⟨v,H,I,r,h⟩
 rcases l with ⟨hk,hm⟩|⟨hk,c,hc,Bo⟩
 .exact nE (zg I.ok.kind hk hn hm fin) hd
 .rcases hk with hk|hk
  .exact nE (wpAny_loadName_cell I.ok.kind hk hc Bo fin) hd
  .exact nE (zm I.ok.kind hk hc Bo fin tE) hd
theorem ap{i j pos}:PE X (.Constant (.int i) j pos) (tC (.int i)):=fun _ _ _ H _ I h=>wpAny_Constant_int ⟨.int i,H,I.tok _,⟨_,rfl⟩,h⟩
theorem qH{b j pos}:PE X (.Constant (.bool b) j pos) (tC (.bl b)):=fun _ _ _ H _ I h=>Constant_bool ⟨.bl b,H,I,rfl,h⟩
theorem jT{j pos}:PE X (.Constant .none j pos) (tC .cS):=fun _ _ _ H _ I h=>Constant_none ⟨.cS,H,I,rfl,h⟩
def Gl(X:Cx)(x:Str):Prop:=X.env.kindOf x=some .globalImplicit
theorem pK(I:aO X ae σ H s)(hg:Gl X x)(hm:X.mg x=some u)(h:Q u s)(hd:(x==("__debug__":Str))=false:=by decide):wpAny (model X.prog X.w) X.A (eval (.Name x pos) X.env) Q E s:=
 Calls.Name_function_global I.ok.kind hg (Calls.loadGlobal_global (by rw[I.ok.glob];exact I.mod.glob.keeps I.bk) hm h) hd
theorem iE(I:aO X ae σ H s)(hg:Gl X x)(hm:X.mg x=none)(hv:bootBuiltins x=some u)(h:Q u s)(hn:x≠"__name__":=by decide)(hd:(x==("__debug__":Str))=false:=by decide):wpAny (model X.prog X.w) X.A (eval (.Name x pos) X.env) Q E s:=by
 obtain⟨mb,h1,h2⟩:=I.mod.blt;exact Calls.Name_function_global I.ok.kind hg (Calls.loadGlobal_builtin (by rw[I.ok.glob];exact I.mod.glob.keeps I.bk) hm (by rw[I.ok.blt];exact h1.keeps I.bk) ((h2 x hn).trans hv) h) hd
theorem pL(hg:Gl X x)(hm:X.mg x=some u)(r:bz v u)(hd:(x==("__debug__":Str))=false:=by decide):PE X (.Name x pos) (tC v):=
 fun _ _ _ H _ I h=>pK I hg hm ⟨v,H,I,r,h⟩ hd
theorem jf(hg:Gl X x)(hm:X.mg x=none)(hv:bootBuiltins x=some u)(r:bz v u)(hn:x≠"__name__":=by decide)(hd:(x==("__debug__":Str))=false:=by decide):PE X (.Name x pos) (tC v):=
 fun _ _ _ H _ I h=>iE I hg hm hv ⟨v,H,I,r,h⟩ hn hd
variable {a b:Expr} {ta tb:TE} {pos:Pos}
def PC(X:Cx)(op:CmpOp)(a b:Expr)(t:TE):Prop:=
 ∀ (ae:List (Addr×Obj)) (s:Shared) (σ:St) (H:Hp) (Q:VK),aO X ae σ H s->t σ H Q->
  wpAny (model X.prog X.w) X.A (eval a X.env) (fun v s₁=>wpAny (model X.prog X.w) X.A (eval b X.env) (fun u s₂=>wpAny (model X.prog X.w) X.A (compareOp op v u) (EP X ae σ Q) X.xe s₂) X.xe s₁) X.xe s
def tB(t:TE):TT:=fun σ H Q=>t σ H fun x H1=>∃c,x=.bl c/\Q c H1
theorem Lu(h:PC X op a b t)(h1:behindInMarks op b=false:=by first|exact O4 _ (by decide) (by decide)|rfl):PT X (.Compare a [op] [b] pos) (tB t):=by
 intro ae s σ H Q I hw;refine wpAny_isTrue_Compare1 (dq (h ae s σ H _ I hw) fun v s1 h1=>dq h1 fun u s2 h2=>dq h2 fun c s3 ⟨x,H1,I1,r1,q1⟩=>?_) h1;obtain⟨d,rfl,q⟩:=q1;cases r1;exact nh ⟨H1,I1,q⟩
theorem g_(h:PE X e t)(he:∀Bn,isTrue e X.env Bn=(do let v <- Bn;standAt e.pos;holding [v] (truthy v)):=by intro _;rfl):PT X e (tB t):=by
 intro ae s σ H Q I hw;refine isTrue_plain (dq (h ae s σ H _ I hw) fun v s1 ⟨x,H1,I1,r1,q1⟩=>?_) (he _);obtain⟨d,rfl,q⟩:=q1;cases r1;exact nh ⟨H1,I1,q⟩
variable {tA Tg:TT} {rest:List Expr}
def UC(t u:TT):TT:=fun σ H Q=>t σ H fun c H1=>if c=true then u σ H1 Q else Q false H1
def tOr(t u:TT):TT:=fun σ H Q=>t σ H fun c H1=>if c=true then Q true H1 else u σ H1 Q
def UD(t:TT):TT:=fun σ H Q=>t σ H fun c H1=>Q (!c) H1
theorem vc(ha:PT X a tA):PW X (.BoolOp .And [a] pos) tA:=by
 intro wh ae s σ H Q I h;refine isTrue_and (dq (ha ae s σ H Q I h) fun c s1 e=>?_);cases c with
 |true=>exact isTrue_and_nil e
 |false=>exact e
theorem vd(ha:PT X a tA):PW X (.BoolOp .Or [a] pos) tA:=by
 intro wh ae s σ H Q I h;refine isTrue_or (dq (ha ae s σ H Q I h) fun c s1 e=>?_);cases c with
 |false=>exact isTrue_or_nil e
 |true=>exact e
theorem zH(ha:PT X a tA)(hb:PW X (.BoolOp .And (b::rest) pos) Tg):PW X (.BoolOp .And (a::b::rest) pos) (UC tA Tg):=by
 intro wh ae s σ H Q I h;refine isTrue_and (dq (ha ae s σ H _ I h) fun c s1 ⟨H1,I1,q1⟩=>?_);cases c with
 |true=>exact hb wh ae s1 σ H1 Q I1 q1
 |false=>exact⟨H1,I1,q1⟩
theorem wH(ha:PT X a tA)(hb:PW X (.BoolOp .Or (b::rest) pos) Tg):PW X (.BoolOp .Or (a::b::rest) pos) (tOr tA Tg):=by
 intro wh ae s σ H Q I h;refine isTrue_or (dq (ha ae s σ H _ I h) fun c s1 ⟨H1,I1,q1⟩=>?_);cases c with
 |true=>exact⟨H1,I1,q1⟩
 |false=>exact hb wh ae s1 σ H1 Q I1 q1
theorem iF(ha:PT X a tA):PT X (.UnaryOp .Not a pos) (UD tA):=by
 intro ae s σ H Q I h;exact isTrue_not (ha ae s σ H (fun c H1=>Q (!c) H1) I h)
def O5(ta tb:TE):TE:=fun σ H Q=>ta σ H fun x H1=>∃c,x=.bl c/\if c=true then tb σ H1 Q else Q (.bl false) H1
def O6(ta:TE):TE:=fun σ H Q=>ta σ H fun x H1=>∃c,x=.bl c/\Q (.bl (!c)) H1
theorem nG{op}(h:PE X a t):PE X (.BoolOp op [a] pos) t:=fun ae s σ H Q I hw=>BoolOp_one (h ae s σ H Q I hw)
theorem jU(ha:PE X a ta)(hb:PE X (.BoolOp .And (b::rest) pos) tb):PE X (.BoolOp .And (a::b::rest) pos) (O5 ta tb):=by
 intro ae s σ H Q I h;refine BoolOp_and (dq (ha ae s σ H _ I h) fun v s1 ⟨x,H1,I1,r1,q1⟩=>?_);obtain⟨c,rfl,q1⟩:=q1;cases r1;refine nh ?_;cases c with
 |true=>exact hb ae s1 σ H1 Q I1 q1
 |false=>exact⟨.bl false,H1,I1,rfl,q1⟩
theorem EB(ha:PE X a ta):PE X (.UnaryOp .Not a pos) (O6 ta):=by
 intro ae s σ H Q I h;refine UnaryOp_ (dq (ha ae s σ H _ I h) fun v s1 ⟨x,H1,I1,r1,q1⟩=>?_);obtain⟨c,rfl,q1⟩:=q1;cases r1;exact not_of (nh ⟨.bl (!c),H1,I1,rfl,q1⟩)
def tIf(t:TT)(ta tb:TE):TE:=fun σ H Q=>t σ H fun c H1=>if c=true then ta σ H1 Q else tb σ H1 Q
theorem EC(hc:PT X c tA)(ha:PE X a ta)(hb:PE X b tb):PE X (.IfExp c a b pos) (tIf tA ta tb):=by
 intro ae s σ H Q I h;refine wpAny_IfExp (dq (hc ae s σ H _ I h) fun d s1 ⟨H1,I1,q1⟩=>?_);cases d with
 |true=>exact ha ae s1 σ H1 Q I1 q1
 |false=>exact hb ae s1 σ H1 Q I1 q1
end
def aZ(K:PySem.W.Frag)(H:Hp)(a:Addr)(xs:List V):Prop:=
 Rd H a (.lst xs)\/
  ∃ (o:Obj) (its:Array Value) (n:Nat),K.lookup a=some o/\o.cls=.type "list"/\o.dict=none/\o.data=.seq its n/\its.size<=sizeLine/\aT xs its.toList
def c_(K:PySem.W.Frag)(H:Hp)(a:Addr)(xs:List V):Prop:=
 Rd H a (.tup xs)\/
  ∃ (o:Obj) (its:Array Value) (n:Nat),K.lookup a=some o/\o.cls=.type "tuple"/\o.data=.seq its n/\its.size<=sizeLine/\aT xs its.toList
def UE:Value->Option V
 |.none=>some .cS
 |.bool b=>some (.bl b)
 |.int i _=>some (.int i)
 |.str x _=>some (.str x)
 |.bytes b _=>some (.D_ b)
 |.float b _=>some (.Lo b)
 |.ref a=>some (.ref a)
 |.type n=>some (.ty n)
 |_=>none
theorem bz.abs(r:bz x u):UE u=some x:=by
 cases x with
 |cS=>cases r;rfl
 |bl _=>cases r;rfl
 |int _=>obtain⟨t,rfl⟩:=r;rfl
 |str _=>obtain⟨t,rfl⟩:=r;rfl
 |D_ _=>obtain⟨t,rfl⟩:=r;rfl
 |Lo _=>obtain⟨t,rfl⟩:=r;rfl
 |ref _=>cases r;rfl
 |ty _=>cases r;rfl
theorem bz.inj(r:bz x u)(q:bz y u):x=y:=bN (r.abs.symm.trans q.abs)
theorem aT.inj:∀ {xs ys:List V} {us:List Value},aT xs us->aT ys us->xs=ys
 |_,_,_,.nil,.nil=>rfl
 |_,_,_,.cons r t,.cons r' t'=>by rw[r.inj r',aT.inj t t']
section
variable {X:Cx} {ae:List (Addr×Obj)} {σ:St} {H:Hp} {s:Shared} {a:Addr} {xs ys:List V}
theorem aZ.of{K:PySem.W.Frag}(h:H a=some (.lst xs)):aZ K H a xs:=.inl (.inl h)
theorem c_.of{K:PySem.W.Frag}(h:H a=some (.tup xs)):c_ K H a xs:=.inl (.inl h)
theorem aO.list(I:aO X ae σ H s)(h:aZ X.K H a xs):∃its:List Value,aT xs its/\PlainL s.heap a its.toArray/\xs.length<=sizeLine:=by
 rcases h with h|⟨o,its,n,hk,hc,hd,hs,hz,r⟩
 .obtain⟨z,its,n,r,e⟩:=h.ok I.bZ;exact⟨its,r,⟨_,n,e,rfl,rfl,rfl⟩,z⟩
 .refine⟨its.toList,r,⟨o,n,I.lZ a o hk,hc,hd,by simpa using hs⟩,?_⟩;have e:=r.length;simp only[fZ] at e;lia
theorem aO.tuple(I:aO X ae σ H s)(h:c_ X.K H a xs):∃its:List Value,aT xs its/\IsTup s.heap a its.toArray/\xs.length<=sizeLine:=by
 rcases h with h|⟨o,its,n,hk,hc,hs,hz,r⟩
 .obtain⟨z,its,r,p⟩:=h.ok I.bZ;exact⟨its,r,p.tup,z⟩
 .refine⟨its.toList,r,⟨o,I.lZ a o hk,hc,n,by simpa using hs⟩,?_⟩;have e:=r.length;simp only[fZ] at e;lia
theorem aO.wI(I:aO X ae σ H s)(h:aZ X.K H a xs)(h':aZ X.K H a ys):xs=ys:=by
 obtain⟨its,r,⟨o,n,e,_,_,d⟩,_⟩:=I.list h;obtain⟨its',r',⟨o',n',e',_,_,d'⟩,_⟩:=I.list h';rw[e] at e';cases e';rw[d] at d';injection d' with d1 _;have:its=its':=by simpa using congrArg Array.toList d1
 subst this;exact r.inj r'
theorem aO.iS(I:aO X ae σ H s)(h:c_ X.K H a xs)(h':c_ X.K H a ys):xs=ys:=by
 obtain⟨its,r,⟨o,e,_,n,d⟩,_⟩:=I.tuple h;obtain⟨its',r',⟨o',e',_,n',d'⟩,_⟩:=I.tuple h';rw[e] at e';cases e';rw[d] at d';injection d' with d1 _;have:its=its':=by simpa using congrArg Array.toList d1
 subst this;exact r.inj r'
end
abbrev Cx.si(X:Cx)(E:Value->Shared->Prop):Cx:={ X with xe:=E }
abbrev Cx.yw(X:Cx):Cx:=X.si fun _ _=>False
theorem Cx.Ok.si{X:Cx}(ok:X.Ok)(E:Value->Shared->Prop):(X.si E).Ok:=
 ⟨ok.mod,ok.kind,ok.glob,ok.blt,ok.above,ok.inj,ok.has,ok.OZ,ok.hd,ok.frames,ok.Oq,ok.Uv,ok.bs,ok.Ez,ok.EA,ok.HF,ok.o4,ok.Lq⟩
theorem Cx.Ok.jV{X:Cx}{E:Value->Shared->Prop}(ok:(X.si E).Ok):X.Ok:=
 ⟨ok.mod,ok.kind,ok.glob,ok.blt,ok.above,ok.inj,ok.has,ok.OZ,ok.hd,ok.frames,ok.Oq,ok.Uv,ok.bs,ok.Ez,ok.EA,ok.HF,ok.o4,ok.Lq⟩
section
variable {X:Cx} {ae:List (Addr×Obj)} {σ:St} {H:Hp} {s:Shared} {E:Value->Shared->Prop}
theorem aO.si(I:aO X ae σ H s)(E:Value->Shared->Prop):aO (X.si E) ae σ H s:=⟨I.ok.si E,I.os,I.bare,I.base,I.loc,I.cell,I.free,I.jR,I.pin,I.bZ,I.len⟩
theorem aO.jV(I:aO (X.si E) ae σ H s):aO X ae σ H s:=⟨I.ok.jV,I.os,I.bare,I.base,I.loc,I.cell,I.free,I.jR,I.pin,I.bZ,I.len⟩
theorem SP.jV(h:SP (X.si E) ae D f s'):SP X ae D f s':=by
 cases f with
 |next=>obtain⟨σ',H',I,q⟩:=h;exact⟨σ',H',I.jV,q⟩
 |brk=>obtain⟨σ',H',I,q⟩:=h;exact⟨σ',H',I.jV,q⟩
 |cont=>obtain⟨σ',H',I,q⟩:=h;exact⟨σ',H',I.jV,q⟩
 |ret u=>obtain⟨v,σ',H',I,r,q⟩:=h;exact⟨v,σ',H',I.jV,r,q⟩
theorem zG.yw{st:List Stmt}{t:TS}(h:zG X.yw st t):zG X st t:=fun ae s σ H D I hw=>
 jb (h ae s σ H D (I.si _) hw) (fun _ _ q=>q.jV) fun _ _ z=>False.elim z
end
section
variable {X:Cx} {st:Stmt} {rest:List Stmt} {t u:TS} {e:Expr} {te:TE} {pos:Pos}
def Kg:TS:=fun D σ H=>D.nx σ H
def O7(t u:TS):TS:=fun D σ H=>t { D with nx:=u D } σ H
theorem bq:zG X [] Kg:=fun _ _ σ H _ I h=>uV ⟨σ,H,I,h⟩
theorem aj(h1:PS X st t)(h2:zG X rest u):zG X (st::rest) (O7 t u):=by
 intro ae s σ H D I h;refine wpAny_execs_cons (dq (h1 ae s σ H { D with nx:=u D } I h) fun f s1 q=>?_);cases f with
 |next=>
  obtain⟨σ',H',I',q⟩:=q;exact h2 ae s1 σ' H' D I' q
 |ret v=>exact q
 |brk=>exact q
 |cont=>exact q
theorem aq(h1:PS X st t):zG X [st] t:=by
 intro ae s σ H D I h;refine wpAny_execs_cons (dq (h1 ae s σ H D I h) fun f s1 q=>?_);cases f with
 |next=>exact uV q
 |ret v=>exact q
 |brk=>exact q
 |cont=>exact q
theorem aO.quiet(I:aO X ae σ H s):interactive X.env=false:=by simp[interactive,I.ok.kind]
def O8(te:TE):TS:=fun D σ H=>te σ H fun _ H1=>D.nx σ H1
theorem b8(he:PE X e te)(hs:swapsWith e none pos.line X.env=pure false:=by rfl):PS X (.Expr e pos) (O8 te):=by
 intro ae s σ H D I h;exact wpAny_Expr_any (dq (he ae s σ H _ I h) fun v s1 ⟨x,H1,I1,r1,q1⟩=>⟨σ,H1,I1,q1⟩) I.quiet hs
def O9(te:TE):TS:=fun D σ H=>te σ H D.rt
theorem a9(he:PE X e te):PS X (.Return (some e) pos) (O9 te):=by
 intro ae s σ H D I h;exact wpAny_Return_some (dq (he ae s σ H _ I h) fun v s1 ⟨x,H1,I1,r1,q1⟩=>⟨x,σ,H1,I1,r1,q1⟩)
def O_(c:TT)(t u:TS):TS:=fun D σ H=>c σ H fun b H1=>if b=true then t D σ H1 else u D σ H1
theorem df(hc:PT X c tc)(ha:zG X a t)(hb:zG X b u):PS X (.If c a b pos) (O_ tc t u):=by
 intro ae s σ H D I h;refine wpAny_If (dq (hc ae s σ H _ I h) fun d s1 ⟨H1,I1,q1⟩=>?_);cases d with
 |true=>exact ha ae s1 σ H1 D I1 q1
 |false=>exact hb ae s1 σ H1 D I1 q1
def Lv:TS:=fun _ _ _=>False
theorem dQ:zG X sts Lv:=fun _ _ _ _ _ _ h=>h.elim
end
abbrev TG:=V->St->Hp->(St->Hp->Prop)->Prop
abbrev Pa:=List V->St->Hp->(St->Hp->Prop)->Prop
def PG(X:Cx)(Lw:Expr)(t:TG):Prop:=
 ∀ (ae:List (Addr×Obj)) (s:Shared) (σ:St) (H:Hp) (v:V) (u:Value) (Q:St->Hp->Prop),aO X ae σ H s->bz v u->t v σ H Q->
  wpAny (model X.prog X.w) X.A (assign Lw X.env u) (fun _ s'=>∃σ' H',aO X ae σ' H' s'/\Q σ' H') X.xe s
def Th(X:Cx)(ts:List Expr)(t:Pa):Prop:=
 ∀ (ae:List (Addr×Obj)) (s:Shared) (σ:St) (H:Hp) (vs:List V) (us:List Value) (Q:St->Hp->Prop),aO X ae σ H s->aT vs us->t vs σ H Q->
  wpAny (model X.prog X.w) X.A (assignInOrder ((assignEach ts X.env).map (·.2)) us) (fun _ s'=>∃σ' H',aO X ae σ' H' s'/\Q σ' H') X.xe s
abbrev Pb:=V->V->V->Hp->(Hp->Prop)->Prop
def Pc(X:Cx)(t:Pb):Prop:=
 ∀ (ae:List (Addr×Obj)) (s:Shared) (σ:St) (H:Hp) (o i v:V) (ov iv u:Value) (Q:Hp->Prop),aO X ae σ H s->bz o ov->bz i iv->bz v u->t o i v H Q->
  wpAny (model X.prog X.w) X.A (setItem ov iv u) (fun _ s'=>∃H',aO X ae σ H' s'/\Q H') X.xe s
abbrev UF:=V->V->Hp->VK->Prop
def YJ(X:Cx)(op:Operator)(t:UF):Prop:=
 ∀ (ae:List (Addr×Obj)) (s:Shared) (σ:St) (H:Hp) (x y:V) (v u:Value) (Q:VK),aO X ae σ H s->bz x v->bz y u->t x y H Q->
  wpAny (model X.prog X.w) X.A (inplaceOp op v u) (EP X ae σ Q) X.xe s
section
variable {X:Cx} {pos:Pos}
def bA(i:Nat):TG:=fun v σ H Q=>Q (σ.set i (some v)) H
theorem az(hN:X.N.Nodup)(hi:X.N[i]?=some x)(hx:OY X.env.scope x)(hf:X.fn x=true\/X.env.scope.names.lookup x=some .local:=by first|exact .inl rfl|exact .inr rfl|assumption):PG X (.Name x pos) (bA i):=by
 intro ae s σ H v u Q I r h;exact wpAny_assign_Name (jS I hN hi hx r (fun s' I'=>⟨_,H,I',h⟩) hf)
def sj:Pa:=fun vs σ H Q=>vs=[]/\Q σ H
def fj(t:TG)(u:Pa):Pa:=fun vs σ H Q=>∃v r,vs=v::r/\t v σ H fun σ' H'=>u r σ' H' Q
theorem b9:Th X [] sj:=by
 intro ae s σ H vs us Q I r h;obtain⟨e,h⟩:=h;subst e;cases r;exact assignInOrder_nil ⟨σ,H,I,h⟩
theorem aG(h1:PG X e t)(h2:Th X es u)(hs:(assignEach (e::es) X.env).map (·.2)=assign e X.env::(assignEach es X.env).map (·.2):=by rfl):Th X (e::es) (fj t u):=by
 intro ae s σ H vs us Q I r h;obtain⟨v,vr,e1,h⟩:=h;subst e1;cases r with
 |cons r rr=>
  rw[hs];refine assignInOrder_cons (dq (h1 ae s σ H _ _ _ I r h) fun _ s1 ⟨σ1,H1,I1,q1⟩=>?_);exact h2 ae s1 σ1 H1 _ _ Q I1 rr q1
def sn(K:PySem.W.Frag)(n:Nat)(t:Pa):TG:=fun v σ H Q=>∃a xs,v=.ref a/\c_ K H a xs/\xs.length=n/\t xs σ H Q
theorem dv(hc:X.calm=true)(h:Th X es t)(hn:(assignEach es X.env).length=n:=by rfl)(mQ:(assignEach es X.env).findIdx? (·.1)=none:=by rfl):PG X (.Tuple es k pos) (sn X.K n t):=by
 intro ae s σ H v u Q I r hw;obtain⟨a,xs,e1,hq,hl,hw⟩:=hw;subst e1;cases r;obtain⟨its,rv,ht,hz⟩:=I.tuple hq;refine assign_Tuple_tuple (I.ok.hd hc) ht (by simp[hn,<-hl,rv.length]) mQ fun h' hx=>?_;have I1:aO X ae σ H { s with heap:=h' }:=I.kept (t':=s.toks) fun b o e=>hx b o (aQ (aS e)) e;exact h ae _ σ H xs _ Q I1 (by simpa using rv) hw
def UG(to ti:TE)(t:Pb):TG:=fun v σ H Q=>to σ H fun o H1=>ti σ H1 fun i H2=>t o i v H2 fun H3=>Q σ H3
theorem hG(ho:PE X o to)(hi:PE X i ti)(hs:Pc X t)(ha:∀v,assign (.Subscript o i pos) X.env v=(do
   let ov <- holding [v] (eval o X.env)
   let iv <- holding [v,ov] (eval i X.env)
   standAt pos
   holding [v,ov,iv] (setItem ov iv v)
   release [v,ov,iv] []):=by intro _;rfl):PG X (.Subscript o i pos) (UG to ti t):=by
 intro ae s σ H v u Q I r h;rw[ha];refine aA (gy (dq (ho ae s σ H _ I h) fun ov s1 ⟨x,H1,I1,r1,q1⟩=>?_));refine aA (gy (dq (hi ae s1 σ H1 _ I1 q1) fun iv s2 ⟨y,H2,I2,r2,q2⟩=>?_));refine aA (nz (aA (gy (dq (hs ae s2 σ H2 x y v ov iv u _ I2 r1 r2 r q2) fun _ s3 ⟨H3,I3,q3⟩=>?_))));exact wpAny_release ⟨σ,H3,I3,q3⟩
def Lx(te:TE)(g:TG):TS:=fun D σ H=>te σ H fun x H1=>g x σ H1 D.nx
theorem dR(he:PE X e te)(hg:PG X tg g)(hs:swapsWithSole [tg] e pos.line X.env=pure false:=by rfl)(hw:swappedStores [tg] e X.env=pure none:=by rfl)(h1:(assignEach [tg] X.env).map (·.2)=[assign tg X.env]:=by rfl):PS X (.Assign [tg] e pos) (Lx te g):=by
 intro ae s σ H D I h;refine wpAny_Assign_stores (dq (he ae s σ H _ I h) fun v s1 ⟨x,H1,I1,r1,q1⟩=>?_) hs hw;rw[h1];exact dq (hg ae s1 σ H1 x v _ I1 r1 q1) fun _ s2 q=>q
theorem aU(hN:X.N.Nodup)(hi:X.N[i]?=some x)(hx:OY X.env.scope x)(he:PE X e te)(hs:swapsWith e (some (.Name x CU)) pos.line X.env=pure false:=by rfl)(hf:X.fn x=true\/X.env.scope.names.lookup x=some .local:=by first|exact .inl rfl|exact .inr rfl|assumption):
  PS X (.Assign [.Name x CU] e pos) (Lx te (bA i)):=by
 intro ae s σ H D I h;refine wpAny_Assign_Name (dq (he ae s σ H _ I h) fun v s1 ⟨y,H1,I1,r1,q1⟩=>?_) hs;exact jS I1 hN hi hx r1 (fun s2 I2=>⟨_,H1,I2,q1⟩) hf
def UH(i j:Nat)(ta:TA):TS:=fun D σ H=>ta σ H fun vs H1=>∃v w,vs=[v,w]/\D.nx ((σ.set i (some v)).set j (some w)) H1
theorem zI{kt k2 Ly}(hc:X.calm=true)(hN:X.N.Nodup)(hi:X.N[i]?=some x)(hj:X.N[j]?=some y)(tG:i≠j)(hx:X.env.scope.names.lookup x=some .local)(hy:X.env.scope.names.lookup y=some .local)(ha:PA X [a,b] ta)(hw:swappedStores [.Tuple [.Name x px,.Name y py] kt pt] (.Tuple [a,b] k2 Ly) X.env=pure (some [x,y]))(hs:swapsWithSole [.Tuple [.Name x px,.Name y py] kt pt] (.Tuple [a,b] k2 Ly) pos.line X.env=pure false:=by rfl):
  PS X (.Assign [.Tuple [.Name x px,.Name y py] kt pt] (.Tuple [a,b] k2 Ly) pos) (UH i j ta):=by
 intro ae s σ H D I h;rw[exec_Assign_arm];refine aA (nz ?_);rw[hs];refine aA (wpAny_pure ?_);rw[au (by decide)];refine aA (Tuple_ (dq (ha _ ae s σ H _ I h) fun us s1 ⟨vs,H1,I1,r1,q1⟩=>?_));obtain⟨v,w,e1,q1⟩:=q1;subst e1;obtain⟨u1,u2,rfl,rv,Bp⟩:∃u1 u2,us=[u1,u2]/\bz v u1/\bz w u2:=by
  cases r1 with
  |cons p q=>
   cases q with
   |cons p' q'=>
    cases q';exact⟨_,_,rfl,p,p'⟩
 refine uQ ?_ (by show 2<=sizeLine;decide);have I2:aO X ae σ H1 { s1 with heap:=s1.heap.push { cls:=.type "tuple",data:=.seq [u1,u2].toArray } }:=I1.kept (t':=s1.toks) fun b o e=>cB _ e;rw[hw];refine aA (wpAny_pure ?_);show wpAny (model X.prog X.w) X.A (do rule "assign.swapped-stores";let items <- unpackItems (.ref s1.heap.objs.size) 2 none;assignInOrder [fun v=>bindName X.env y v,fun v=>bindName X.env x v] items.reverse;pure Flow.next) _ _ _;refine aA (fN (aA (unpackItems_tuple (items:=#[u1,u2]) (I.ok.hd hc) (IsTup.new s1.heap _) fun h' o5=>?_)));have I3:=I2.kept (h':=h') (t':=s1.toks) fun b o e=>o5 b o (aQ (aS e)) e;show wpAny _ _ (assignInOrder [fun v=>bindName X.env y v,fun v=>bindName X.env x v] [u2,u1] >>= fun _=>pure Flow.next) _ _ _;refine aA (assignInOrder_cons (wpAny_bindName (jS I3 hN hj (.inl hy) Bp (fun s2 I4=>?_) (.inr hy))));refine assignInOrder_cons (wpAny_bindName (jS I4 hN hi (.inl hx) rv (fun s3 I5=>assignInOrder_nil (wpAny_pure ?_)) (.inr hx)));rw[List.set_comm _ _ (cZ tG)] at I5;exact⟨_,H1,I5,q1⟩
def UI(i:Nat)(te:TE)(ti:UF):TS:=fun D σ H=>∃x,σ[i]?=some (some x)/\te σ H fun y H1=>ti x y H1 fun z H2=>D.nx (σ.set i (some z)) H2
theorem Lz(hN:X.N.Nodup)(hi:X.N[i]?=some x)(hx:OY X.env.scope x)(he:PE X e te)(ho:YJ X op ti)(hf:X.fn x=true\/X.env.scope.names.lookup x=some .local:=by first|exact .inl rfl|exact .inr rfl|assumption):
  PS X (.AugAssign (.Name x CU) op e pos) (UI i te ti):=by
 intro ae s σ H D I h;obtain⟨v,e1,h⟩:=h;obtain⟨m,hn,hl⟩:=I.loc;have Pd:Op X.env.scope x:=by rcases hx with k|k;exact .inl k;exact .inr (.inl k)
 obtain⟨u,r,l⟩:=hl i x v hi e1 Pd;refine wpAny_AugAssign_Name ?_;have go:wpAny (model X.prog X.w) X.A (eval e X.env) (fun w s₂=>wpAny (model X.prog X.w) X.A (inplaceOp op u w) (fun r s₃=>wpAny (model X.prog X.w) X.A (storeName X.env x r) (fun _=>SP X ae D .next) X.xe s₃) X.xe s₂) X.xe s:=by
  refine dq (he ae s σ H _ I h) fun w s1 ⟨y,H1,I1,r1,q1⟩=>?_;refine dq (ho ae s1 σ H1 v y u w _ I1 r r1 q1) fun z s2 ⟨zv,H2,I2,r2,q2⟩=>?_;exact jS I2 hN hi hx r2 (fun s3 I3=>⟨_,H2,I3,q2⟩) hf
 rcases l with ⟨hk,hm⟩|⟨hk,c,hc,Bo⟩
 .exact zg I.ok.kind hk hn hm go
 .rcases hk with hk|hk
  .exact wpAny_loadName_cell I.ok.kind hk hc Bo go
  .rcases hx with k|k
   .have:X.env.scope.names.lookup x=some .free:=hk;rw[k] at this;cases this
   .have:X.env.scope.names.lookup x=some .free:=hk;rw[k] at this;cases this
def ipI(f:Int->Int->Int):UF:=fun x y H Q=>∃i j,x=.int i/\y=.int j/\Q (.int (f i j)) H
theorem LA:YJ X .Add (ipI fun i j=>i+j):=by
 intro ae s σ H x y v u Q I r1 r2 h;obtain⟨i,j,e1,e2,q⟩:=h;subst e1;subst e2;obtain⟨t,rfl⟩:=r1;obtain⟨t',rfl⟩:=r2;exact iadd_int ⟨.int _,H,I.tok _,⟨_,rfl⟩,q⟩
def ED(c:TT)(tb:TS):TS:=fun D σ H=>∃W:Nat->St->Hp->Prop,(∃m,W m σ H)/\∀m σ H,W m σ H->
 c σ H fun b H1=>if b=true then ∃N:St->Hp->Prop,(∀σ' H',N σ' H'->∃m',m'<m/\W m' σ' H')/\tb { D with nx:=N,ct:=N,bk:=D.nx } σ H1 else D.nx σ H1
theorem wJ(hp:PassesOwn (model X.prog X.w) X.A X.env X.xe)(hc:PT X c tc)(hb:zG X body tb):PS X (.While c body [] pos) (ED tc tb):=by
 intro ae s σ H D I h;obtain⟨W,⟨m0,w0⟩,EE⟩:=h;refine wpAny_While (codeAny_whileLoop (fun n s'=>∃σ' H',aO X ae σ' H' s'/\W n σ' H') ?_ m0 ⟨σ,H,I,w0⟩);rintro n s1 ⟨σ1,H1,I1,w1⟩;refine ln hp (dq (hc ae s1 σ1 H1 _ I1 (EE n σ1 H1 w1)) fun b s2 ⟨H2,I2,q2⟩=>?_);cases b with
 |true=>
  obtain⟨N,hN,q2⟩:=q2;rw[av rfl];refine ln hp (dq (hb ae s2 σ1 H2 _ I2 q2) fun f s3 q3=>?_);cases f with
  |next=>
   obtain⟨σ3,H3,I3,n3⟩:=q3;obtain⟨m',hm,w3⟩:=hN σ3 H3 n3;exact⟨m',hm,σ3,H3,I3,w3⟩
  |cont=>
   obtain⟨σ3,H3,I3,n3⟩:=q3;obtain⟨m',hm,w3⟩:=hN σ3 H3 n3;exact⟨m',hm,σ3,H3,I3,w3⟩
  |brk=>exact q3
  |ret v=>exact q3
 |false=>
  rw[au cr];exact uV ⟨σ1,H2,I2,q2⟩
end
structure It where
 go:Nat->Hp->Prop
 LB:Nat->Hp->V->Hp->Prop
 stop:Nat->Hp->Prop
def gG(X:Cx)(ae:List (Addr×Obj))(H:Hp)(b:Addr):Prop:=
 H b=none/\b≠X.env.locals/\b∉X.fs/\(b∈X.ex\/X.s₀.heap.objs.size<=b)/\(∀x c,X.env.cells.lookup x=some c->c≠b)/\∀p∈X.pn++ae,p.1≠b
theorem aO.wK(I:aO X ae σ H s)(hb:s.heap.objs.size<=b)(hn:H' b=none):gG X ae H' b:=by
 refine⟨hn,fG (bn I.lt hb),I.Ux hb,.inr (a8 I.sz hb),fun x c e z=>?_,fun p hp z=>?_⟩
 .obtain⟨v,q⟩:=I.cell x c e;exact absurd (bn q.lt (by rw[z];exact hb)) (gZ _)
 .exact absurd (bn (aS (I.pin p hp).1) (by rw[z];exact hb)) (gZ _)
structure wL(P:Program)(w:World)(K:PySem.W.Frag)(tg:Expr)(J:It)(fp:List Addr)(it:Addr)(tn:Nat->Heap->Prop):Prop where
 mem:it∈fp
 obj:∀i h,tn i h->∀b∈fp,∃o,h.get? b=some o/\∀v,o.data≠.cell v
 keep:∀i h h',tn i h->(∀b∈fp,∀o,h.get? b=some o->h'.get? b=some o)->tn i h'
 item:∀ (X:Cx),X.prog=P->X.w=w->X.K=K->X.calm=true->∀ (i:Nat) (ae:List (Addr×Obj)) (s:Shared) (σ:St) (H:Hp) (E:Value->Shared->Prop),aO X ae σ H s->(∀b∈fp,gG X ae H b)->tn i s.heap->J.go i H->
  wpAny (model P w) X.A (pyNext (.ref it)) (fun r s1=>∃u,r=some u/\
   wpAny (model P w) X.A (letOwnedTupleGo tg (.ref it) u) (fun _ s2=>∃x H',aO X ae σ H' s2/\bz x u/\J.LB i H x H'/\tn (i+1) s2.heap/\∀b∈fp,H' b=none) E s1) E s
 done:∀ (X:Cx),X.prog=P->X.w=w->X.K=K->X.calm=true->∀ (i:Nat) (ae:List (Addr×Obj)) (s:Shared) (σ:St) (H:Hp) (E:Value->Shared->Prop),aO X ae σ H s->(∀b∈fp,gG X ae H b)->tn i s.heap->J.stop i H->
  wpAny (model P w) X.A (pyNext (.ref it)) (fun r s1=>r=none/\aO X ae σ H s1) E s
 self:∀ (A:Around) (i:Nat) (s:Shared) (Q:Value->Shared->Prop) (E:Value->Shared->Prop),tn i s.heap->Q (.ref it) s->wpAny (model P w) A (pyIter (.ref it)) Q E s
abbrev TI:=St->Hp->(It->Hp->Prop)->Prop
def YK(X:Cx)(ae:List (Addr×Obj))(σ:St)(tg:Expr)(R:It->Hp->Prop)(Ti:Value)(s2:Shared):Prop:=
 ∃ (it:Addr) (fp:List Addr) (tn:Nat->Heap->Prop) (J:It) (H':Hp),Ti=.ref it/\aO X ae σ H' s2/\wL X.prog X.w X.K tg J fp it tn/\tn 0 s2.heap/\(∀b∈fp,gG X ae H' b)/\R J H'
def PI(X:Cx)(tg jz:Expr)(wi:TI):Prop:=
 ∀ (ae:List (Addr×Obj)) (s:Shared) (σ:St) (H:Hp) (R:It->Hp->Prop),aO X ae σ H s->wi σ H R->
  wpAny (model X.prog X.w) X.A (eval jz X.env) (fun v s1=>wpAny (model X.prog X.w) X.A (pyIter v) (YK X ae σ tg R) X.xe s1) X.xe s
theorem EF(ho:s.heap.get? it=some o)(hc:o.cls=.type n)(hd:o.data=.fields vs)(hn:["enumerate","zip","dict_itemiterator","dict_reverseitemiterator","odict_iterator","itertools.zip_longest","itertools.pairwise"].contains n=false)(hQ:Q () s):wpAny M A (letOwnedTupleGo tg (.ref it) u) Q E s:=by
 unfold letOwnedTupleGo;cases tg <;> first
  |exact wpAny_pure hQ
  |(cases u <;> first
    |exact wpAny_pure hQ
    |(refine aA (wpAny_load ho ?_);rw[hc,hd];show wpAny M A (if (["enumerate","zip","dict_itemiterator","dict_reverseitemiterator","odict_iterator","itertools.zip_longest","itertools.pairwise"].contains n&&vs[0]?==some (rawInt _))=true then _ else _) Q E s;rw[au (by intro h;rw[hn,Bool.false_and] at h;cases h)];exact wpAny_pure hQ))
def EG(K:PySem.W.Frag)(a:Addr):It:=
 ⟨fun i H=>∃xs x,aZ K H a xs/\xs[i]?=some x,fun i H x H'=>H'=H/\∀xs,aZ K H a xs->xs[i]?=some x,fun i H=>∃xs,aZ K H a xs/\xs.length<=i⟩
def UJ(K:PySem.W.Frag)(a:Addr):It:=
 ⟨fun i H=>∃xs x,c_ K H a xs/\xs[i]?=some x,fun i H x H'=>H'=H/\∀xs,c_ K H a xs->xs[i]?=some x,fun i H=>∃xs,c_ K H a xs/\xs.length<=i⟩
def Eb(lo:Int)(n:Nat):It:=⟨fun i _=>i<n,fun i H x H'=>H'=H/\x=.int (lo+i),fun i _=>n<=i⟩
theorem CV{P:Program}{w:World}{K:PySem.W.Frag}{tg:Expr}(a it:Addr):wL P w K tg (EG K a) [it] it (fun i h=>h.IsListIter it a i) where
 mem:=by simp
 obj:=fun i h st b hb=>by
  have e:b=it:=by simpa using hb
  subst e;obtain⟨o,e,c,d⟩:=st;exact⟨o,e,fun v z=>by rw[d] at z;cases z⟩
 keep:=fun i h h' st k=>st.at fun o e=>k it (by simp) o e
 item:=by
  intro X hP hw hK hc i ae s σ H E I hf st hg;subst hP hw hK;obtain⟨xs,x,hq,hx⟩:=hg;obtain⟨its,rv,p,hz⟩:=I.list hq;obtain⟨u,hu,ru⟩:=rv.get hx;obtain⟨f0,f1,f2,f3,f4,f5⟩:=hf it (by simp);refine yW st p.isList (x:=u) (by simpa using hu) fun h' aD sb=>?_;have I1:aO X ae σ H { s with heap:=h' }:=I.turned (t':=s.toks) (fun b o hb e=>(sb.2 b hb).trans e) f0 f1 f3 f4 f5;obtain⟨o,e,c,d⟩:=id aD;exact⟨u,rfl,EF (s:={ s with heap:=h' }) e c d (by decide) ⟨x,H,I1,ru,⟨rfl,fun ys hy=>by rw[I.wI hy hq];exact hx⟩,aD,fun b hb=>(hf b hb).1⟩⟩
 done:=by
  intro X hP hw hK hc i ae s σ H E I hf st hg;subst hP hw hK;obtain⟨xs,hq,hx⟩:=hg;obtain⟨its,rv,p,hz⟩:=I.list hq;obtain⟨f0,f1,f2,f3,f4,f5⟩:=hf it (by simp);have hl:=rv.length;exact y_ (I.ok.hd hc) st p.isList (by simp;lia) fun h' eb=>⟨rfl,I.turned (t':=s.toks) (fun b o hb e=>eb b o hb e) f0 f1 f3 f4 f5⟩
 self:=fun _ _ _ _ _ st h=>wpAny_pyIter_listiter st h
theorem zJ{P:Program}{w:World}{K:PySem.W.Frag}{tg:Expr}(a it:Addr):wL P w K tg (UJ K a) [it] it (fun i h=>h.IsTupleIter it a i) where
 mem:=by simp
 obj:=fun i h st b hb=>by
  have e:b=it:=by simpa using hb
  subst e;obtain⟨o,e,c,d⟩:=st;exact⟨o,e,fun v z=>by rw[d] at z;cases z⟩
 keep:=fun i h h' st k=>st.at fun o e=>k it (by simp) o e
 item:=by
  intro X hP hw hK hc i ae s σ H E I hf st hg;subst hP hw hK;obtain⟨xs,x,hq,hx⟩:=hg;obtain⟨its,rv,p,hz⟩:=I.tuple hq;obtain⟨u,hu,ru⟩:=rv.get hx;obtain⟨f0,f1,f2,f3,f4,f5⟩:=hf it (by simp);refine wpAny_pyNext_tuple_item st (show s.heap.IsTuple a its.toArray from p) (x:=u) (by simpa using hu) fun h' aD sb=>?_;have I1:aO X ae σ H { s with heap:=h' }:=I.turned (t':=s.toks) (fun b o hb e=>(sb.2 b hb).trans e) f0 f1 f3 f4 f5;obtain⟨o,e,c,d⟩:=id aD;exact⟨u,rfl,EF (s:={ s with heap:=h' }) e c d (by decide) ⟨x,H,I1,ru,⟨rfl,fun ys hy=>by rw[I.iS hy hq];exact hx⟩,aD,fun b hb=>(hf b hb).1⟩⟩
 done:=by
  intro X hP hw hK hc i ae s σ H E I hf st hg;subst hP hw hK;obtain⟨xs,hq,hx⟩:=hg;obtain⟨its,rv,p,hz⟩:=I.tuple hq;obtain⟨f0,f1,f2,f3,f4,f5⟩:=hf it (by simp);have hl:=rv.length;exact wpAny_pyNext_tuple_end (I.ok.hd hc) st (show s.heap.IsTuple a its.toArray from p) (by simp;lia) fun h' eb=>⟨rfl,I.turned (t':=s.toks) (fun b o hb e=>eb b o hb e) f0 f1 f3 f4 f5⟩
 self:=fun _ _ _ _ _ st h=>wpAny_pyIter_tupleiter st h
theorem zK{P:Program}{w:World}{K:PySem.W.Frag}{tg:Expr}(it:Addr)(lo:Int)(n:Nat):wL P w K tg (Eb lo n) [it] it (fun i h=>IsRangeIter h it (lo+(i:Nat)*1) ((n:Int)-(i:Nat)) 1) where
 mem:=by simp
 obj:=fun i h st b hb=>by
  have e:b=it:=by simpa using hb
  subst e;exact⟨_,st,fun v z=>by
   have z':Data.fields _=Data.cell v:=z;cases z'⟩
 keep:=fun i h h' st k=>k it (by simp) _ st
 item:=by
  intro X hP hw hK hc i ae s σ H E I hf st hg;subst hP hw hK;obtain⟨f0,f1,f2,f3,f4,f5⟩:=hf it (by simp);have W:=Walks.range (prog:=X.prog) (w:=X.w) (I.ok.hd hc) it lo 1 n;refine W.item i s _ _ hg st fun v h' tk hv aD kk=>?_;obtain⟨t,rfl⟩:=hv;have I1:aO X ae σ H { s with heap:=h',toks:=tk }:=I.turned (fun b o hb e=>kk b o (by simpa using hb) e) f0 f1 f3 f4 f5;refine⟨_,rfl,EF (s:={ s with heap:=h',toks:=tk }) (n:="range_iterator") aD rfl rfl (by decide) ⟨.int (lo+i),H,I1,⟨t,?_⟩,⟨rfl,rfl⟩,aD,fun b hb=>(hf b hb).1⟩⟩;rw[Int.mul_one]
 done:=by
  intro X hP hw hK hc i ae s σ H E I hf st hg;subst hP hw hK;obtain⟨f0,f1,f2,f3,f4,f5⟩:=hf it (by simp);exact wpAny_pyNext_range_end (I.ok.hd hc) st (by have:n<=i:=hg;lia) fun h' eb=>⟨rfl,I.turned (t':=s.toks) (fun b o hb e=>eb b o hb e) f0 f1 f3 f4 f5⟩
 self:=fun _ _ _ _ _ st h=>wpAny_pyIter_rangeiter st h
section
variable {X:Cx} {tg:Expr}
def Kh(K:PySem.W.Frag)(tl:TE):TI:=fun σ H R=>tl σ H fun x H1=>∃a,x=.ref a/\(∃xs,aZ K H1 a xs)/\R (EG K a) H1
def UK(K:PySem.W.Frag)(tl:TE):TI:=fun σ H R=>tl σ H fun x H1=>∃a,x=.ref a/\(∃xs,c_ K H1 a xs)/\R (UJ K a) H1
theorem cw{l:Expr}{tl:TE}(hl:PE X l tl):PI X tg l (Kh X.K tl):=by
 intro ae s σ H R I h;refine dq (hl ae s σ H _ I h) fun v s1 ⟨x,H1,I1,r1,q1⟩=>?_;obtain⟨a,e,⟨xs,hq⟩,q⟩:=q1;subst e;cases r1;obtain⟨its,rv,p,hz⟩:=I1.list hq;refine qp p.isList ?_;refine⟨s1.heap.objs.size,[s1.heap.objs.size],_,_,H1,rfl,I1.kept (t':=s1.toks) fun b o e=>cB _ e,CV a _,⟨_,cX _ rfl,rfl,rfl⟩,fun b hb=>?_,q⟩;have e:b=s1.heap.objs.size:=by simpa using hb
 subst e;exact I1.wK (aN _) (I1.bZ.fresh (aN _))
theorem LC{l:Expr}{tl:TE}(hl:PE X l tl):PI X tg l (UK X.K tl):=by
 intro ae s σ H R I h;refine dq (hl ae s σ H _ I h) fun v s1 ⟨x,H1,I1,r1,q1⟩=>?_;obtain⟨a,e,⟨xs,hq⟩,q⟩:=q1;subst e;cases r1;obtain⟨its,rv,p,hz⟩:=I1.tuple hq;refine zx (show s1.heap.IsTuple a its.toArray from p) ?_;refine⟨s1.heap.objs.size,[s1.heap.objs.size],_,_,H1,rfl,I1.kept (t':=s1.toks) fun b o e=>cB _ e,zJ a _,⟨_,cX _ rfl,rfl,rfl⟩,fun b hb=>?_,q⟩;have e:b=s1.heap.objs.size:=by simpa using hb
 subst e;exact I1.wK (aN _) (I1.bZ.fresh (aN _))
theorem wM{ae:List (Addr×Obj)}{σ:St}{H:Hp}{s:Shared}{R:It->Hp->Prop}{E:Value->Shared->Prop}{lo hi:Int}{t u v:Tok}{tk:Nat}(I:aO X ae σ H s)(h1:-(2 ^ 62)<=lo)(h2:lo<2 ^ 62)(h3:-(2 ^ 62)<=hi)(h4:hi<2 ^ 62)(q:R (Eb lo (hi-lo).toNat) H):wpAny (model X.prog X.w) X.A (pyIter (.ref s.heap.objs.size)) (YK X ae σ tg R) E { s with heap:=s.heap.push { cls:=.type "range",data:=.fields #[.int lo t,.int hi u,.int 1 v] },toks:=tk }:=by
 refine wpAny_pyIter_range (IsRange.new ..) (small_one h1 h2 h3 h4) ?_;have I1:aO X ae σ H { s with heap:=s.heap.push { cls:=.type "range",data:=.fields #[.int lo t,.int hi u,.int 1 v] },toks:=tk }:=I.kept fun b o e=>cB _ e;refine⟨(s.heap.push { cls:=.type "range",data:=.fields #[.int lo t,.int hi u,.int 1 v] }).objs.size,[(s.heap.push { cls:=.type "range",data:=.fields #[.int lo t,.int hi u,.int 1 v] }).objs.size],_,_,H,rfl,
  I1.kept (t':=tk) fun b o e=>cB _ e,zK _ lo (hi-lo).toNat,?_,fun b hb=>?_,q⟩
 .have e1:lo+((0:Nat):Int)*1=lo:=by simp
  have e2:(((hi-lo).toNat:Nat):Int)-((0:Nat):Int)=Builtin.Range.rangeSize lo hi 1:=by rw[rangeSize_one];split <;> lia
  show IsRangeIter _ _ (lo+((0:Nat):Int)*1) ((((hi-lo).toNat:Nat):Int)-((0:Nat):Int)) 1;rw[e1,e2];exact cX _ rfl
 .have e:b=(s.heap.push { cls:=.type "range",data:=.fields #[.int lo t,.int hi u,.int 1 v] }).objs.size:=by simpa using hb
  subst e;exact I1.wK (aN _) (I1.bZ.fresh (aN _))
def Pf(ta:TA):TI:=fun σ H R=>ta σ H fun vs H1=>∃j:Int,vs=[.int j]/\-(2 ^ 62)<=j/\j<2 ^ 62/\R (Eb 0 j.toNat) H1
def Pg(ta:TA):TI:=fun σ H R=>ta σ H fun vs H1=>∃i j:Int,vs=[.int i,.int j]/\(-(2 ^ 62)<=i/\i<2 ^ 62/\-(2 ^ 62)<=j/\j<2 ^ 62)/\R (Eb i (j-i).toNat) H1
theorem bv{a:Expr}{ta:TA}{p pos:Pos}(hg:Gl X "range")(hm:X.mg "range"=none)(ha:PA X [a] ta)(hs:starEach [a] X.env=[(false,eval a X.env)]:=by rfl):PI X tg (.Call (.Name "range" p) [a] [] pos) (Pf ta):=by
 intro ae s σ H R I h;refine Call_ (iE I hg hm boot_range (tm (dq (ha pos ae s σ H _ I h) fun us s1 ⟨vs,H1,I1,r1,q1⟩=>?_) hs rfl));obtain⟨j,e,q1,q2,q⟩:=q1;subst e;cases r1 with
 |cons r rr=>
  cases rr;obtain⟨t,rfl⟩:=r;exact call_range_1 (wM I1 (by lia) (by lia) q1 q2 (by simpa using q))
theorem nI(hg:Gl X "range")(hm:X.mg "range"=none)(ha:PA X [a,b] ta)(hs:starEach [a,b] X.env=[(false,eval a X.env),(false,eval b X.env)]:=by rfl)(lB:starEach [b] X.env=[(false,eval b X.env)]:=by rfl):
  PI X tg (.Call (.Name "range" p) [a,b] [] pos) (Pg ta):=by
 intro ae s σ H R I h;refine Call_ (iE I hg hm boot_range (tm (dq (ha pos ae s σ H _ I h) fun us s1 ⟨vs,H1,I1,r1,q1⟩=>?_) (by rw[hs,lB]) (by rw[lB];rfl)));obtain⟨i,j,e,⟨q1,q2,q3,q4⟩,q⟩:=q1;subst e;cases r1 with
 |cons r rr=>
  cases rr with
  |cons r' rr=>
   cases rr;obtain⟨t,rfl⟩:=r;obtain⟨t',rfl⟩:=r';exact call_range_2 (wM I1 q1 q2 q3 q4 q)
def UL(wi:TI)(g:TG)(tb:TS):TS:=fun D σ H=>wi σ H fun J H1=>∃W:Nat->Nat->St->Hp->Prop,(∃m,W 0 m σ H1)/\∀i m σ H,W i m σ H->
 (J.stop i H/\D.nx σ H)\/(J.go i H/\∃N:St->Hp->Prop,(∀σ' H',N σ' H'->∃m',m'<m/\W (i+1) m' σ' H')/\∀x H',J.LB i H x H'->g x σ H' fun σ2 H2=>tb { D with nx:=N,ct:=N,bk:=D.nx } σ2 H2)
def qI(fp:List Addr)(h:Heap):List (Addr×Obj):=fp.filterMap fun b=>(h.get? b).map fun o=>(b,o)
theorem jg(hb:b∈fp)(e:h.get? b=some o):(b,o)∈qI fp h:=m7.mpr ⟨b,hb,by rw[e];rfl⟩
theorem CW(hp:p∈qI fp h):p.1∈fp/\h.get? p.1=some p.2:=by
 obtain⟨b,hb,e⟩:=m7.mp hp;cases q:h.get? b with
 |none=>rw[q] at e;cases e
 |some o=>
  rw[q] at e;have e':(b,o)=p:=bN e;subst e';exact⟨hb,q⟩
theorem aO.pinned(I:aO X ae σ H s)(hf:∀b∈fp,gG X ae H b)(ho:∀b∈fp,∃o,s.heap.get? b=some o/\∀v,o.data≠.cell v):aO X (ae++qI fp s.heap) σ H s:=
 I.l0 fun p hp=>(bO.mp hp).elim (fun z=>I.pin p (dU _ z)) fun z=>by
  obtain⟨hb,e⟩:=CW z;obtain⟨f0,f1,f2,_⟩:=hf p.1 hb;obtain⟨o,e',d⟩:=ho p.1 hb;rw[e] at e';cases e';exact⟨e,f0,f1,f2,d⟩
theorem aO.l3(I:aO X (ae++pl) σ H s):aO X ae σ H s:=I.l0 fun p hp=>I.pin p (dU _ (fY _ hp))
theorem dC(hp:PassesOwn (model X.prog X.w) X.A X.env X.xe)(hc:X.calm=true)(hi:PI X tg jz wi)(hg:PG X tg g)(hb:zG X body tb)(hs:∀x,foldedSetIterable jz X.env x=pure x:=by intro _;rfl):PS X (.For tg jz body [] pos) (UL wi g tb):=by
 intro ae s σ H D I h;refine wpAny_For (dq (hi ae s σ H _ I h) fun v s1 h1=>dq h1 fun Ti s2 h2=>?_) hs;obtain⟨it,fp,tn,J,H2,e,I2,T,e8,f2,W,⟨m0,w0⟩,EE⟩:=h2;subst e;have zL:∀ {H':Hp},(∀b∈fp,H' b=none)->∀b∈fp,gG X ae H' b:=fun hn b hb=>⟨hn b hb,(f2 b hb).2⟩
 refine codeAny_forLoop_any (fun n s'=>∃i σ' H',aO X ae σ' H' s'/\tn i s'.heap/\(∀b∈fp,H' b=none)/\W i n σ' H') ?_ m0 ⟨0,σ,H2,I2,e8,fun b hb=>(f2 b hb).1,w0⟩;rintro n s3 ⟨i,σ3,H3,I3,gI,Hq,w3⟩;rcases EE i n σ3 H3 w3 with ⟨stop,qn⟩|⟨go,N,hN,step⟩
 .refine ln hp (dq (T.done X rfl rfl rfl hc i ae s3 σ3 H3 X.xe I3 (zL Hq) gI stop) fun r s4 ⟨hr,I4⟩=>?_);subst hr;exact uV ⟨σ3,H3,I4,qn⟩
 .refine ln hp (dq (T.item X rfl rfl rfl hc i ae s3 σ3 H3 X.xe I3 (zL Hq) gI go) fun r s4 ⟨u,hr,h4⟩=>?_);subst hr;refine ln hp (dq h4 fun _ s5 ⟨x,H5,I5,r5,y5,Bq,LD⟩=>?_);have UM:=I5.pinned (zL LD) (T.obj _ _ Bq);refine ln hp (dq (hg _ s5 σ3 H5 x u _ UM r5 (step x H5 y5)) fun _ s6 ⟨σ6,H6,I6,q6⟩=>?_);refine ln hp (dq (hb _ s6 σ6 H6 _ I6 q6) fun f s7 q7=>?_);have again:∀ {σ7:St} {H7:Hp},aO X (ae++qI fp s5.heap) σ7 H7 s7->N σ7 H7->∃m,m<n/\∃i σ' H',aO X ae σ' H' s7/\tn i s7.heap/\(∀b∈fp,H' b=none)/\W i m σ' H':=fun {σ7 H7} I7 n7=>by
   obtain⟨m',hm,w7⟩:=hN σ7 H7 n7;refine⟨m',hm,i+1,σ7,H7,I7.l3,T.keep _ _ _ Bq fun b hb o e=>(I7.pin (b,o) (dU _ (dU _ (jg hb e)))).1,fun b hb=>?_,w7⟩;obtain⟨o,e,d⟩:=T.obj _ _ Bq b hb;exact(I7.pin (b,o) (dU _ (dU _ (jg hb e)))).2.1
  cases f with
  |next=>obtain⟨σ7,H7,I7,n7⟩:=q7;exact again I7 n7
  |cont=>obtain⟨σ7,H7,I7,n7⟩:=q7;exact again I7 n7
  |brk=>obtain⟨σ7,H7,I7,q7⟩:=q7;exact⟨σ7,H7,I7.l3,q7⟩
  |ret v=>obtain⟨x7,σ7,H7,I7,r7,q7⟩:=q7;exact⟨x7,σ7,H7,I7.l3,r7,q7⟩
end
theorem iT{K:PySem.W.Frag}{a:Addr}{xs:List V}{g:TG}{tb:TS}{D:wG}{σ:St}{H:Hp}(Pv:Nat->St->Hp->Prop)(h0:Pv 0 σ H)(hl:∀i σ H,i<=xs.length->Pv i σ H->aZ K H a xs)(hs:∀i x σ H,xs[i]?=some x->Pv i σ H->g x σ H fun σ2 H2=>tb { D with nx:=Pv (i+1),ct:=Pv (i+1),bk:=D.nx } σ2 H2)(hd:∀σ H,Pv xs.length σ H->D.nx σ H):
  ∃W:Nat->Nat->St->Hp->Prop,(∃m,W 0 m σ H)/\∀i m σ H,W i m σ H->
   ((EG K a).stop i H/\D.nx σ H)\/((EG K a).go i H/\∃N:St->Hp->Prop,(∀σ' H',N σ' H'->∃m',m'<m/\W (i+1) m' σ' H')/\∀x H',(EG K a).LB i H x H'->g x σ H' fun σ2 H2=>tb { D with nx:=N,ct:=N,bk:=D.nx } σ2 H2):=by
 refine⟨fun i m σ H=>m=xs.length-i/\i<=xs.length/\Pv i σ H,⟨xs.length,by simp,bT _,h0⟩,?_⟩;rintro i m σ H ⟨rfl,hi,p⟩;have q:=hl i σ H hi p;by_cases dG:i<xs.length
 .refine .inr ⟨⟨xs,xs[i],q,by simp[dG]⟩,Pv (i+1),fun σ' H' p'=>⟨xs.length-(i+1),by lia,rfl,dG,p'⟩,fun x H' y=>?_⟩;obtain⟨e,y⟩:=y;subst e;exact hs i x σ _ (y xs q) p
 .have e:i=xs.length:=by lia
  subst e;exact .inl ⟨⟨xs,q,aN _⟩,hd σ H p⟩
theorem dh{lo:Int}{n:Nat}{g:TG}{tb:TS}{D:wG}{σ:St}{H:Hp}(Pv:Nat->St->Hp->Prop)(h0:Pv 0 σ H)(hs:∀i σ H,i<n->Pv i σ H->g (.int (lo+i)) σ H fun σ2 H2=>tb { D with nx:=Pv (i+1),ct:=Pv (i+1),bk:=D.nx } σ2 H2)(hd:∀σ H,Pv n σ H->D.nx σ H):
  ∃W:Nat->Nat->St->Hp->Prop,(∃m,W 0 m σ H)/\∀i m σ H,W i m σ H->
   ((Eb lo n).stop i H/\D.nx σ H)\/((Eb lo n).go i H/\∃N:St->Hp->Prop,(∀σ' H',N σ' H'->∃m',m'<m/\W (i+1) m' σ' H')/\∀x H',(Eb lo n).LB i H x H'->g x σ H' fun σ2 H2=>tb { D with nx:=N,ct:=N,bk:=D.nx } σ2 H2):=by
 refine⟨fun i m σ H=>m=n-i/\i<=n/\Pv i σ H,⟨n,by simp,bT _,h0⟩,?_⟩;rintro i m σ H ⟨rfl,hi,p⟩;by_cases dG:i<n
 .refine .inr ⟨dG,Pv (i+1),fun σ' H' p'=>⟨n-(i+1),by lia,rfl,dG,p'⟩,fun x H' y=>?_⟩;obtain⟨e,y⟩:=y;subst e y;exact hs i σ _ dG p
 .have e:i=n:=by lia
  subst e;exact .inl ⟨aN _,hd σ H p⟩
theorem wN(Pv:St->Hp->Prop)(μ:St->Hp->Nat)(h0:Pv σ H)(hs:∀σ H,Pv σ H->c σ H fun b H1=>if b=true then tb { D with nx:=fun σ' H'=>Pv σ' H'/\μ σ' H'<μ σ H,ct:=fun σ' H'=>Pv σ' H'/\μ σ' H'<μ σ H,bk:=D.nx } σ H1 else D.nx σ H1)(mono:∀σ H Q Q',(∀b H1,Q b H1->Q' b H1)->c σ H Q->c σ H Q'):ED c tb D σ H:=by
 refine⟨fun m σ H=>m=μ σ H/\Pv σ H,⟨_,rfl,h0⟩,?_⟩;rintro m σ H ⟨rfl,p⟩;refine mono σ H _ _ (fun b H1 q=>?_) (hs σ H p);cases b with
 |true=>exact⟨_,fun σ' H' ⟨p',l⟩=>⟨_,l,rfl,p'⟩,q⟩
 |false=>exact q
abbrev R2:=V->V->Hp->VK->Prop
def l4(X:Cx)(f:Value->Value->Sem Value)(r:R2):Prop:=
 ∀ (ae:List (Addr×Obj)) (s:Shared) (σ:St) (H:Hp) (x y:V) (v u:Value) (Q:VK),aO X ae σ H s->bz x v->bz y u->r x y H Q->
  wpAny (model X.prog X.w) X.A (f v u) (EP X ae σ Q) X.xe s
def UN(X:Cx)(f:Value->Sem Value)(r:V->Hp->VK->Prop):Prop:=
 ∀ (ae:List (Addr×Obj)) (s:Shared) (σ:St) (H:Hp) (x:V) (v:Value) (Q:VK),aO X ae σ H s->bz x v->r x H Q->
  wpAny (model X.prog X.w) X.A (f v) (EP X ae σ Q) X.xe s
def eK(X:Cx)(f:Value)(r:List V->Hp->VK->Prop):Prop:=
 ∀ (ae:List (Addr×Obj)) (s:Shared) (σ:St) (H:Hp) (xs:List V) (us:List Value) (Q:VK),aO X ae σ H s->aT xs us->r xs H Q->
  wpAny (model X.prog X.w) X.A (call f us) (EP X ae σ Q) X.xe s
def l6(r:R2)(ta tb:TE):TE:=fun σ H Q=>ta σ H fun x H1=>tb σ H1 fun y H2=>r x y H2 Q
def YL(r:V->Hp->VK->Prop)(ta:TE):TE:=fun σ H Q=>ta σ H fun x H1=>r x H1 Q
def rI(C:Int->Int->Prop)(g:Int->Int->V):R2:=fun x y H Q=>∃i j,x=.int i/\y=.int j/\C i j/\Q (g i j) H
def zM(g:Int->Int->V):R2:=fun x y H Q=>∃i j,x=.int i/\y=.int j/\Q (g i j) H
def rU(g:Int->V):V->Hp->VK->Prop:=fun x H Q=>∃i,x=.int i/\Q (g i) H
section
variable {X:Cx} {a b c:Expr} {ta tb tc:TE} {pos:Pos}
theorem LG(ha:PE X a ta)(hb:PE X b tb){ae:List (Addr×Obj)}{s:Shared}{σ:St}{H:Hp}{R:V->V->Hp->Prop}(I:aO X ae σ H s)(h:ta σ H fun x H1=>tb σ H1 fun y H2=>R x y H2){Q:Value->Shared->Prop}{f:Value->Value->Sem Value}(hf:∀v u s2 x y H2,aO X ae σ H2 s2->bz x v->bz y u->R x y H2->wpAny (model X.prog X.w) X.A (f v u) Q X.xe s2):
  wpAny (model X.prog X.w) X.A (eval a X.env) (fun v s₁=>wpAny (model X.prog X.w) X.A (eval b X.env) (fun u s₂=>wpAny (model X.prog X.w) X.A (f v u) Q X.xe s₂) X.xe s₁) X.xe s:=by
 refine dq (ha ae s σ H _ I h) fun v s1 ⟨x,H1,I1,r1,q1⟩=>?_;refine dq (hb ae s1 σ H1 _ I1 q1) fun u s2 ⟨y,H2,I2,r2,q2⟩=>?_;exact hf v u s2 x y H2 I2 r1 r2 q2
theorem aV{op:Operator}{r:R2}(ho:l4 X (binaryOp op) r)(ha:PE X a ta)(hb:PE X b tb):PE X (.BinOp a op b pos) (l6 r ta tb):=by
 intro ae s σ H Q I h;exact wpAny_BinOp (LG ha hb I h fun v u s2 x y H2 I2 rx ry q=>ho ae s2 σ H2 x y v u Q I2 rx ry q)
theorem wO(ho:UN X (unaryOp op) r)(ha:PE X a ta):PE X (.UnaryOp op a pos) (YL r ta):=by
 intro ae s σ H Q I h;exact UnaryOp_ (dq (ha ae s σ H _ I h) fun v s1 ⟨x,H1,I1,r1,q1⟩=>ho ae s1 σ H1 x v Q I1 r1 q1)
theorem Ph{f:Value->Value->Sem Value}{C:Int->Int->Prop}{g:Int->Int->Int}(rule:∀ (i j:Int) (t u:Tok) (s:Shared) (Q:Value->Shared->Prop) (E:Value->Shared->Prop),C i j->Q (.int (g i j) s.toks) { s with toks:=s.toks+1 }->wpAny (model X.prog X.w) X.A (f (.int i t) (.int j u)) Q E s):
  l4 X f (rI C fun i j=>.int (g i j)):=by
 intro ae s σ H x y v u Q I rx ry h;obtain⟨i,j,rfl,rfl,hc,q⟩:=h;obtain⟨t,rfl⟩:=rx;obtain⟨t',rfl⟩:=ry;exact rule i j t t' s _ _ hc ⟨.int (g i j),H,I.tok _,⟨_,rfl⟩,q⟩
theorem Pk{f:Value->Value->Sem Value}{g:Int->Int->Int}(rule:∀ (i j:Int) (t u:Tok) (s:Shared) (Q:Value->Shared->Prop) (E:Value->Shared->Prop),Q (.int (g i j) s.toks) { s with toks:=s.toks+1 }->wpAny (model X.prog X.w) X.A (f (.int i t) (.int j u)) Q E s):
  l4 X f (zM fun i j=>.int (g i j)):=by
 intro ae s σ H x y v u Q I rx ry h;obtain⟨i,j,rfl,rfl,q⟩:=h;obtain⟨t,rfl⟩:=rx;obtain⟨t',rfl⟩:=ry;exact rule i j t t' s _ _ ⟨.int (g i j),H,I.tok _,⟨_,rfl⟩,q⟩
theorem HK{f:Value->Value->Sem Value}{g:Int->Int->Bool}(rule:∀ (i j:Int) (t u:Tok) (s:Shared) (Q:Value->Shared->Prop) (E:Value->Shared->Prop),Q (.bool (g i j)) s->wpAny (model X.prog X.w) X.A (f (.int i t) (.int j u)) Q E s):
  l4 X f (zM fun i j=>.bl (g i j)):=by
 intro ae s σ H x y v u Q I rx ry h;obtain⟨i,j,rfl,rfl,q⟩:=h;obtain⟨t,rfl⟩:=rx;obtain⟨t',rfl⟩:=ry;exact rule i j t t' s _ _ ⟨.bl (g i j),H,I,rfl,q⟩
def Pl(i j:Int):Prop:=0<j/\j<1073741824
def UO(i j:Int):Prop:=0<=j/\j<=1000000/\i.natAbs<2 ^ 64
def HL(i j:Int):Prop:=(-(2 ^ 64)<i/\i<2 ^ 64)\/(-(2 ^ 64)<j/\j<2 ^ 64)
theorem HL.ok(h:HL i j):IntMulOk i j:=by
 rcases h with ⟨h1,h2⟩|⟨h1,h2⟩
 .exact .of_left (intBits_le_64 h1 h2)
 .exact .of_right (intBits_le_64 h1 h2)
theorem cE:l4 X (binaryOp .Add) (zM fun i j=>.int (i+j)):=Pk fun _ _ _ _ _ _ _ q=>add_int q
theorem jh:l4 X (binaryOp .Sub) (zM fun i j=>.int (i-j)):=Pk fun _ _ _ _ _ _ _ q=>sub_int q
theorem jW:l4 X (binaryOp .Mult) (rI HL fun i j=>.int (i*j)):=Ph fun _ _ _ _ _ _ _ hc q=>mul_int q hc.ok
theorem pM:l4 X (binaryOp .FloorDiv) (rI Pl fun i j=>.int (i / j)):=Ph fun i j _ _ _ _ _ hc q=>by
 have h1:(0:Int)<j:=hc.1;have h2:j<1073741824:=hc.2;exact floordiv_int (by lia) (by rw[yG i (by lia)];exact q) (.inl (PyProof.noPylong_small (by lia)))
theorem hJ:l4 X (binaryOp .Mod) (rI (fun _ j=>0<j) fun i j=>.int (i % j)):=Ph fun i j _ _ _ _ _ hc q=>by
 have h1:(0:Int)<j:=hc;exact mod_int' (by lia) (by rw[yF i (by lia)];exact q)
theorem zN:l4 X (binaryOp .Pow) (rI UO fun i j=>.int (i ^ j.toNat)):=Ph fun _ _ _ _ _ _ _ hc q=>pow_int_small hc.1 hc.2.1 hc.2.2 q
theorem unI{f:Value->Sem Value}{g:Int->Int}(rule:∀ (i:Int) (t:Tok) (s:Shared) (Q:Value->Shared->Prop) (E:Value->Shared->Prop),Q (.int (g i) s.toks) { s with toks:=s.toks+1 }->wpAny (model X.prog X.w) X.A (f (.int i t)) Q E s):
  UN X f (rU fun i=>.int (g i)):=by
 intro ae s σ H x v Q I rx h;obtain⟨i,rfl,q⟩:=h;obtain⟨t,rfl⟩:=rx;exact rule i t s _ _ ⟨.int (g i),H,I.tok _,⟨_,rfl⟩,q⟩
theorem qJ:UN X (unaryOp .USub) (rU fun i=>.int (-i)):=unI fun _ _ _ _ _ q=>neg_int q
end
def Pm:V->V->Bool
 |.cS,.cS=>true|.cS,.int _=>true|.int _,.cS=>true|.cS,.bl _=>true|.bl _,.cS=>true|.cS,.str _=>true|.str _,.cS=>true
 |.int _,.int _=>true|.bl _,.bl _=>true|.str _,.str _=>true|.D_ _,.D_ _=>true
 |.int _,.str _=>true|.str _,.int _=>true|.bl _,.str _=>true|.str _,.bl _=>true
 |_,_=>false
def rEq:R2:=fun x y H Q=>Pm x y=true/\Q (.bl (decide (x=y))) H
def rNe:R2:=fun x y H Q=>Pm x y=true/\Q (.bl (!decide (x=y))) H
theorem Br:decide (V.int i=V.int j)=(i==j):=by
 rw[jK];simp
theorem EH:decide (V.bl i=V.bl j)=(i==j):=by
 rw[jK];simp
theorem Bs:decide (V.str i=V.str j)=(i==j):=by
 rw[jK];simp
theorem Bt:decide (V.D_ i=V.D_ j)=(i.toList==j.toList):=by
 rw[jK];cases i;cases j;simp
section
variable {X:Cx} {a b c:Expr} {ta tb tc:TE} {pos:Pos}
theorem bB(I:aO X ae σ H s)(q:Q (.bl k) H)(e:k=k'):EP X ae σ Q (.bool k') s:=by
 subst e;exact⟨.bl k,H,I,rfl,q⟩
theorem hU:l4 X (compareOp .Eq) rEq:=by
 intro ae s σ H x y v u Q I rx ry h;obtain⟨hs,q⟩:=h;cases x with
 |cS=>
  cases rx;cases y with
  |cS=>cases ry;exact PySem.EqNone.eq_none_none (bB I q (by simp))
  |bl j=>cases ry;exact PySem.EqNone.eq_none_bool (bB I q (by simp))
  |int j=>obtain⟨t',rfl⟩:=ry;exact PySem.EqNone.eq_none_int (bB I q (by simp))
  |str j=>obtain⟨t',rfl⟩:=ry;exact PySem.EqNone.eq_none_str (bB I q (by simp))
  |_=>exact absurd (show false=true from hs) cr
 |bl i=>
  cases rx;cases y with
  |cS=>cases ry;exact PySem.EqNone.eq_bool_none (bB I q (by simp))
  |bl j=>cases ry;exact eq_bool (bB I q EH)
  |str j=>obtain⟨t',rfl⟩:=ry;exact PySem.EqMixed.eq_bool_str (bB I q (by simp))
  |_=>exact absurd (show false=true from hs) cr
 |int i=>
  obtain⟨t,rfl⟩:=rx;cases y with
  |cS=>cases ry;exact PySem.EqNone.eq_int_none (bB I q (by simp))
  |int j=>obtain⟨t',rfl⟩:=ry;exact eq_int (bB I q Br)
  |str j=>obtain⟨t',rfl⟩:=ry;exact PySem.EqMixed.eq_int_str (bB I q (by simp))
  |_=>exact absurd (show false=true from hs) cr
 |str i=>
  obtain⟨t,rfl⟩:=rx;cases y with
  |cS=>cases ry;exact PySem.EqNone.eq_str_none (bB I q (by simp))
  |bl j=>cases ry;exact PySem.EqMixed.eq_str_bool (bB I q (by simp))
  |int j=>obtain⟨t',rfl⟩:=ry;exact PySem.EqMixed.eq_str_int (bB I q (by simp))
  |str j=>obtain⟨t',rfl⟩:=ry;exact eq_str (bB I q Bs)
  |_=>exact absurd (show false=true from hs) cr
 |D_ i=>
  obtain⟨t,rfl⟩:=rx;cases y with
  |D_ j=>obtain⟨t',rfl⟩:=ry;exact PySem.W.eq_bytes (bB I q Bt)
  |_=>exact absurd (show false=true from hs) cr
 |_=>cases y <;> exact absurd (show false=true from hs) cr
theorem tH:l4 X (compareOp .NotEq) rNe:=by
 intro ae s σ H x y v u Q I rx ry h;obtain⟨hs,q⟩:=h;cases x with
 |cS=>
  cases rx;cases y with
  |cS=>cases ry;exact PySem.EqNone.ne_none_none (bB I q (by simp))
  |bl j=>cases ry;exact PySem.EqNone.ne_none_bool (bB I q (by simp))
  |int j=>obtain⟨t',rfl⟩:=ry;exact PySem.EqNone.ne_none_int (bB I q (by simp))
  |str j=>obtain⟨t',rfl⟩:=ry;exact PySem.EqNone.ne_none_str (bB I q (by simp))
  |_=>exact absurd (show false=true from hs) cr
 |bl i=>
  cases rx;cases y with
  |cS=>cases ry;exact PySem.EqNone.ne_bool_none (bB I q (by simp))
  |bl j=>cases ry;exact ne_bool (bB I q (congrArg not EH))
  |str j=>obtain⟨t',rfl⟩:=ry;exact PySem.EqMixed.ne_bool_str (bB I q (by simp))
  |_=>exact absurd (show false=true from hs) cr
 |int i=>
  obtain⟨t,rfl⟩:=rx;cases y with
  |cS=>cases ry;exact PySem.EqNone.ne_int_none (bB I q (by simp))
  |int j=>obtain⟨t',rfl⟩:=ry;exact ne_int (bB I q (congrArg not Br))
  |str j=>obtain⟨t',rfl⟩:=ry;exact PySem.EqMixed.ne_int_str (bB I q (by simp))
  |_=>exact absurd (show false=true from hs) cr
 |str i=>
  obtain⟨t,rfl⟩:=rx;cases y with
  |cS=>cases ry;exact PySem.EqNone.ne_str_none (bB I q (by simp))
  |bl j=>cases ry;exact PySem.EqMixed.ne_str_bool (bB I q (by simp))
  |int j=>obtain⟨t',rfl⟩:=ry;exact PySem.EqMixed.ne_str_int (bB I q (by simp))
  |str j=>obtain⟨t',rfl⟩:=ry;exact ne_str (bB I q (congrArg not Bs))
  |_=>exact absurd (show false=true from hs) cr
 |D_ i=>
  obtain⟨t,rfl⟩:=rx;cases y with
  |D_ j=>obtain⟨t',rfl⟩:=ry;exact PySem.W.ne_bytes (bB I q (congrArg not Bt))
  |_=>exact absurd (show false=true from hs) cr
 |_=>cases y <;> exact absurd (show false=true from hs) cr
theorem oy:l4 X (compareOp .Lt) (zM fun i j=>.bl (decide (i<j))):=HK fun _ _ _ _ _ _ _ q=>lt_int q
theorem Ki:l4 X (compareOp .LtE) (zM fun i j=>.bl (decide (i<=j))):=HK fun _ _ _ _ _ _ _ q=>le_int q
theorem Kj:l4 X (compareOp .Gt) (zM fun i j=>.bl (decide (j<i))):=HK fun _ _ _ _ _ _ _ q=>gt_int q
theorem Kk:l4 X (compareOp .GtE) (zM fun i j=>.bl (decide (j<=i))):=HK fun _ _ _ _ _ _ _ q=>ge_int q
theorem EI:l4 X (compareOp .Is) (fun x y H Q=>y=.cS/\Q (.bl (decide (x=.cS))) H):=by
 intro ae s σ H x y v u Q I rx ry h;obtain⟨rfl,q⟩:=h;cases ry;refine is_none_gen (bB I q ?_);cases x <;> first
  |(cases rx;rfl)
  |(obtain⟨t,rfl⟩:=rx;rfl)
theorem Bu:l4 X (compareOp .IsNot) (fun x y H Q=>y=.cS/\Q (.bl (!decide (x=.cS))) H):=by
 intro ae s σ H x y v u Q I rx ry h;obtain⟨rfl,q⟩:=h;cases ry;refine isnot_none_gen (bB I q ?_);cases x <;> first
  |(cases rx;rfl)
  |(obtain⟨t,rfl⟩:=rx;rfl)
theorem be(b:Expr)(h:op≠.In:=by decide)(h2:op≠.NotIn:=by decide):behindInMarks op b=false:=by
 have e1:(op==CmpOp.In)=false:=by cases op <;> first|rfl|exact absurd rfl h
 have e2:(op==CmpOp.NotIn)=false:=by cases op <;> first|rfl|exact absurd rfl h2
 cases b <;> simp[behindInMarks,e1,e2]
theorem ku(ho:l4 X (compareOp op) r)(ha:PE X a ta)(hb:PE X b tb)(hm:behindInMarks op b=false):PE X (.Compare a [op] [b] pos) (l6 r ta tb):=by
 intro ae s σ H Q I h;exact wpAny_Compare1 (LG ha hb I h fun v u s2 x y H2 I2 rx ry q=>ho ae s2 σ H2 x y v u Q I2 rx ry q) hm
def Bv(t:TE):TT:=fun σ H Q=>t σ H fun x H'=>∃k,x=.bl k/\Q k H'
theorem aX(ho:l4 X (compareOp op) r)(ha:PE X a ta)(hb:PE X b tb)(hm:behindInMarks op b=false):PT X (.Compare a [op] [b] pos) (Bv (l6 r ta tb)):=by
 intro ae s σ H Q I h;refine wpAny_isTrue_Compare1 (dq (ha ae s σ H _ I h) fun v s1 ⟨x,H1,I1,r1,q1⟩=>dq (hb ae s1 σ H1 _ I1 q1) fun u s2 ⟨y,H2,I2,r2,q2⟩=>
  dq (ho ae s2 σ H2 x y v u _ I2 r1 r2 q2) fun c s3 ⟨z,H3,I3,r3,k,e,q3⟩=>?_) hm
 subst e;cases r3;exact nh ⟨H3,I3,q3⟩
def LH(r r':R2)(ta tb tc:TE):TE:=fun σ H Q=>ta σ H fun x H1=>tb σ H1 fun y H2=>r x y H2 fun z H3=>∃k,z=.bl k/\
 (if k=true then tc σ H3 fun w' H4=>r' y w' H4 Q else Q (.bl false) H3)
theorem EJ(ho:l4 X (compareOp op) r)(HG:l4 X (compareOp Tj) r')(ha:PE X a ta)(hb:PE X b tb)(hc:PE X c tc)(hm:lastMarks [op,Tj] [b,c]=false:=by with_unfolding_all rfl):PE X (.Compare a [op,Tj] [b,c] pos) (LH r r' ta tb tc):=by
 intro ae s σ H Q I h;refine Compare_chain (dq (ha ae s σ H _ I h) fun v s1 ⟨x,H1,I1,r1,q1⟩=>chain_link (dq (hb ae s1 σ H1 _ I1 q1) fun u s2 ⟨y,H2,I2,r2,q2⟩=>
  dq (ho ae s2 σ H2 x y v u _ I2 r1 r2 q2) fun d s3 ⟨z,H3,I3,r3,k,e,q3⟩=>?_)) hm
 subst e;cases r3;refine nh ?_;cases k with
 |false=>exact ite_ff ⟨.bl false,H3,I3,rfl,q3⟩
 |true=>exact ite_tt (chain_last (dq (hc ae s3 σ H3 _ I3 q3) fun w' s4 ⟨z',H4,I4,r4,q4⟩=>HG ae s4 σ H4 y z' u w' Q I4 r2 r4 q4))
theorem ve:(sizeLine:Nat)<2 ^ 63:=by rw[gc];decide
theorem EK(r:aT [x] us):∃u,us=[u]/\bz x u:=by
 cases r with
 |cons r1 r2=>cases r2;exact⟨_,rfl,r1⟩
theorem EL(r:aT [x,y] us):∃u w',us=[u,w']/\bz x u/\bz y w':=by
 cases r with
 |cons r1 r2=>
  cases r2 with
  |cons r3 r4=>cases r4;exact⟨_,_,rfl,r1,r3⟩
theorem wP:eK X (.builtin "abs") (fun xs H Q=>∃i,xs=[.int i]/\Q (.int (if i<0 then -i else i)) H):=by
 intro ae s σ H xs us Q I r h;obtain⟨i,rfl,q⟩:=h;obtain⟨u,rfl,t,rfl⟩:=EK r;exact call_abs_int fun u tk=>⟨.int (if i<0 then -i else i),H,I.tok _,⟨_,rfl⟩,q⟩
theorem ky(hc:X.calm=true):eK X (.builtin "max") (fun xs H Q=>∃i j,xs=[.int i,.int j]/\Q (.int (if j > i then j else i)) H):=by
 intro ae s σ H xs us Q I r h;obtain⟨i,j,rfl,q⟩:=h;obtain⟨u,w',rfl,⟨t,rfl⟩,⟨t',rfl⟩⟩:=EL r;refine max_two_ints (I.ok.hd hc) fun h' tk k=>⟨_,H,I.kept k,?_,q⟩
 by_cases hj:j > i
 .rw[av hj,av hj];exact⟨_,rfl⟩
 .rw[au hj,au hj];exact⟨_,rfl⟩
theorem nJ(hc:X.calm=true):eK X (.builtin "min") (fun xs H Q=>∃i j,xs=[.int i,.int j]/\Q (.int (if j<i then j else i)) H):=by
 intro ae s σ H xs us Q I r h;obtain⟨i,j,rfl,q⟩:=h;obtain⟨u,w',rfl,⟨t,rfl⟩,⟨t',rfl⟩⟩:=EL r;refine min_two_ints (I.ok.hd hc) fun h' tk k=>⟨_,H,I.kept k,?_,q⟩
 by_cases hj:j<i
 .rw[av hj,av hj];exact⟨_,rfl⟩
 .rw[au hj,au hj];exact⟨_,rfl⟩
end
structure zO(h:Heap)(x dx C:Addr)(mA:Str->Option Value):Prop where
 obj:h.get? x=some (PySem.W.instObj C dx)
 ns:h.Ns1 dx mA
 ne:dx≠x
theorem CY{h:Heap}{dx:Addr}{mA:Str->Option Value}(n:h.Ns1 dx mA):∃od,h.get? dx=some od/\∀name,PySem.W.lookIn name od=some (mA name):=by
 obtain⟨o,es,ep,ho,hd,hk,_,hm⟩:=n;refine⟨o,ho,fun name=>?_⟩;have e:=hm name;unfold nsFind findBy at e;rw[<-Array.find?_toList] at e;unfold PySem.W.lookIn;rw[hd];dsimp only;split
 .rename_i y q;rw[q] at e;exact congrArg some e
 .rename_i q;rw[q] at e;have a:es.toList.any (·.refKey)=false:=by
   rw[uM];intro y hy;obtain⟨z,t,o_⟩:=hk y (Array.mem_toList_iff.mp hy);simp[DictEntry.refKey,o_]
  have a':¬ es.toList.any (·.refKey)=true:=by rw[a];exact cr
  rw[au a'];exact congrArg some e
theorem zO.look(I:zO h x dx C mA):∃od,PySem.W.InstAt h x (PySem.W.instObj C dx) C (some od)/\∀name,PySem.W.lookIn name od=some (mA name):=
 let ⟨od,ho,hl⟩:=CY I.ns
 ⟨od,⟨I.obj,rfl,rfl,ho⟩,hl⟩
section
variable {prog:Program} {w:World} {A:Around} {E:Value->Shared->Prop} {s:Shared} {K:PySem.W.Frag} {x dx C f:Addr} {mA:Str->Option Value} {name:Str} {v:Value}
theorem HM(X:K.In s.heap)(I:zO s.heap x dx C mA)(hg:PySem.W.plainGet K C name=true)(hh:PySem.W.hasDictIn K C=true)(ha:PySem.W.findIn K (.ref C) name=some none)(hv:mA name=some v)(CZ:PySem.W.handedIn v=true)(h:Q v { s with toks:=s.toks+1 }):
  wpAny (model prog w) A (getAttr (.ref x) name HN) Q E s:=by
 obtain⟨od,J,hl⟩:=I.look;exact PySem.W.get_value X J (yX hg).1 (PySem.W.findObj_own hh ha rfl (by rw[hl,hv])) CZ h
theorem EM(X:K.In s.heap)(I:zO s.heap x dx C mA)(hg:PySem.W.plainGet K C name=true)(hf:PySem.W.findIn K (.ref C) name=some (some (.ref f)))(ht:PySem.W.isFn K (.ref f)=true)(hv:mA name=none)(h:Q (.ref f,[.ref x]) s):
  wpAny (model prog w) A (getMethod (.ref x) name pl) Q E s:=by
 obtain⟨od,J,hl⟩:=I.look;exact PySem.W.method_fn X J (yX hg).1 (yX hg).2 hf (fh.mp ht) (by show (PySem.W.lookIn name od).map (·.isSome)=some false;rw[hl,hv];rfl) h
theorem HP(X:K.In s.heap)(I:zO s.heap x dx C mA)(hs:PySem.W.findIn K (.ref C) "__setattr__"=some (some (.builtin "object.__setattr__")))(hp:PySem.W.plainOver K C=true)(ht:PySem.W.takerIn K C name=some none)(hh:PySem.W.hasDictIn K C=true)(hw:PySem.Within mA ns)(gJ:ns.length<=sizeLine)(h:∀h',zO h' x dx C (fun y=>if y=name then some v else mA y)->Heap.SameBut dx s.heap h'->Q () { s with heap:=h',toks:=s.toks+2 }):
  wpAny (model prog w) A (setAttr (.ref x) name v) Q E s:=by
 obtain⟨od,J,hl⟩:=I.look;refine PySem.W.set_plain X J hs (PySem.W.osa_open (s:={ s with toks:=s.toks+1 }) (r:=none) X J hp ht fun b=>?_);obtain⟨cd,hc,HJ⟩:=PySem.W.any_some hh;have hx:s.heap.get? x=some ⟨.ref C,some dx,.plain,#[]⟩:=I.obj;refine aA (wpAny_pure (aA (aA (wpAny_loadPart hx (aA (PySem.W.Looks.here (s:={ s with toks:=s.toks+1 }) (PySem.W.looks_clsIn X hc) ?_))))));rw[HJ];refine wpAny_pure (a:=some dx) (aA (wpAny_pure (aA ?_)));refine wpAny_nsSet1 (s:={ s with toks:=s.toks+1 }) I.ns fun h' Os lB=>?_;obtain⟨oD,esD,epD,hoD,Pn,HQ⟩:=Os.count (PySem.Within.cons name v hw);refine aA (wpAny_lookBehind hoD (by rw[Pn];exact pastItsLine_dict (a8 HQ (by rw[dS];lia))) ?_);exact wpAny_pure (h _ ⟨(lB.2 _ (cZ I.ne)).trans I.obj,Os,I.ne⟩ lB)
theorem EN(X:K.In s.heap)(hm:PySem.W.makesIn K C=true)(hi:PySem.W.findIn K (.ref C) "__init__"=some (some (.ref f)))(hf:PySem.W.typeIn K (.ref f)=some (.type "function"))(h:codeAny (model prog w) (A.under (.builtin "type.__call__" ⟨.ref C::vs,kw⟩)) (.call (.ref f) ⟨.ref (s.heap.objs.size+1)::vs,kw⟩) (PySem.W.InitBack (s.heap.objs.size+1) R)
   { s with heap:=(s.heap.push PySem.W.emptyDict).push (PySem.W.instObj C s.heap.objs.size) }):
  codeAny (model prog w) A (.call (.ref C) ⟨vs,kw⟩) R s:=by
 obtain⟨hh,g,d,t,os⟩:=s;exact PySem.W.make_core (zo X hm) (PySem.W.looks_findIn X hi) (fun self=>PySem.W.bind_fn X self hf) (.inl rfl) h
theorem C0(X:K.In s.heap)(hm:PySem.W.makesIn K C=true)(hi:PySem.W.findIn K (.ref C) "__init__"=some (some (.builtin "object.__init__")))(hb:∀self,PySem.W.Looks (model prog w) s.heap (bindSpecial (.builtin "object.__init__") self) (.builtin "object.__init__",[self]))(h:codeAny (model prog w) (A.under (.builtin "type.__call__" ⟨[.ref C],[]⟩)) (.call (.builtin "object.__init__") ⟨[.ref (s.heap.objs.size+1)],[]⟩) (PySem.W.InitBack (s.heap.objs.size+1) R)
   { s with heap:=(s.heap.push PySem.W.emptyDict).push (PySem.W.instObj C s.heap.objs.size) }):
  codeAny (model prog w) A (.call (.ref C) ⟨[],[]⟩) R s:=by
 obtain⟨hh,g,d,t,os⟩:=s;exact PySem.W.make_core (zo X hm) (PySem.W.looks_findIn X hi) hb (.inr ⟨rfl,rfl⟩) h
end
def dH(f:Str)(v:V):List (Str×V)->List (Str×V)
 |[]=>[(f,v)]
 |(g,x)::r=>if g=f then (g,v)::r else (g,x)::dH f v r
theorem bJ(f g:Str)(v:V):∀fs:List (Str×V),(dH f v fs).lookup g=if g=f then some v else fs.lookup g
 |[]=>by
  show List.lookup g [(f,v)]=_;by_cases h:g=f
  .have hb:(g==f)=true:=fh.mpr h;simp only[List.lookup,hb,av h]
  .have hb:(g==f)=false:=k9.mpr h;simp only[List.lookup,hb,au h]
 |(k,x)::r=>by
  have ih:=bJ f g v r;rw[show dH f v ((k,x)::r)=(if k=f then (k,v)::r else (k,x)::dH f v r) from rfl];by_cases hk:k=f
  .rw[av hk];by_cases h:g=k
   .have hb:(g==k)=true:=fh.mpr h;simp only[List.lookup,hb,av (h.trans hk)]
   .have hb:(g==k)=false:=k9.mpr h;simp only[List.lookup,hb,au (fun e:g=f=>h (e.trans hk.symm))]
  .rw[au hk];by_cases h:g=k
   .have hb:(g==k)=true:=fh.mpr h;simp only[List.lookup,hb,au (fun e:g=f=>hk (h.symm.trans e))]
   .have hb:(g==k)=false:=k9.mpr h;simp only[List.lookup,hb];exact ih
theorem nK(f:Str)(v:V):∀fs:List (Str×V),f∈(dH f v fs).map (·.1)/\∀g,g∈fs.map (·.1)->g∈(dH f v fs).map (·.1)
 |[]=>⟨by simp[dH],fun g h=>by simp at h⟩
 |(k,x)::r=>by
  obtain⟨i1,i2⟩:=nK f v r;rw[show dH f v ((k,x)::r)=(if k=f then (k,v)::r else (k,x)::dH f v r) from rfl];by_cases hk:k=f
  .rw[av hk];subst hk;exact⟨by simp,fun g h=>by simpa using h⟩
  .rw[au hk];refine⟨?_,fun g h=>?_⟩
   .rw[ff];exact cW _ i1
   .rw[ff] at h |-;rcases bg.mp h with e|e
    .exact bg.mpr (.inl e)
    .exact cW _ (i2 g e)
theorem dX(f:Str)(v:V):∀fs:List (Str×V),(dH f v fs).length<=fs.length+1
 |[]=>by simp[dH]
 |(k,x)::r=>by
  have ih:=dX f v r;rw[show dH f v ((k,x)::r)=(if k=f then (k,v)::r else (k,x)::dH f v r) from rfl];by_cases hk:k=f
  .rw[av hk,dS,dS];lia
  .rw[au hk,dS,dS];lia
theorem lY.some_of(r:lY (some v) o):∃u,o=some u/\bz v u:=by
 cases o with
 |none=>exact(show False from r).elim
 |some u=>exact⟨u,rfl,r⟩
theorem lY.none_of(r:lY none o):o=none:=by
 cases o with
 |none=>rfl
 |some u=>exact(show False from r).elim
theorem C1(r:bz v u):PySem.W.handedIn u=true:=by
 cases v with
 |cS=>cases (show u=Value.none from r);rfl
 |bl b=>cases (show u=Value.bool b from r);rfl
 |int i=>obtain⟨t,e⟩:=(show ∃t,u=Value.int i t from r);cases e;rfl
 |str x=>obtain⟨t,e⟩:=(show ∃t,u=Value.str x t from r);cases e;rfl
 |D_ b=>obtain⟨t,e⟩:=(show ∃t,u=Value.bytes b t from r);cases e;rfl
 |Lo b=>obtain⟨t,e⟩:=(show ∃t,u=Value.float b t from r);cases e;rfl
 |ref a=>cases (show u=Value.ref a from r);rfl
 |ty n=>cases (show u=Value.type n from r);rfl
section
variable {P:Program} {w:World} {H H':Hp} {h h':Heap} {a C dx:Addr} {fs fs':List (Str×V)}
theorem pO(bZ:lA P w H h)(e:H a=some (.ins C dx fs)):∃mA,zO h a dx C mA/\(∀f,lY (fs.lookup f) (mA f))/\PySem.Within mA (fs.map (·.1))/\fs.length<=1000/\H dx=some (.own a):=by
 obtain⟨d,z,ne,ob,mA,n,r,q⟩:=(show cC P w H h a (.ins C dx fs) from bZ a _ e)
 exact⟨mA,⟨ob,n,ne⟩,r,q,z,d⟩
end
structure Ec(K:PySem.W.Frag)(C:Addr):Prop where
 pg:PySem.W.plainGet K C Str.empty=true
 hd:PySem.W.hasDictIn K C=true
 po:PySem.W.plainOver K C=true
 sa:PySem.W.findIn K (.ref C) "__setattr__"=some (some (.builtin "object.__setattr__"))
theorem Ec.get{K:PySem.W.Frag}{C:Addr}(c:Ec K C)(f:Str):PySem.W.plainGet K C f=true:=c.pg
def hV(K:PySem.W.Frag)(C:Addr)(f:Str):Prop:=PySem.W.findIn K (.ref C) f=some none
theorem hV.Po{K:PySem.W.Frag}{C:Addr}{f:Str}(n:hV K C f):PySem.W.takerIn K C f=some none:=by
 unfold PySem.W.takerIn;rw[show PySem.W.findIn K (.ref C) f=some none from n];rfl
structure LI(K:PySem.W.Frag)(C:Addr)(m:Str)(f:Addr):Prop where
 at_:PySem.W.findIn K (.ref C) m=some (some (.ref f))
 fn:PySem.W.isFn K (.ref f)=true
 kp:PySem.W.keepIn K (.ref f)=true
section
variable {X:Cx} {ae:List (Addr×Obj)} {σ:St} {H:Hp} {s:Shared} {a C dx:Addr} {fs:List (Str×V)} {f:Str} {v:V} {A:Around} {E:Value->Shared->Prop}
theorem zP(I:aO X ae σ H s)(e:H a=some (.ins C dx fs))(c:Ec X.K C)(n:hV X.K C f)(l:fs.lookup f=some v)(h:∀u s',aO X ae σ H s'->bz v u->Q u s'):wpAny (model X.prog X.w) A (getAttr (.ref a) f b) Q E s:=by
 obtain⟨mA,O,r,_,_,_⟩:=pO I.bZ e;obtain⟨u,hu,ru⟩:=lY.some_of (v:=v) (o:=mA f) (by rw[<-l];exact r f);exact HM I.lZ O (c.get f) c.hd n hu (C1 ru) (h u _ (I.tok _) ru)
theorem zQ(I:aO X ae σ H s)(e:H a=some (.ins C dx fs))(c:Ec X.K C)(k:LI X.K C m g)(l:fs.lookup m=none)(h:Q (.ref g,[.ref a]) s):wpAny (model X.prog X.w) A (getMethod (.ref a) m pl) Q E s:=by
 obtain⟨mA,O,r,_,_,_⟩:=pO I.bZ e;have hn:mA m=none:=lY.none_of (by rw[<-l];exact r m);exact EM I.lZ O (c.get m) k.at_ k.fn hn h
theorem zR(I:aO X ae σ H s)(e:H a=some (.ins C dx fs))(c:Ec X.K C)(n:hV X.K C f)(hl:fs.length<1000)(ry:bz y u)(h:∀s',aO X ae σ (upd H a (.ins C dx (dH f y fs))) s'->Q () s'):wpAny (model X.prog X.w) A (setAttr (.ref a) f u) Q E s:=by
 obtain⟨mA,O,r,wi,_,ho⟩:=pO I.bZ e;have hz:(fs.map (·.1)).length<=sizeLine:=by rw[aW,gc];lia
 refine HP I.lZ O c.sa c.po n.Po c.hd wi hz fun h' O' sb=>h _ ?_;have hd:∃o,h'.get? dx=some o:=let ⟨o,_,_,e',_⟩:=O'.ns;⟨o,e'⟩;refine I.write (x:=a) (e:=dx) (by rw[e];exact True.intro) (.inr ho) (fun b q hb z=>(sb.2 b hb).trans z) hd ?_;refine⟨by rw[am O.ne];exact ho,?_,O.ne,O'.obj,_,O'.ns,fun g=>?_,fun g hg=>?_⟩
 .have:=dX f y fs;lia
 .show lY ((dH f y fs).lookup g) (if g=f then some u else mA g);rw[bJ];by_cases q:g=f
  .rw[av q,av q];exact ry
  .rw[au q,au q];exact r g
 .by_cases q:g=f
  .rw[q];exact(nK f y fs).1
  .refine(nK f y fs).2 g (wi g fun z=>hg ?_);show (if g=f then some u else mA g)=none;rw[au q];exact z
theorem aO.made(I:aO X ae σ H s):aO X ae σ (upd (upd H s.heap.objs.size (.own (s.heap.objs.size+1))) (s.heap.objs.size+1) (.ins C s.heap.objs.size []))
  { s with heap:=(s.heap.push PySem.W.emptyDict).push (PySem.W.instObj C s.heap.objs.size) }:=by
 have e1:(s.heap.push PySem.W.emptyDict).get? s.heap.objs.size=some PySem.W.emptyDict:=cX s.heap rfl;have e2:((s.heap.push PySem.W.emptyDict).push (PySem.W.instObj C s.heap.objs.size)).get? (s.heap.objs.size+1)=some (PySem.W.instObj C s.heap.objs.size):=by
  have:=cX (s.heap.push PySem.W.emptyDict) (o:=PySem.W.instObj C s.heap.objs.size) rfl;rwa [gY] at this
 have e3:(s.heap.push PySem.W.emptyDict).Ns s.heap.objs.size (fun _=>none):=⟨PySem.W.emptyDict,#[],_,e1,rfl,(fun e he=>absurd he (by simp)),fun _=>rfl⟩
 have I1:=I.laid (a:=s.heap.objs.size) (o:=.own (s.heap.objs.size+1)) (h':=s.heap.push PySem.W.emptyDict) (t':=s.toks) (fun b u q=>cB _ q) (aN _) ⟨_,e1⟩;refine I1.laid (a:=s.heap.objs.size+1) (o:=.ins C s.heap.objs.size []) (t':=s.toks) (fun b u q=>cB _ q) (qA (gY _ _)) ?_;have ne:s.heap.objs.size≠s.heap.objs.size+1:=aQ (i7 _);refine⟨by rw[am ne,af],bT _,ne,e2,fun _=>none,(Heap.Ns1.of_empty e3).at fun o q=>cB _ q,fun _=>True.intro,fun y hy=>absurd rfl hy⟩
theorem HR(hb:attributeBase e f env (eval e env)=eval e env)(h:wpAny (model prog w) A (eval e env) (fun o s₁=>wpAny (model prog w) A (getAttr o f true) Q E s₁) E s):wpAny (model prog w) A (eval (.Attribute e f pos) env) Q E s:=
 Attribute_any_ h (by rw[arm_eval_Attribute,hb])
end
def LJ(K:PySem.W.Frag)(ta:TE)(f:Str):TE:=fun σ H Q=>ta σ H fun x H1=>∃a C dx fs v,x=.ref a/\H1 a=some (.ins C dx fs)/\Ec K C/\hV K C f/\fs.lookup f=some v/\Q v H1
def UP(K:PySem.W.Frag)(ta tv:TE)(f:Str):TS:=fun D σ H=>tv σ H fun y H1=>ta σ H1 fun x H2=>∃a C dx fs,x=.ref a/\H2 a=some (.ins C dx fs)/\Ec K C/\hV K C f/\fs.length<1000/\
 D.nx σ (upd H2 a (.ins C dx (dH f y fs)))
section
variable {X:Cx} {o e value:Expr} {f:Str} {pos CU LK:Pos} {ta tv:TE}
theorem nL(he:PE X e ta)(hb:attributeBase e f X.env (eval e X.env)=eval e X.env):PE X (.Attribute e f pos) (LJ X.K ta f):=by
 intro ae s σ H Q I h;refine HR hb (dq (he ae s σ H _ I h) fun u s1 ⟨x,H1,I1,rx,a,C,dx,fs,v,ex,ea,c,n,l,q⟩=>?_);subst ex;obtain rfl:u=Value.ref a:=rx;exact zP I1 ea c n l fun u' s2 I2 ru=>⟨v,H1,I2,ru,q⟩
theorem qK(ha:PE X o ta)(hv:PE X value tv)(hs:swapsWith value (some (.Attribute o f CU)) pos.line X.env=pure false):PS X (.Assign [.Attribute o f CU] value pos) (UP X.K ta tv f):=by
 intro ae s σ H D I h;refine plainObj_wpAny_Assign_Attribute (dq (hv ae s σ H _ I h) fun u s1 ⟨y,H1,I1,ry,q⟩=>dq (ha ae s1 σ H1 _ I1 q) fun ov s2 ⟨x,H2,I2,rx,a,C,dx,fs,ex,ea,c,n,l,q2⟩=>?_) hs;subst ex;obtain rfl:ov=Value.ref a:=rx;exact zR I2 ea c n l ry fun s3 I3=>⟨σ,_,I3,q2⟩
end
section
variable {X:Cx} {ae:List (Addr×Obj)} {σ:St} {H:Hp} {s:Shared} {A:Around} {E:Value->Shared->Prop} {Q:Value->Shared->Prop} {c:Value} {b:Bool}
inductive nM (K:PySem.W.Frag) (H:Hp):V->Value->Prop where
 |cS:nM K H .cS (.type "NoneType")
 |bl (x:Bool):nM K H (.bl x) (.type "bool")
 |int (i:Int):nM K H (.int i) (.type "int")
 |str (x:Str):nM K H (.str x) (.type "str")
 |Lo (x:UInt64):nM K H (.Lo x) (.type "float")
 |lst {a:Addr} {xs:List V} (e:H a=some (.lst xs)):nM K H (.ref a) (.type "list")
 |wr {a:Addr} {o:Obj} {xs:List V} (e:H a=some (.wr o (.lst xs))):nM K H (.ref a) (.type "list")
 |tup {a:Addr} {xs:List V} (e:H a=some (.tup xs)):nM K H (.ref a) (.type "tuple")
 |dK {a:Addr} {cL:List (gE×V)} (e:H a=some (.dK cL)):nM K H (.ref a) (.type "dict")
 |dT {a:Addr} {cL:List (List gE×V)} (e:H a=some (.dT cL)):nM K H (.ref a) (.type "dict")
 |ins {a C dx:Addr} {fs:List (Str×V)} (e:H a=some (.ins C dx fs)) (cl:Ec K C) (ha:PySem.W.findIn K (.ref C) "__class__"=some (some (.builtin "object.__class__")))
   (hn:PySem.W.specialIn K (.builtin "object.__class__") "__get__"=some (some (.builtin "getset_descriptor.__get__"))) (Pp:PySem.W.takesIn K (.builtin "object.__class__")=some true)
   (hm:PySem.W.mroIn K C (.type "object")=some true):nM K H (.ref a) (.ref C)
theorem tI(I:aO X ae σ H s)(rx:bz x u)(ty:nM X.K H x t)(e:PySem.W.kitOne X.K t c=some b)(h:∀tk,Q (.bool b) { s with toks:=tk }):
  wpAny (model X.prog X.w) A (call (.builtin "isinstance") [u,c]) Q E s:=by
 cases ty with
 |cS=>cases (show u=Value.none from rx);exact iR PySem.W.kitx_none I.lZ True.intro e (fun z=>nomatch z) h
 |bl y=>cases (show u=Value.bool y from rx);exact iR PySem.W.kitx_bool I.lZ True.intro e (fun z=>nomatch z) h
 |int i=>obtain⟨t,q⟩:=(show ∃t,u=Value.int i t from rx);cases q;exact iR PySem.W.kitx_int I.lZ True.intro e (fun z=>nomatch z) h
 |str y=>obtain⟨t,q⟩:=(show ∃t,u=Value.str y t from rx);cases q;exact iR PySem.W.kitx_str I.lZ True.intro e (fun z=>nomatch z) h
 |Lo y=>obtain⟨t,q⟩:=(show ∃t,u=Value.float y t from rx);cases q;exact iR PySem.W.kitx_float I.lZ True.intro e (fun z=>nomatch z) h
 |@lst a xs ea=>
  cases (show u=Value.ref a from rx);obtain⟨_,_,n,_,h1⟩:=(show cC X.prog X.w H s.heap a (.lst xs) from I.bZ a _ ea)
  exact iR PySem.W.kitx_list I.lZ ⟨_,h1,rfl⟩ e (fun z=>nomatch z) h
 |@wr a ob xs ea=>
  cases (show u=Value.ref a from rx);obtain⟨_,_,_,n,_,h1⟩:=(show cC X.prog X.w H s.heap a (.wr ob (.lst xs)) from I.bZ a _ ea)
  exact iR PySem.W.kitx_list I.lZ ⟨_,h1,rfl⟩ e (fun z=>nomatch z) h
 |@tup a xs ea=>
  cases (show u=Value.ref a from rx);obtain⟨_,_,_,p⟩:=(show cC X.prog X.w H s.heap a (.tup xs) from I.bZ a _ ea)
  obtain⟨o,h1,h2,_⟩:=p;exact iR PySem.W.kitx_tuple I.lZ ⟨o,h1,h2⟩ e (fun z=>nomatch z) h
 |@dK a cL ea=>
  cases (show u=Value.ref a from rx);obtain⟨_,_,vs,_,p⟩:=(show cC X.prog X.w H s.heap a (.dK cL) from I.bZ a _ ea)
  obtain⟨o,es,ep,h1,h2,_⟩:=p;exact iR PySem.W.kitx_dict I.lZ ⟨o,h1,h2.1⟩ e (fun z=>nomatch z) h
 |@dT a cL ea=>
  cases (show u=Value.ref a from rx);obtain⟨_,_,xs,_,o,es,ep,h1,h2,_⟩:=(show cC X.prog X.w H s.heap a (.dT cL) from I.bZ a _ ea)
  exact iR PySem.W.kitx_dict I.lZ ⟨o,h1,h2.1⟩ e (fun z=>nomatch z) h
 |@ins a C dx fs ea cl ha hn Pp hm=>
  cases (show u=Value.ref a from rx);obtain⟨mA,O,_⟩:=pO I.bZ ea;obtain⟨od,J,_⟩:=O.look;exact iR (PySem.W.kitx_own (cl.get _) cl.hd ha hn Pp hm) I.lZ J e (fun z=>nomatch z) h
end
structure cj(k:Nat)(A:Around):Prop where
 hd:A.handled=none
 dp:A.depth+3*k+5<recursionLimit
 un:A.units+16*k+200<cLine
 gd:A.guards=some []
theorem cj.mono(r:cj k A)(h:j<=k):cj j A:=⟨r.hd,by have:=r.dp;lia,by have:=r.un;lia,r.gd⟩
theorem cj.deeper(r:cj (k+1) A)(env:Env):cj k (A.deeper env):=
 ⟨r.hd,by have:=r.dp;show A.depth+1+3*k+5<_;lia,by have:=r.un;show A.units+3+16*k+200<_;lia,r.gd⟩
theorem cj.in1(r:cj (k+1) A):cj k A.in1:=
 ⟨r.hd,by have:=r.dp;show A.depth+3*k+5<_;lia,by have:=r.un;show A.units+1+16*k+200<_;lia,r.gd⟩
theorem zS{A:Around}{C:Addr}{us:List Value}{kw:List (Str×Value)}:(A.under (.builtin "type.__call__" ⟨.ref C::us,kw⟩)).depth=A.depth+1:=by
 first|rfl|simp[Around.under,Code.weight,Code.isCreation,Code.isGuard,Code.isCaller,Code.frames,Code.isFrame,guardIds]
theorem zT{A:Around}{C:Addr}{us:List Value}{kw:List (Str×Value)}:(A.under (.builtin "type.__call__" ⟨.ref C::us,kw⟩)).units=A.units+1:=by
 first|rfl|simp[Around.under,Code.cUnits,Code.frames,Code.isFrame]
theorem cj.make(r:cj (k+1) A)(C:Addr)(us:List Value)(kw:List (Str×Value)):cj k (A.under (.builtin "type.__call__" ⟨.ref C::us,kw⟩)):=
 ⟨r.hd,by have:=r.dp;rw[zS];lia,by have:=r.un;rw[zT];lia,r.gd⟩
theorem cj.depth(r:cj k A):A.depth<recursionLimit:=by have:=r.dp;lia
theorem cj.u(r:cj k A)(h:n<=200:=by decide):A.units+n<cLine:=by have:=r.un;lia
def fz:TA:=fun _ H Q=>Q [] H
def bi(ta:TE)(tr:TA):TA:=fun σ H Q=>ta σ H fun x H1=>tr σ H1 fun xs H2=>Q (x::xs) H2
section
variable {X:Cx} {e:Expr} {es:List Expr} {te:TE} {t:TA} {pos:Pos}
theorem ag:PA X [] fz:=fun _ _ _ _ H Q I h=>Calls.spliced_nil ⟨[],H,I,.nil,h⟩
theorem aa(ha:PE X e te)(hr:PA X es t)(hs:starEach (e::es) X.env=(false,eval e X.env)::starEach es X.env:=by rfl):PA X (e::es) (bi te t):=by
 intro pos ae s σ H Q I h;rw[hs];show wpAny _ _ (spliced ((false,eval e X.env)::backTo pos (starEach es X.env))) _ _ s;refine Calls.spliced_cons (dq (ha ae s σ H _ I h) fun u s1 ⟨x,H1,I1,r1,q1⟩=>?_);exact dq (hr pos ae s1 σ H1 _ I1 q1) fun us s2 ⟨xs,H2,I2,r2,q2⟩=>⟨x::xs,H2,I2,.cons r1 r2,q2⟩
def qL(t:TA):TE:=fun σ H Q=>t σ H fun xs H1=>xs.length<=sizeLine/\∀p,H1 p=none->Q (.ref p) (upd H1 p (.tup xs))
def UQ(t:TA):TE:=fun σ H Q=>t σ H fun xs H1=>xs.length<=sizeLine/\∀p,H1 p=none->Q (.ref p) (upd H1 p (.lst xs))
theorem cG{x1}(h:PA X es t):PE X (.Tuple es x1 pos) (qL t):=by
 intro ae s σ H Q I hq;refine wpAny_Tuple_spliced (dq (h pos ae s σ H _ I hq) fun us s1 ⟨xs,H1,I1,r,z,q⟩=>⟨by rw[<-r.length];exact z,?_⟩);have hf:H1 s1.heap.objs.size=none:=I1.bZ.fresh (aN _);refine⟨.ref s1.heap.objs.size,upd H1 s1.heap.objs.size (.tup xs),I1.laid (t':=s1.toks) (fun b u e=>cB _ e) (aN _) ?_,rfl,q _ hf⟩;exact⟨z,us,r,⟨_,cX _ rfl,rfl,_,rfl,rfl⟩⟩
theorem ce(h:PA X es t):PE X (.List es pos) (UQ t):=by
 intro ae s σ H Q I hq;refine wpAny_List_spliced (dq (h pos ae s σ H _ I hq) fun us s1 ⟨xs,H1,I1,r,z,q⟩=>⟨by rw[<-r.length];exact z,?_⟩);have hf:H1 s1.heap.objs.size=none:=I1.bZ.fresh (aN _);refine⟨.ref s1.heap.objs.size,upd H1 s1.heap.objs.size (.lst xs),I1.laid (t':=s1.toks) (fun b u e=>cB _ e) (aN _) ?_,rfl,q _ hf⟩;exact⟨z,us,0,r,cX _ rfl⟩
end
abbrev Sp:=List V->Hp->VK->XK->Prop
abbrev yx:=List Env->Hp->Shared->XK->Value->Shared->Prop
structure zU(P:Program)(w:World)(K:PySem.W.Frag)(mg:Str->Option Value)(base:Heap)(A:Around)(outer:List Env)(s:Shared)(H:Hp):Prop where
 frames:A.frames=some outer
 mod:Mod K mg base
 bs:∀b o,base.get? b=some o->s.heap.get? b=some o/\H b=none
 Ez:base.objs.size<=s.heap.objs.size
 o4:s.heap.FunFrames base outer
 Lq:∀b∈Ea outer,H b=none
 bZ:lA P w H s.heap
 bare:AllBare s.gens
def CE(outer:List Env)(P:Program)(w:World)(H:Hp)(s:Shared)(Q:VK)(u:Value)(s':Shared):Prop:=
 ∃v H',s'.os=s.os/\AllBare s'.gens/\Un (Ea outer) [] H H' s.heap s'.heap/\lA P w H' s'.heap/\bz v u/\Q v H'
def CR(CX:yx)(outer:List Env)(P:Program)(w:World)(H:Hp)(s:Shared)(Q:VK)(E:XK)(r:Result)(s':Shared):Prop:=
 match r with
 |.ok (.ret u)=>CE outer P w H s Q u s'
 |.ok _=>False
 |.error e=>CX outer H s E e s'
structure bD(P:Program)(w:World)(K:PySem.W.Frag)(mg:Str->Option Value)(base:Heap)(CX:yx)(k:Nat)(f:Addr)(fd:FuncData)(ps:List Str)(sp:Sp):Prop where
 len:∀vs H Q E,sp vs H Q E->vs.length=ps.length
 run:∀ (A:Around) (outer:List Env) (s:Shared) (H:Hp) (args:Args) (us:List Value) (vs:List V) (Q:VK) (E:XK),cj k A->zU P w K mg base A outer s H->BindsTo s fd args (ps.zip us)->aT vs us->sp vs H Q E->
  codeAny (model P w) A (.call (.ref f) args) (CR CX outer P w H s Q E) s
theorem zU.make{P:Program}{w:World}{K:PySem.W.Frag}{mg:Str->Option Value}{base:Heap}{A:Around}{outer:List Env}{s:Shared}{H:Hp}(e:zU P w K mg base A outer s H)(C:Addr)(us:List Value)(kw:List (Str×Value)):
  zU P w K mg base (A.under (.builtin "type.__call__" ⟨.ref C::us,kw⟩)) outer s H:=⟨by first|exact e.frames|(simpa [Around.under,Code.envs,Code.isFrame,pushEnvs] using e.frames),e.mod,e.bs,e.Ez,e.o4,e.Lq,e.bZ,e.bare⟩
section
variable {X:Cx} {ae:List (Addr×Obj)} {σ:St} {H:Hp} {s s':Shared}
theorem aO.Pq(I:aO X ae σ H s):zU X.prog X.w X.K X.mg X.base X.A X.stack s H:=
 ⟨I.ok.frames,I.ok.mod,I.bs,a8 I.ok.Ez I.sz,I.stack,I.va,I.bZ,I.bare⟩
theorem aO.after(I:aO X ae σ H s)(h:CE X.stack X.prog X.w H s Q u s'):EP X ae σ Q u s':=by
 obtain⟨v,H',os,bare,un,bZ,r,q⟩:=h;obtain⟨hh,g,d,t,os'⟩:=s';obtain rfl:os'=s.os:=os;exact⟨v,H',I.call (h':=hh) (g':=g) (d':=d) (t':=t) (ch:=[]) un bZ bare (fun b z=>absurd z (by simp)),r,q⟩
end
def oz(sp:Sp)(sr:List V)(E:XK)(t:TA):TE:=fun σ H Q=>t σ H fun vs H1=>sp (vs++sr) H1 Q E
def wQ(C:Addr)(m:Str)(sp:Sp)(sr:List V)(E:XK)(ta:TE)(t:TA):TE:=fun σ H Q=>ta σ H fun x H1=>∃a dx fs,x=.ref a/\H1 a=some (.ins C dx fs)/\fs.lookup m=none/\
 t σ H1 fun vs H2=>sp (x::(vs++sr)) H2 Q E
def Ps(C:Addr)(sp:Sp)(sr:List V)(E:XK)(t:TA):TE:=fun σ H Q=>t σ H fun vs H1=>∀x dx,H1 x=none->H1 dx=none->dx≠x->
 sp (.ref x::(vs++sr)) (upd (upd H1 dx (.own x)) x (.ins C dx [])) (fun v H2=>v=.cS/\Q (.ref x) H2) E
def jv(K:PySem.W.Frag)(fd:FuncData)(ps:List Str)(ds:List Value):Prop:=
 ∀ (s:Shared) (us:List Value),K.In s.heap->(us++ds).length=ps.length->BindsTo s fd ⟨us,[]⟩ (ps.zip (us++ds))
theorem jv.all{K:PySem.W.Frag}{fd:FuncData}{ps:List Str}(h:∀us:List Value,us.length=ps.length->bindArgs fd ⟨us,[]⟩=pure (ps.zip us)):jv K fd ps []:=fun s us _ hl=>by
 rw[qu] at hl |-;exact .of_eq (h us hl)
def lC(CX:yx)(X:Cx)(E:XK):Prop:=∀ (ae:List (Addr×Obj)) (σ:St) (H:Hp) (s:Shared) (e:Value) (s':Shared),aO X ae σ H s->CX X.stack H s E e s'->X.xe e s'
section
variable {X:Cx} {CX:yx} {k:Nat} {f C:Addr} {fd:FuncData} {ps:List Str} {sp:Sp} {sr:List V} {ds:List Value} {E:XK} {x m:Str} {p pos qM:Pos} {e o:Expr} {es:List Expr} {ta:TE} {t:TA}
theorem EO(F:bD X.prog X.w X.K X.mg X.base CX k f fd ps sp)(hr:cj k X.A)(hb:jv X.K fd ps ds)(hd:aT sr ds)(hx:lC CX X E)(I:aO X ae σ H s)(r:aT vs us)(h:sp (vs++sr) H Q E):wpAny (model X.prog X.w) X.A (call (.ref f) us) (EP X ae σ Q) X.xe s:=by
 have r2:aT (vs++sr) (us++ds):=r.append hd;have hl:(us++ds).length=ps.length:=by rw[<-r2.length];exact F.len _ _ _ _ h
 refine nC (nB (F.run X.A X.stack s H ⟨us,[]⟩ (us++ds) (vs++sr) Q E hr I.Pq (hb s us I.lZ hl) r2 h) fun r s' hq=>?_);cases r with
 |error e=>exact hx ae σ H s e s' I hq
 |ok fl=>
  cases fl with
  |ret u=>exact I.after hq
  |next=>exact False.elim hq
  |brk=>exact False.elim hq
  |cont=>exact False.elim hq
theorem HS(F:bD X.prog X.w X.K X.mg X.base CX k f fd ps sp)(hr:cj k X.A)(hg:Gl X x)(hm:X.mg x=some (.ref f))(hk:PySem.W.keepIn X.K (.ref f)=true)(hb:jv X.K fd ps ds)(hd:aT sr ds)(hx:lC CX X E)(ha:PA X (e::es) t)(C2:(x==("__debug__":Str))=false:=by decide)(he:starEach (e::es) X.env=(false,eval e X.env)::starEach es X.env:=by rfl)(Ed:(backTo pos (starEach es X.env)).any (·.1)=false:=by rfl):
  PE X (.Call (.Name x p) (e::es) [] pos) (oz sp sr E t):=by
 intro ae s σ H Q I h;refine lc (pK I hg hm ?_ C2);refine zc (h₀:=X.base) I.ok.mod.OX hk (dq (ha pos ae s σ H _ I h) fun us s1 ⟨vs,H1,I1,r,q⟩=>⟨I1.lZ,?_⟩) he Ed;exact EO F hr hb hd hx I1 r q
theorem bQ(he:PE X o ta)(c:Ec X.K C)(hm:LI X.K C m f)(F:bD X.prog X.w X.K X.mg X.base CX k f fd ps sp)(hr:cj k X.A)(hb:jv X.K fd ps ds)(hd:aT sr ds)(hx:lC CX X E)(ha:PA X (e::es) t)(mQ:starEach (e::es) X.env=(false,eval e X.env)::starEach es X.env:=by rfl)(Ed:(backTo pos (starEach es X.env)).any (·.1)=false:=by rfl)(ht:eval (.Call (.Attribute o m qM) (e::es) [] pos) X.env=(do
   let ov <- eval o X.env
   standAt qM.atName
   let (f,first) <- holding [ov] (getMethod ov m pl)
   callWith pos f first (backTo pos (starEach (e::es) X.env)) (backToKw pos (keywordEach [] X.env))):=by rfl):
  PE X (.Call (.Attribute o m qM) (e::es) [] pos) (wQ C m sp sr E ta t):=by
 intro ae s σ H Q I h;refine PySem.W.methodCall_KW (pl:=pl) (dq (he ae s σ H _ I h) fun u s1 ⟨x,H1,I1,rx,a,dx,fs,ex,ea,l,q⟩=>?_) ht;subst ex;obtain rfl:u=Value.ref a:=rx;refine zQ I1 ea c hm l ?_;refine zc (first:=[.ref a]) (h₀:=X.base) I.ok.mod.OX hm.kp (dq (ha pos ae s1 σ H1 _ I1 q) fun us s2 ⟨vs,H2,I2,r,q2⟩=>⟨I2.lZ,?_⟩) mQ Ed;exact EO (us:=.ref a::us) (vs:=.ref a::vs) F hr hb hd hx I2 (.cons rfl r) q2
structure Mk(K:PySem.W.Frag)(C f:Addr):Prop where
 makes:PySem.W.makesIn K C=true
 init:PySem.W.findIn K (.ref C) "__init__"=some (some (.ref f))
 fn:PySem.W.isFn K (.ref f)=true
 kp:PySem.W.keepIn K (.ref C)=true
theorem EQ(M:Mk X.K C f)(F:bD X.prog X.w X.K X.mg X.base CX k f fd ps sp)(hr:cj (k+1) X.A)(hb:jv X.K fd ps ds)(hd:aT sr ds)(hx:lC CX X E)(I:aO X ae σ H s)(r:aT vs us)(h:∀x dx,H x=none->H dx=none->dx≠x->sp (.ref x::(vs++sr)) (upd (upd H dx (.own x)) x (.ins C dx [])) (fun v H2=>v=.cS/\Q (.ref x) H2) E):
  wpAny (model X.prog X.w) X.A (call (.ref C) us) (EP X ae σ Q) X.xe s:=by
 have hq:=h (s.heap.objs.size+1) s.heap.objs.size (I.bZ.fresh (qD _)) (I.bZ.fresh (aN _)) (aQ (i7 _));have I2:=aO.made (C:=C) I;have r2:aT (V.ref (s.heap.objs.size+1)::(vs++sr)) (Value.ref (s.heap.objs.size+1)::(us++ds)):=.cons rfl (r.append hd);have hl:(Value.ref (s.heap.objs.size+1)::us++ds).length=ps.length:=by
  have e:=r2.length;rw[F.len _ _ _ _ hq] at e;exact e.symm
 refine nC (EN (f:=f) I.lZ M.makes M.init (fh.mp M.fn) (nB (F.run _ X.stack _ _ ⟨Value.ref (s.heap.objs.size+1)::us,[]⟩ (Value.ref (s.heap.objs.size+1)::(us++ds)) _ _ E (hr.make C us [])
  (I2.Pq.make C us []) (hb _ (Value.ref (s.heap.objs.size+1)::us) I2.lZ hl) r2 hq) fun r s' ER=>?_))
 cases r with
 |error e=>exact hx ae σ _ _ e s' I2 ER
 |ok fl=>
  cases fl with
  |ret u=>
   obtain⟨v,H',I3,rv,ev,q3⟩:=I2.after ER;subst ev;exact⟨rv,⟨V.ref (s.heap.objs.size+1),H',I3,rfl,q3⟩⟩
  |next=>exact False.elim ER
  |brk=>exact False.elim ER
  |cont=>exact False.elim ER
theorem Bw(M:Mk X.K C f)(F:bD X.prog X.w X.K X.mg X.base CX k f fd ps sp)(hr:cj (k+1) X.A)(hg:Gl X x)(hm:X.mg x=some (.ref C))(hb:jv X.K fd ps ds)(hd:aT sr ds)(hx:lC CX X E)(ha:PA X (e::es) t)(C2:(x==("__debug__":Str))=false:=by decide)(he:starEach (e::es) X.env=(false,eval e X.env)::starEach es X.env:=by rfl)(Ed:(backTo pos (starEach es X.env)).any (·.1)=false:=by rfl):
  PE X (.Call (.Name x p) (e::es) [] pos) (Ps C sp sr E t):=by
 intro ae s σ H Q I h;refine lc (pK I hg hm ?_ C2);refine zc (h₀:=X.base) I.ok.mod.OX M.kp (dq (ha pos ae s σ H _ I h) fun us s1 ⟨vs,H1,I1,r,q⟩=>⟨I1.lZ,?_⟩) he Ed;exact EQ M F hr hb hd hx I1 r q
end
def PK(X:Cx)(ES:List Keyword)(t:TA):Prop:=
 ∀ (pos:Pos) (ae:List (Addr×Obj)) (s:Shared) (σ:St) (H:Hp) (Q:List V->Hp->Prop),aO X ae σ H s->t σ H Q->wpAny (model X.prog X.w) X.A (evalAll ((backToKw pos (keywordEach ES X.env)).map (·.2))) (AP X ae σ Q) X.xe s
section
variable {X:Cx} {CX:yx} {k:Nat} {f C:Addr} {fd:FuncData} {ps ks:List Str} {sp:Sp} {E:XK} {x m:Str} {p pos qM UR:Pos} {e o:Expr} {es:List Expr} {ES:List Keyword} {te ta:TE} {t tk:TA} {nm:Option Str}
theorem qN:PK X [] fz:=fun _ _ _ _ H Q I h=>wpAny_evalAll_nil ⟨[],H,I,.nil,h⟩
theorem l7(ha:PE X e te)(hr:PK X ES t):PK X (⟨nm,e,UR⟩::ES) (bi te t):=by
 intro pos ae s σ H Q I h;show wpAny _ _ (evalAll ((do let v <- eval e X.env;standAt pos;pure v)::(backToKw pos (keywordEach ES X.env)).map (·.2))) _ _ s;refine wpAny_evalAll_cons (aA (dq (ha ae s σ H _ I h) fun u s1 ⟨x,H1,I1,r1,q1⟩=>aA (nz (wpAny_pure ?_))));exact dq (hr pos ae s1 σ H1 _ I1 q1) fun us s2 ⟨xs,H2,I2,r2,q2⟩=>⟨x::xs,H2,I2,.cons r1 r2,q2⟩
variable {g:List Value->List Value->List Value} {gV:List V->List V->List V}
end
structure aP(N P:List Str)(sc:Scope):Prop where
 kind:sc.kind=.function
 co:sc.isCoroutine=false
 gen:sc.isGenerator=false
 nd:N.Nodup
 pre:N.take P.length=P
 par:∀x∈P,sc.names.lookup x=some .local\/sc.names.lookup x=some .cell
 LL:∀y∈sc.names,y.2≠.free
theorem tJ{kindOf:Str->Option NameKind}{x:Str}:∀ {binds:List (Str×Value)} {m:Str->Option Value},(∀v,(x,v)∉binds)->bindL kindOf binds m x=m x
 |[],_,_=>rfl
 |(n,v)::r,m,h=>by
  unfold bindL;rw[tJ fun w hw=>h w (cW _ hw)];split
  .have:x≠n:=by rintro rfl;exact h v bp
   simp[this]
  .rfl
theorem tK{kindOf:Str->Option NameKind}{x:Str}:∀ {binds:List (Str×Value)} {m:Str->Option Value},(∀v,(x,v)∉binds)->bindC kindOf binds m x=m x
 |[],_,_=>rfl
 |(n,v)::r,m,h=>by
  unfold bindC;rw[tK fun w hw=>h w (cW _ hw)];split
  .rfl
  .have:x≠n:=by rintro rfl;exact h v bp
   simp[this]
theorem tL{kindOf:Str->Option NameKind}{x:Str}{v:Value}:∀ {P:List Str} {vs:List Value} {i:Nat} {m:Str->Option Value},P.Nodup->P[i]?=some x->vs[i]?=some v->kindOf x=some .local->
  bindL kindOf (P.zip vs) m x=some v
 |[],_,_,_,_,h,_,_=>by simp at h
 |_::_,[],_,_,_,_,h,_=>by simp at h
 |p::P,w::vs,0,m,nd,h1,h2,hk=>by
  simp at h1 h2;subst h1;subst h2;show bindL kindOf ((p,w)::P.zip vs) m p=_;unfold bindL;rw[tJ fun v hv=>(fA.mp nd).1 (qt hv).1,av hk];simp
 |p::P,w::vs,i+1,m,nd,h1,h2,hk=>by
  show bindL kindOf ((p,w)::P.zip vs) m x=_;unfold bindL;exact tL (i:=i) (fA.mp nd).2 (by simpa using h1) (by simpa using h2) hk
theorem tQ{kindOf:Str->Option NameKind}{x:Str}{v:Value}:∀ {P:List Str} {vs:List Value} {i:Nat} {m:Str->Option Value},P.Nodup->P[i]?=some x->vs[i]?=some v->kindOf x≠some .local->
  bindC kindOf (P.zip vs) m x=some v
 |[],_,_,_,_,h,_,_=>by simp at h
 |_::_,[],_,_,_,_,h,_=>by simp at h
 |p::P,w::vs,0,m,nd,h1,h2,hk=>by
  simp at h1 h2;subst h1;subst h2;show bindC kindOf ((p,w)::P.zip vs) m p=_;unfold bindC;rw[tK fun v hv=>(fA.mp nd).1 (qt hv).1,au hk];simp
 |p::P,w::vs,i+1,m,nd,h1,h2,hk=>by
  show bindC kindOf ((p,w)::P.zip vs) m x=_;unfold bindC;exact tQ (i:=i) (fA.mp nd).2 (by simpa using h1) (by simpa using h2) hk
def start(N:List Str)(vs:List V):St:=vs.map some++List.replicate (N.length-vs.length) none
def jX(CX:yx)(P:Program)(w:World)(K:PySem.W.Frag)(mg:Str->Option Value)(base:Heap)(N:List Str)(qual:Str)(scope:Scope)(f:Addr)(cd:Value)(A:Around)(outer:List Env)(s:Shared)(H:Hp)(E:XK):Cx where
 prog:=P
 w:=w
 K:=K
 mg:=mg
 base:=base
 A:=A.deeper (envOfC qual scope s.heap.objs.size f cd)
 N:=N
 s₀:=s
 H₀:=H
 env:=envOfC qual scope s.heap.objs.size f cd
 outer:=outer
 stack:=envOfC qual scope s.heap.objs.size f cd::outer
 ex:=[]
 calm:=true
 fn:=fun _=>true
 pn:=[]
 xe:=fun e s'=>wpAny (model P w) (A.deeper (envOfC qual scope s.heap.objs.size f cd)) (leaving (envOfC qual scope s.heap.objs.size f cd) e) (fun _ Hr=>CX outer H s E e Hr) (fun e' Hr=>CX outer H s E e' Hr) s'
theorem wR{sc:Scope}{n:Nat}{x:Str}(h:sc.names.lookup x=some .cell):∃c,(cellsFrom n sc.names []).lookup x=some c:=by
 have q:=PySem.W.cellsFrom_some sc.names n [] (.inl h);exact uy.mp q
theorem C3{CX:yx}{P:Program}{w:World}{K:PySem.W.Frag}{mg:Str->Option Value}{base:Heap}{N ps:List Str}{qual:Str}{scope:Scope}{f:Addr}{cd:Value}{A:Around}{outer:List Env}{s s1:Shared}{H:Hp}{E:XK}{us:List Value}{vs:List V}(S:aP N ps scope)(hd:A.handled=none)(e0:zU P w K mg base A outer s H)(hl:vs.length=ps.length)(r:aT vs us)(x:InCallC s s.heap.objs.size (bindL (envOfC qual scope s.heap.objs.size f cd).kindOf (ps.zip us) fun _=>none) (cellsFrom (s.heap.objs.size+1) scope.names []) (bindC (envOfC qual scope s.heap.objs.size f cd).kindOf (ps.zip us) fun _=>none) s1):
  aO (jX CX P w K mg base N qual scope f cd A outer s H E) [] (start N vs) H s1:=by
 have Ed:ps.length<=N.length:=by have:=congrArg List.length S.pre;rw[jH] at this;lia
 obtain⟨h1,tk,rfl,hk⟩:=x.done;have Ot:∀b:Addr,b∉(jX CX P w K mg base N qual scope f cd A outer s H E).ex:=fun b z=>absurd (show b∈([]:List Addr) from z) (by simp);refine⟨⟨e0.mod,S.kind,rfl,rfl,aN _,fun y z c h1 h2=>?_,fun y hy=>?_,fun y c _ h=>?_,fun _=>hd,Around.frames_deeper e0.frames,.inr ⟨rfl,rfl⟩,fun b z=>absurd z (Ot b),e0.bs,e0.Ez,fun b _ _=>Ot b,fun b z=>absurd z (Ot b),e0.o4,e0.Lq⟩,
  rfl,e0.bare,Un.kept hk,⟨_,x.toInCall.ns,fun i y v h1 h2 h3=>?_⟩,fun y c h=>⟨_,x.cell y c h⟩,e0.bZ.fresh (aN _),fun y c h=>?_,fun p hp=>absurd (show p∈([]:List (Addr×Obj)) from hp) (by simp),e0.bZ.kept hk,?_⟩
 .exact name_of_addr x.apart (jD h1) (jD h2)
 .have hy:scope.names.lookup y=some .cell\/scope.names.lookup y=some .free:=hy;rcases hy with hy|hy
  .exact wR hy
  .exact absurd rfl (S.LL _ (jD hy))
 .exact jN (x.above y c (jD h))
 .have hi:i<vs.length:=by
   unfold start at h2;by_cases hi:i<vs.length
   .exact hi
   .rw[kO (by simpa using hi)] at h2;rw[uz] at h2;split at h2 <;> cases h2
  have ha:vs[i]?=some v:=by
   unfold start at h2;rw[gW (by simpa using hi),bV] at h2;cases e:vs[i]? with
   |none=>rw[e] at h2;cases h2
   |some a=>rw[e] at h2;cases h2;rfl
  obtain⟨u,hu,rv⟩:=r.get ha;have hp:ps[i]?=some y:=by
   rw[<-S.pre,yK (by lia)];exact h1
  have YM:ps.Nodup:=by rw[<-S.pre];exact S.nd.sublist (List.take_sublist _ _)
  refine⟨u,rv,?_⟩;rcases S.par y (dj hp) with k|k
  .exact .inl ⟨k,tL YM hp hu k⟩
  .obtain⟨c,e⟩:=wR (n:=s.heap.objs.size+1) k;refine .inr ⟨.inl k,c,e,?_⟩;have q:=x.cell y c e;rw[tQ YM hp hu (by show scope.names.lookup y≠_;rw[k];decide)] at q;exact q
 .exact e0.bZ.fresh (jN (x.above y c (jD h)))
 .unfold start;show _=N.length;rw[cp,aW,oq];lia
theorem Kl{CX:yx}{P:Program}{w:World}{K:PySem.W.Frag}{mg:Str->Option Value}{base:Heap}{k:Nat}{f:Addr}{name qual:Str}{params:Arguments}{body:List Stmt}{scope:Scope}{dV kV l8 pm eL ct oc:Value}{an od:Option Addr}{yy:Array (Option Value)}{N ps:List Str}{sp:Sp}(lk:K.lookup f=some ⟨oc,od,.func (PySem.W.fnOf name qual params body scope dV kV l8 pm an eL ct),yy⟩)(tE:PySem.W.codeIn K eL qual=true)(S:aP N ps scope)(len:∀vs H Q E,sp vs H Q E->vs.length=ps.length)(wS:∀ (A:Around) (outer:List Env) (s:Shared) (H:Hp) (vs:List V) (Q:VK) (E:XK),cj k (A.deeper (envOfC qual scope s.heap.objs.size f eL))->sp vs H Q E->
   ∃t,zG (jX CX P w K mg base N qual scope f eL A outer s H E) body t/\t { nx:=fun _ H'=>Q .cS H',rt:=Q } (start N vs) H):
  bD P w K mg base CX (k+1) f (PySem.W.fnOf name qual params body scope dV kV l8 pm an eL ct) ps sp:=by
 refine⟨len,fun A outer s H args us vs Q E hr e0 hb r Ht=>?_⟩;have hl:=len _ _ _ _ Ht;have KX:K.In s.heap:=e0.mod.OX.keeps fun b o e=>(e0.bs b o e).1;have lim:s.heap.NoLimit:=e0.mod.nolimit.keeps fun b o e=>(e0.bs b o e).1;have Pu:∀y∈ps.zip us,scope.names.lookup y.1=some .local\/(scope.names.lookup y.1=some .cell/\((cellsFrom (s.heap.objs.size+1) scope.names []).lookup y.1).isSome=true):=fun ⟨n,v⟩ hy=>by
  rcases S.par n (qt hy).1 with q|q
  .exact .inl q
  .exact .inr ⟨q,PySem.W.cellsFrom_some _ _ _ (.inl q)⟩
 refine codeAny_call_function hr.depth (KX _ _ lk) rfl S.co S.gen rfl (PySem.W.codeRec_of KX tE) (hb _ _ _ _ ?_);refine wpAny_newFunctionEnv_cells S.kind Pu fun env he s1 x=>?_;subst he;refine⟨lim.keeps x.toInCall.keep,codeAny_func ?_⟩;obtain⟨t,ht,hq⟩:=wS A outer s H vs Q E (hr.deeper _) Ht;have I:aO (jX CX P w K mg base N qual scope f eL A outer s H E) [] (start N vs) H s1:=C3 S hr.hd e0 hl r x;refine jb (ht [] s1 (start N vs) H _ I hq) (fun fl s' hs=>?_) fun e s' hs=>hs;have fin:∀ {σ':St} {H':Hp} {v:V} {u:Value},aO (jX CX P w K mg base N qual scope f eL A outer s H E) [] σ' H' s'->bz v u->Q v H'->CE outer P w H s Q u s':=
  fun {σ' H' v u} J rv q=>⟨v,H',J.os,J.bare,J.base,J.bZ,rv,q⟩
 cases fl with
 |ret u=>
  obtain⟨v,σ',H',J,rv,q⟩:=hs;exact fin J rv q
 |next=>
  obtain⟨σ',H',J,q⟩:=hs;exact fin (v:=V.cS) (u:=Value.none) J rfl q
 |brk=>
  obtain⟨_,_,_,q⟩:=hs;exact False.elim q
 |cont=>
  obtain⟨_,_,_,q⟩:=hs;exact False.elim q
section
variable {X:Cx} {x:Str} {p pos:Pos} {e:Expr} {es:List Expr} {t:TA} {id T:String} {r:List V->Hp->VK->Prop}
def Pw(r:List V->Hp->VK->Prop)(t:TA):TE:=fun σ H Q=>t σ H fun vs H1=>r vs H1 Q
theorem aE(hc:eK X (.builtin id) r)(hg:Gl X x)(hm:X.mg x=none)(hv:bootBuiltins x=some (.builtin id))(ha:PA X (e::es) t)(hn:x≠"__name__":=by decide)(C2:(x==("__debug__":Str))=false:=by decide)(he:starEach (e::es) X.env=(false,eval e X.env)::starEach es X.env:=by rfl)(Ed:(backTo pos (starEach es X.env)).any (·.1)=false:=by rfl):PE X (.Call (.Name x p) (e::es) [] pos) (Pw r t):=by
 intro ae s σ H Q I h;refine lc (iE I hg hm hv ?_ hn C2);exact PyProof.Rows.callWith_builtin1 (dq (ha pos ae s σ H _ I h) fun us s1 ⟨vs,H1,I1,r1,q1⟩=>hc ae s1 σ H1 vs us Q I1 r1 q1) he Ed
theorem cP(hc:eK X (.type T) r)(hg:Gl X x)(hm:X.mg x=none)(hv:bootBuiltins x=some (.type T))(ha:PA X (e::es) t)(hn:x≠"__name__":=by decide)(C2:(x==("__debug__":Str))=false:=by decide)(he:starEach (e::es) X.env=(false,eval e X.env)::starEach es X.env:=by rfl)(Ed:(backTo pos (starEach es X.env)).any (·.1)=false:=by rfl):PE X (.Call (.Name x p) (e::es) [] pos) (Pw r t):=by
 intro ae s σ H Q I h;refine lc (iE I hg hm hv ?_ hn C2);exact tm (dq (ha pos ae s σ H _ I h) fun us s1 ⟨vs,H1,I1,r1,q1⟩=>hc ae s1 σ H1 vs us Q I1 r1 q1) he Ed
end
end L2
namespace HT
open PySem PyProof.Rows
section
open PySem.SeqAt
open PySem.AutoSeq1 (wpAny_loadPart')
open PySem.MeetsSeq PySem.MeetsSeq2 PySem.MeetsSeq3
end
section
variable {prog:Program} {w:World} {A:Around} {E:Value->Shared->Prop} {s:Shared}
def su(n d:Nat):Option Int->Nat
 |none=>d
 |some v=>if v<0 then (v+(n:Int)).toNat else min v.toNat n
end
end HT
namespace L2
open PySem PySem.Spec PyProof.Rows
abbrev TO:=St->Hp->(Option Int->Hp->Prop)->Prop
def PO(X:Cx)(e:Option Expr)(t:TO):Prop:=
 ∀ (ae:List (Addr×Obj)) (s:Shared) (σ:St) (H:Hp) (Q:Option Int->Hp->Prop),aO X ae σ H s->t σ H Q->
  wpAny (model X.prog X.w) X.A (evalPart e X.env) (fun u s'=>∃o H',aO X ae σ H' s'/\IsPart u o/\Q o H') X.xe s
def HU:TO:=fun _ H Q=>Q none H
def Px(t:TE):TO:=fun σ H Q=>t σ H fun x H1=>∃i,x=.int i/\Q (some i) H1
section
variable {X:Cx} {e:Expr} {te:TE} {lo hi:Option Expr} {tl th:TO} {pos p2:Pos}
theorem vf:PO X none HU:=by
 intro ae s σ H Q I h;rw[evalPart_none];exact wpAny_pure ⟨none,H,I,.none,h⟩
theorem vg(h:PE X e te):PO X (some e) (Px te):=by
 intro ae s σ H Q I hw;rw[evalPart_some];refine dq (h ae s σ H _ I hw) fun u s1 ⟨x,H1,I1,r1,q1⟩=>?_;obtain⟨i,rfl,q⟩:=q1;obtain⟨t,rfl⟩:=r1;exact⟨some i,H1,I1,.int i t,q⟩
def YN(X:Cx)(r:V->Option Int->Option Int->Hp->VK->Prop):Prop:=
 ∀ (ae:List (Addr×Obj)) (s:Shared) (σ:St) (H:Hp) (x:V) (v vl vu:Value) (lo hi:Option Int) (sl:Addr) (Q:VK),aO X ae σ H s->bz x v->s.heap.IsSliceOf sl vl vu .none->IsPart vl lo->IsPart vu hi->r x lo hi H Q->
  ∃T id,typeLookup (.type T) "__getitem__"=pure (some (.builtin id))/\s.TypeIs v T/\wpAny (model X.prog X.w) X.A (getItem v (.ref sl)) (EP X ae σ Q) X.xe s
def tSl(r:V->Option Int->Option Int->Hp->VK->Prop)(te:TE)(tl th:TO):TE:=fun σ H Q=>te σ H fun x H1=>tl σ H1 fun l H2=>th σ H2 fun u H3=>r x l u H3 Q
theorem qO(hr:YN X r)(he:PE X e te)(hl:PO X lo tl)(hu:PO X hi th):PE X (.Subscript e (.Slice lo hi none p2) pos) (tSl r te tl th):=by
 intro ae s σ H Q I h;refine Subscript_ (dq (he ae s σ H _ I h) fun v s1 ⟨x,H1,I1,r1,q1⟩=>?_);refine wpAny_Slice (dq (hl ae s1 σ H1 _ I1 q1) fun vl s2 ⟨l,H2,I2,pl,q2⟩=>dq (hu ae s2 σ H2 _ I2 q2) fun vu s3 ⟨u,H3,I3,pu,q3⟩=>?_);rw[evalPart_none];refine wpAny_pure ?_;have I4:aO X ae σ H3 { s3 with heap:=s3.heap.push { cls:=.type "slice",data:=.fields #[vl,vu,.none] } }:=I3.kept (t':=s3.toks) fun b ob q=>cB _ q;obtain⟨T,id,hT,ht,hg⟩:=hr ae { s3 with heap:=s3.heap.push { cls:=.type "slice",data:=.fields #[vl,vu,.none] } } σ H3 x v vl vu l u s3.heap.objs.size Q I4 r1 (Heap.IsSliceOf.new ..) pl pu q3;show wpAny (model X.prog X.w) X.A (subscriptTail e (.Slice lo hi none p2) v (.ref s3.heap.objs.size)) (EP X ae σ Q) X.xe { s3 with heap:=s3.heap.push { cls:=.type "slice",data:=.fields #[vl,vu,.none] } };exact tail_any (ops:=[.ref s3.heap.objs.size,v]) ht hT hg (by with_unfolding_all rfl)
def ji(xs:List V)(lo hi:Option Int):List V:=(xs.drop (HT.su xs.length 0 lo)).take (HT.su xs.length xs.length hi-HT.su xs.length 0 lo)
theorem wT(xs:List V)(lo hi:Option Int):(ji xs lo hi).length<=xs.length:=by
 unfold ji;rw[jH,lj];lia
end
def ET(n:Nat)(i:Int):Option Nat:=if 0<=i then (if i<n then some i.toNat else none) else if -(n:Int)<=i then some (i+n).toNat else none
def wU{α:Type}(xs:List α)(i:Int):Option α:=(ET xs.length i).bind fun j=>xs[j]?
theorem vh(h:ET n i=some j):seqIndex? i n=some j/\j<n/\-(n:Int)<=i/\i<n:=by
 unfold ET at h;by_cases h0:0<=i
 .rw[av h0] at h;by_cases h1:i<n
  .rw[av h1] at h;have e:i.toNat=j:=bN h;exact⟨by rw[seqIndex_of h0 h1,e],by lia,by lia,h1⟩
  .rw[au h1] at h;cases h
 .rw[au h0] at h;by_cases h1:-(n:Int)<=i
  .rw[av h1] at h;have e:(i+n).toNat=j:=bN h;exact⟨by rw[seqIndex_neg (by lia) h1,e],by lia,h1,by lia⟩
  .rw[au h1] at h;cases h
theorem Bx(h:wU xs i=some v):∃j,seqIndex? i xs.length=some j/\xs[j]?=some v/\j<xs.length/\-(xs.length:Int)<=i/\i<xs.length:=by
 unfold wU at h;cases e:ET xs.length i with
 |none=>rw[e] at h;cases h
 |some j=>
  rw[e] at h;obtain⟨h1,h2,h3,h4⟩:=vh e;exact⟨j,h1,h,h2,h3,h4⟩
theorem aB{α:Type}{xs:List α}{j:Nat}{v:α}(h:xs[j]?=some v):wU xs (j:Int)=some v:=by
 have hj:j<xs.length:=(cJ.mp h).1;have e:ET xs.length (j:Int)=some j:=by
  unfold ET;rw[av (by lia),av (by lia)];simp
 unfold wU;rw[e];exact h
theorem wV(xs:List α)(v:α):wU (xs++[v]) (-1)=some v:=by
 have hl:(xs++[v]).length=xs.length+1:=by simp
 have e:ET (xs++[v]).length (-1)=some xs.length:=by
  unfold ET;rw[hl,au (by decide),av (by lia)];congr 1;lia
 unfold wU;rw[e];show (xs++[v])[xs.length]?=some v;simp
def HV(b:Expr):Prop:=∀o i,subscripted b false o i=operate [o,i] (getItem o i)
def US(X:Cx)(r:R2):Prop:=
 ∀ (value slice:Expr) (ae:List (Addr×Obj)) (s:Shared) (σ:St) (H:Hp) (x y:V) (v u:Value) (Q:VK),aO X ae σ H s->bz x v->bz y u->r x y H Q->
  subscripted slice false v u=operate [v,u] (getItem v u)->wpAny (model X.prog X.w) X.A (subscriptTail value slice v u) (EP X ae σ Q) X.xe s
def YO(X:Cx)(id:String)(r:V->List V->Hp->VK->Prop):Prop:=
 ∀ (ae:List (Addr×Obj)) (s:Shared) (σ:St) (H:Hp) (x:V) (xs:List V) (v:Value) (us:List Value) (Q:VK),aO X ae σ H s->bz x v->aT xs us->r x xs H Q->
  wpAny (model X.prog X.w) X.A (call (.builtin id) (v::us)) (EP X ae σ Q) X.xe s
section
variable {X:Cx} {a b:Expr} {ta tb:TE} {pos:Pos}
theorem ba(hr:US X r)(ha:PE X a ta)(hb:PE X b tb)(hs:HV b):PE X (.Subscript a b pos) (l6 r ta tb):=by
 intro ae s σ H Q I h;exact Subscript_ (LG ha hb I h fun v u s2 x y H2 I2 rx ry q=>hr a b ae s2 σ H2 x y v u Q I2 rx ry q (hs _ _))
def EU(K:PySem.W.Frag):R2:=fun x y H Q=>∃p xs i v,x=.ref p/\y=.int i/\aZ K H p xs/\wU xs i=some v/\Q v H
def C4(K:PySem.W.Frag):R2:=fun x y H Q=>∃p xs i v,x=.ref p/\y=.int i/\c_ K H p xs/\wU xs i=some v/\Q v H
theorem aR:US X (EU X.K):=by
 intro value slice ae s σ H x y v u Q I rx ry h hs;obtain⟨p,xs,i,z,rfl,rfl,hq,he,q⟩:=h;cases rx;obtain⟨t,rfl⟩:=ry;obtain⟨its,r,pl,hz⟩:=I.list hq;obtain⟨j,h1,h2,h3,h4,h5⟩:=Bx he;obtain⟨w,ew,Bp⟩:=r.get h2;have hl:=r.length;have hn:=ve;have fin:EP X ae σ Q w s:=⟨z,H,I,Bp,q⟩
 by_cases h0:0<=i
 .have hj:i.toNat=j:=by
   rw[seqIndex_of h0 h5] at h1;exact bN h1
  exact item_listR pl.isList h0 (by lia) (by rw[hj];simpa using ew) fin hs
 .have hj:(i+(its.toArray.size:Int)).toNat=j:=by
   rw[seqIndex_neg (by lia) h4] at h1;rw[cu,<-hl];exact bN h1
  exact subscriptTail_builtinR (x:=w) pl.isList.typeIs slot_list_getitem.lookup
   (wpAny_getItem_list_neg (Q:=fun r s'=>r=w/\EP X ae σ Q r s') pl.isList (by lia) (by rw[cu] <;> lia) (by lia) (by rw[hj];simpa using ew) ⟨rfl,fin⟩) hs
theorem iG:US X (C4 X.K):=by
 intro value slice ae s σ H x y v u Q I rx ry h hs;obtain⟨p,xs,i,z,rfl,rfl,hq,he,q⟩:=h;cases rx;obtain⟨t,rfl⟩:=ry;obtain⟨its,r,pl,hz⟩:=I.tuple hq;obtain⟨j,h1,h2,h3,h4,h5⟩:=Bx he;obtain⟨w,ew,Bp⟩:=r.get h2;have hl:=r.length;have hn:=ve;have fin:EP X ae σ Q w s:=⟨z,H,I,Bp,q⟩
 exact subscriptTail_builtinR (x:=w) pl.typeIs slot_tuple_getitem.lookup
  (getItem_tuple (j:=j) (Q:=fun r s'=>r=w/\EP X ae σ Q r s') pl (by lia) (by lia) (by rw[cu,<-hl];exact h1) (by simpa using ew) ⟨rfl,fin⟩) hs
theorem zV(its:List Value)(n j:Nat)(u:Value):Obj.mapSeq (·.setIfInBounds j u) { cls:=.type "list",data:=.seq its.toArray n }={ cls:=.type "list",data:=.seq (its.set j u).toArray n }:=by
 simp[Obj.mapSeq]
theorem aO.lst(I:aO X ae σ H s)(h:H p=some (.lst xs)):
  ∃ (its:List Value) (n:Nat),aT xs its/\s.heap.get? p=some { cls:=.type "list",data:=.seq its.toArray n }/\xs.length<=sizeLine:=by
 obtain⟨z,its,n,r,e⟩:=I.bZ p _ h;exact⟨its,n,r,e,z⟩
theorem aO.LM{ae:List (Addr×Obj)}{σ:St}{H:Hp}{s:Shared}{p:Addr}{xs ys:List V}{its its':List Value}{n n':Nat}{f:Obj->Obj}(I:aO X ae σ H s)(h:H p=some (.lst xs))(ho:s.heap.get? p=some { cls:=.type "list",data:=.seq its.toArray n })(hf:f { cls:=.type "list",data:=.seq its.toArray n }={ cls:=.type "list",data:=.seq its'.toArray n' })(r:aT ys its')(hz:ys.length<=sizeLine)(t:Nat):
  aO X ae σ (upd H p (.lst ys)) { s with heap:=s.heap.update p f,toks:=t }:=by
 have e:(s.heap.update p f).get? p=some { cls:=.type "list",data:=.seq its'.toArray n' }:=by
  rw[k8 f ho (by rw[hf] <;> rfl),hf]
 refine I.write (x:=p) (e:=p) (by rw[h];trivial) (.inl rfl) (fun b u hb q=>(k4 _ _ (cZ hb)).trans q) ⟨_,e⟩ ?_;exact⟨hz,its',n',r,e⟩
def Py:V->V->V->Hp->(Hp->Prop)->Prop:=fun o i v H Q=>∃p xs k j,o=.ref p/\i=.int k/\H p=some (.lst xs)/\ET xs.length k=some j/\Q (upd H p (.lst (xs.set j v)))
theorem dY:Pc X Py:=by
 intro ae s σ H o i v ov iv u Q I ro ri rv h;obtain⟨p,xs,k,j,rfl,rfl,hp,hj,q⟩:=h;cases ro;obtain⟨t,rfl⟩:=ri;obtain⟨its,n,r,ho,hz⟩:=I.lst hp;obtain⟨h1,h2,h3,h4⟩:=vh hj;have hl:=r.length;have hn:=ve;have I':aO X ae σ (upd H p (.lst (xs.set j v))) { s with heap:=s.heap.update p (Obj.mapSeq (·.setIfInBounds j u)) }:=
  I.LM hp ho (zV its n j u) (r.set rv j) (by rw[kQ];exact hz) s.toks
 by_cases h0:0<=k
 .have hk:k.toNat=j:=by
   rw[seqIndex_of h0 h4] at h1;exact bN h1
  exact PySem.W.ki_setAt ho h0 (by lia) (by rw[cu,<-hl];exact h4) (by rw[hk];exact⟨_,I',q⟩)
 .have hk:(k+(its.toArray.size:Int)).toNat=j:=by
   rw[seqIndex_neg (by lia) h3] at h1;rw[cu,<-hl];exact bN h1
  exact PySem.W.ki_setBack ho (by lia) (by rw[cu,<-hl];exact h3) (by lia) (by rw[hk];exact⟨_,I',q⟩)
theorem vi(lo hi:Option Int)(n:Nat):(sliceBounds lo hi none n).1=((HT.su n 0 lo:Nat):Int)/\(sliceBounds lo hi none n).2.1=((HT.su n n hi:Nat):Int)/\(sliceBounds lo hi none n).2.2=1:=by
 refine⟨?_,?_,rfl⟩
 .cases lo with
  |none=>simp[sliceBounds,HT.su]
  |some i=>
   simp only[sliceBounds,HT.su,Option.getD_none,show (1:Int) > 0 by decide,iD];by_cases h:i<0
   .simp only[h,iD] <;> lia
   .simp only[h,eJ] <;> lia
 .cases hi with
  |none=>simp[sliceBounds,HT.su]
  |some i=>
   simp only[sliceBounds,HT.su,Option.getD_none,show (1:Int) > 0 by decide,iD];by_cases h:i<0
   .simp only[h,iD] <;> lia
   .simp only[h,eJ] <;> lia
theorem sw(its:List Value)(lo hi:Option Int):slicePick its.toArray lo hi none=((its.drop (HT.su its.length 0 lo)).take (HT.su its.length its.length hi-HT.su its.length 0 lo)).toArray:=by
 obtain⟨h1,h2,h3⟩:=vi lo hi its.toArray.size;unfold slicePick;rw[h1,h2,h3];simp only[sliceRange_one,pick_run,cu] <;> rfl
def UT(K:PySem.W.Frag):V->Option Int->Option Int->Hp->VK->Prop:=fun x lo hi H Q=>∃a xs,x=.ref a/\aZ K H a xs/\∀p,H p=none->Q (.ref p) (upd H p (.lst (ji xs lo hi)))
theorem vj:YN X (UT X.K):=by
 intro ae s σ H x v vl vu lo hi sl Q I rx hs pl pu h;obtain⟨a,xs,rfl,hx,q⟩:=h;cases rx;obtain⟨its,r,ht,hz⟩:=I.list hx;have fm:=r.length;refine⟨"list",_,slot_list_getitem.lookup,ht.isList.typeIs,?_⟩;refine wpAny_getItem_list_slice ht.isList hs pl pu .none (by simp) ?_ (by rw[cu] <;> lia);rw[sw,<-fm];refine⟨.ref s.heap.objs.size,_,I.laid (t':=s.toks) (o:=.lst (ji xs lo hi)) (fun b ob q=>cB _ q) (aN _) ?_,rfl,q _ (I.bZ.fresh (aN _))⟩;exact⟨a8 (wT xs lo hi) hz,_,0,(r.drop (HT.su xs.length 0 lo)).take (HT.su xs.length xs.length hi-HT.su xs.length 0 lo),cX _ rfl⟩
def fq:V->Bool
 |.cS=>true
 |.bl _=>true
 |.int _=>true
 |.str _=>true
 |_=>false
def sE:V->V->Bool
 |.cS,.cS=>true
 |.bl a,.bl b=>a==b
 |.bl a,.int b=>(if a then 1 else 0)==b
 |.int a,.bl b=>a==(if b then 1 else 0)
 |.int a,.int b=>a==b
 |.str a,.str b=>a==b
 |_,_=>false
theorem zW(ry:bz y u)(rx:bz x v)(fy:fq y=true)(fx:fq x=true):SeqAt.EqAt A s u v (sE y x):=by
 cases y with
 |cS=>
  cases ry;cases x with
  |cS=>cases rx;exact SeqAt.EqAt.same _
  |bl b=>cases rx;exact SeqAt.EqAt.none_bool b
  |int b=>obtain⟨t,rfl⟩:=rx;exact SeqAt.EqAt.none_int b t
  |str b=>obtain⟨t,rfl⟩:=rx;exact SeqAt.EqAt.none_str b t
  |_=>exact absurd (show false=true from fx) cr
 |bl a=>
  cases ry;cases x with
  |cS=>cases rx;exact SeqAt.EqAt.bool_none a
  |bl b=>cases rx;exact SeqAt.EqAt.bool_bool a b
  |int b=>obtain⟨t,rfl⟩:=rx;exact SeqAt.EqAt.bool_int a b t
  |str b=>obtain⟨t,rfl⟩:=rx;exact SeqAt.EqAt.bool_str a b t
  |_=>exact absurd (show false=true from fx) cr
 |int a=>
  obtain⟨t',rfl⟩:=ry;cases x with
  |cS=>cases rx;exact SeqAt.EqAt.int_none a t'
  |bl b=>cases rx;exact SeqAt.EqAt.int_bool a t' b
  |int b=>obtain⟨t,rfl⟩:=rx;exact SeqAt.EqAt.int_int a t' b t
  |str b=>obtain⟨t,rfl⟩:=rx;exact SeqAt.EqAt.int_str a t' b t
  |_=>exact absurd (show false=true from fx) cr
 |str a=>
  obtain⟨t',rfl⟩:=ry;cases x with
  |cS=>cases rx;exact SeqAt.EqAt.str_none a t'
  |bl b=>cases rx;exact SeqAt.EqAt.str_bool a t' b
  |int b=>obtain⟨t,rfl⟩:=rx;exact SeqAt.EqAt.str_int a t' b t
  |str b=>obtain⟨t,rfl⟩:=rx;exact SeqAt.EqAt.str_str a t' b t
  |_=>exact absurd (show false=true from fx) cr
 |_=>exact absurd (show false=true from fy) cr
def C5(x:V)(u:Value):Bool:=match u with
 |.none=>sE .cS x
 |.bool b=>sE (.bl b) x
 |.int i _=>sE (.int i) x
 |.str z _=>sE (.str z) x
 |_=>false
theorem EV(r:bz y u)(f:fq y=true):C5 x u=sE y x:=by
 cases y with
 |cS=>cases r;rfl
 |bl b=>cases r;rfl
 |int i=>obtain⟨t,rfl⟩:=r;rfl
 |str z=>obtain⟨t,rfl⟩:=r;rfl
 |_=>exact absurd (show false=true from f) cr
theorem pP:∀ {xs:List V} {us:List Value},aT xs us->xs.all fq=true->us.any (C5 x)=xs.any fun y=>sE y x
 |_,_,.nil,_=>rfl
 |y::xs,u::us,.cons r t,f=>by
  rw[jM,gw] at f;rw[nw,nw,EV r f.1,pP t f.2]
theorem l9(rx:bz x v)(fx:fq x=true):∀ {xs:List V} {us:List Value},aT xs us->xs.all fq=true->∀u∈us,SeqAt.EqAt A s u v (C5 x u)
 |_,_,.nil,_=>fun u hu=>by cases hu
 |y::xs,u::us,.cons r t,f=>fun u' hu=>by
  rw[jM,gw] at f;rcases bg.mp hu with rfl|hu
  .rw[EV r f.1];exact zW r rx f.1 fx
  .exact l9 rx fx t f.2 u' hu
def Tk(x:V)(xs:List V):Bool:=xs.any fun y=>sE y x
def YQ(K:PySem.W.Frag)(Pz:Bool):R2:=fun x y H Q=>∃p xs,y=.ref p/\(aZ K H p xs\/c_ K H p xs)/\fq x=true/\xs.all fq=true/\Q (.bl (if Pz then !Tk x xs else Tk x xs)) H
theorem C6:l4 X (compareOp .In) (YQ X.K false):=by
 intro ae s σ H x y v u Q I rx ry h;obtain⟨p,xs,rfl,hq,fx,fs,q⟩:=h;cases ry;rcases hq with hq|hq
 .obtain⟨its,r,pl,hz⟩:=I.list hq;refine SeqAt.in_listAt (C5 x) pl.isList (fun w hw=>l9 rx fx r fs w (by simpa using hw)) ⟨.bl _,H,I,rfl,?_⟩;rw[show its.toArray.any (C5 x)=its.any (C5 x) by simp,pP r fs];exact q
 .obtain⟨its,r,pl,hz⟩:=I.tuple hq;refine SeqAt.in_tupleAt (C5 x) pl (fun w hw=>l9 rx fx r fs w (by simpa using hw)) ⟨.bl _,H,I,rfl,?_⟩;rw[show its.toArray.any (C5 x)=its.any (C5 x) by simp,pP r fs];exact q
theorem aM:eK X (.builtin "len") (fun xs H Q=>∃p ys,xs=[.ref p]/\(aZ X.K H p ys\/c_ X.K H p ys)/\Q (.int ys.length) H):=by
 intro ae s σ H xs us Q I r h;obtain⟨p,ys,rfl,hq,q⟩:=h;obtain⟨u,rfl,rx⟩:=EK r;cases rx;have hn:=ve;rcases hq with hq|hq
 .obtain⟨its,r',pl,hz⟩:=I.list hq;have fm:=r'.length;exact Calls.call_len_list pl.isList (by simp only[cu] <;> lia) ⟨.int ys.length,H,I.tok _,⟨s.toks+1,by rw[cu,fm]⟩,q⟩
 .obtain⟨its,r',pl,hz⟩:=I.tuple hq;have fm:=r'.length;exact len_tuple pl (by simp only[cu] <;> lia) ⟨.int ys.length,H,I.tok _,⟨s.toks+1,by rw[cu,fm]⟩,q⟩
theorem iH:eK X (.type "tuple") (fun xs H Q=>∃p ys,xs=[.ref p]/\((aZ X.K H p ys/\∀l,H l=none->Q (.ref l) (upd H l (.tup ys)))\/(c_ X.K H p ys/\Q (.ref p) H))):=by
 intro ae s σ H xs us Q I r h;obtain⟨p,ys,rfl,h⟩:=h;obtain⟨u,rfl,rx⟩:=EK r;cases rx;rcases h with ⟨hq,q⟩|⟨hq,q⟩
 .obtain⟨its,r',pl,hz⟩:=I.list hq;have fm:=r'.length;refine call_tuple_list pl.isList (fun h' kp=>?_) (by simp only[cu] <;> lia);have I1:aO X ae σ H { s with heap:=h' }:=I.kept (t':=s.toks) kp;have I2:aO X ae σ (upd H h'.objs.size (.tup ys)) { s with heap:=h'.push { cls:=.type "tuple",data:=.seq its.toArray } }:=
   I1.laid (t':=s.toks) (fun b o e=>cB _ e) (aN _) (show cC X.prog X.w _ _ _ (.tup ys) from ⟨hz,its,r',nF.new _ _⟩)
  exact⟨.ref h'.objs.size,_,I2,rfl,q _ (I1.bZ.fresh (aN _))⟩
 .obtain⟨its,r',pl,hz⟩:=I.tuple hq;exact call_tuple_same pl ⟨.ref p,H,I,rfl,q⟩
def UU(K:PySem.W.Frag)(T:String)(x:V)(H:Hp):Prop:=match x with
 |.str _=>T="str"
 |.int _=>T="int"
 |.ref p=>(T="list"/\∃xs,aZ K H p xs)\/(T="tuple"/\∃o,K.lookup p=some o/\o.cls=.type "tuple"/\o.dict=none)\/
   (T="dict"/\((∃cL,H p=some (.dK cL))\/∃cL,H p=some (.dT cL)))\/(T="set"/\∃S n,H p=some (.set S n))
 |_=>False
theorem EW(I:aO X ae σ H s)(r:bz x v)(ty:UU X.K T x H):
  s.TypeIs v T/\∀a,v=.ref a->∃ob,s.heap.get? a=some ob/\ob.dict=none:=by
 cases x with
 |str z=>
  obtain⟨t,rfl⟩:=r;cases (show T="str" from ty);exact⟨typeIs_str s z t,fun _ e=>nomatch e⟩
 |int i=>
  obtain⟨t,rfl⟩:=r;cases (show T="int" from ty);exact⟨typeIs_int s i t,fun _ e=>nomatch e⟩
 |ref p=>
  cases r;rcases ty with ⟨rfl,xs,hq⟩|⟨rfl,o,hk,hc,hd⟩|⟨rfl,hk⟩|⟨rfl,S,n,hk⟩
  .obtain⟨its,_,pl,_⟩:=I.list hq;refine⟨pl.isList.typeIs,fun a e=>?_⟩;cases e;obtain⟨o,n,e,c,hd,_⟩:=pl;exact⟨o,e,hd⟩
  .refine⟨⟨o,I.lZ p o hk,hc⟩,fun a e=>?_⟩;cases e;exact⟨o,I.lZ _ o hk,hd⟩
  .have z:∃o,s.heap.get? p=some o/\o.ExactDict:=by
    rcases hk with ⟨cL,hk⟩|⟨cL,hk⟩
    .obtain⟨_,_,_,_,o,_,_,e,ex,_⟩:=I.bZ p _ hk;exact⟨o,e,ex⟩
    .obtain⟨_,_,_,_,o,_,_,e,ex,_⟩:=I.bZ p _ hk;exact⟨o,e,ex⟩
   obtain⟨o,e,ex⟩:=z;refine⟨⟨o,e,ex.1⟩,fun a e2=>?_⟩;cases e2;exact⟨o,e,ex.2.1⟩
  .obtain⟨o,_,_,_,e,ex,_⟩:=I.bZ p _ hk;refine⟨⟨o,e,ex.1⟩,fun a e2=>?_⟩;cases e2;exact⟨o,e,ex.2.1⟩
 |_=>exact False.elim ty
def UV(K:PySem.W.Frag)(T:String)(r:V->List V->Hp->VK->Prop)(to:TE):TE:=fun σ H Q=>to σ H fun x H1=>UU K T x H1/\r x [] H1 Q
def YR(K:PySem.W.Frag)(T:String)(r:V->List V->Hp->VK->Prop)(to:TE)(t:TA):TE:=fun σ H Q=>to σ H fun x H1=>UU K T x H1/\t σ H1 fun xs H2=>r x xs H2 Q
variable {o e:Expr} {es:List Expr} {to:TE} {t:TA} {name:Str} {qM qP:Pos} {T id:String} {r:V->List V->Hp->VK->Prop}
theorem LN(pa:PlainAttrs T)(slot:Slot T name id)(UX:typeOf (.builtin id)=pure (.type "method_descriptor"))(hm:YO X id r)(ho:PE X o to)(EX:attributeBase o name X.env (eval o X.env)=eval o X.env:=by rfl)(EY:(qM.endLine==qP.line)=true:=by rfl):PE X (.Call (.Attribute o name qM) [] [] qP) (UV X.K T r to):=by
 intro ae s σ H Q I h;refine wpAny_Call_method0_late EX EY (dq (ho ae s σ H _ I h) fun v s1 ⟨x,H1,I1,r1,ty,q1⟩=>?_);obtain⟨h1,h2⟩:=EW I1 r1 ty;exact⟨T,id,pa,slot,UX,h1,h2,Calls.callWith_builtin rfl (PySem.evalArgs_none (hm ae s1 σ H1 x [] v [] Q I1 r1 .nil q1))⟩
theorem fK(pa:PlainAttrs T)(slot:Slot T name id)(UX:typeOf (.builtin id)=pure (.type "method_descriptor"))(hm:YO X id r)(ho:PE X o to)(ha:PA X (e::es) t)(EX:attributeBase o name X.env (eval o X.env)=eval o X.env:=by rfl)(UY:((backTo qP (starEach (e::es) X.env)).all (fun x=>!x.1)&&(backToKw qP (keywordEach [] X.env)).all (fun x=>x.1.isSome)
   && decide ((e::es).length+([]:List Keyword).length+(if ([]:List Keyword).isEmpty then 0 else 1)<30))=true:=by rfl)(EY:(qM.endLine==qP.line)=true:=by rfl)(hs:starEach (e::es) X.env=(false,eval e X.env)::starEach es X.env:=by rfl)(zX:(backTo qP (starEach es X.env)).any (·.1)=false:=by rfl):
  PE X (.Call (.Attribute o name qM) (e::es) [] qP) (YR X.K T r to t):=by
 intro ae s σ H Q I h;refine wpAny_Call_method_late EX UY EY rfl (dq (ho ae s σ H _ I h) fun v s1 ⟨x,H1,I1,r1,ty,q1⟩=>?_);obtain⟨h1,h2⟩:=EW I1 r1 ty;refine⟨T,id,pa,slot,UX,h1,h2,?_⟩;have hA:=ha qP ae s1 σ H1 _ I1 q1;rw[hs] at hA |-;refine Calls.callWith_builtin (by show (false||(backTo qP (starEach es X.env)).any (·.1))=false;rw[zX] <;> rfl) (Calls.evalArgs_plain ?_);exact dq hA fun us s2 ⟨vs,H2,I2,r2,q2⟩=>hm ae s2 σ H2 x vs v us Q I2 r1 r2 q2
end
def PD(X:Cx)(id:String)(r:V->List V->Hp->VK->Prop):Prop:=
 ∀ (ae:List (Addr×Obj)) (s:Shared) (σ:St) (H:Hp) (x:V) (xs:List V) (v:Value) (us:List Value) (Q:VK),aO X ae σ H s->bz x v->aT xs us->r x xs H Q->
  wpAny (model X.prog X.w) X.A (call (.builtin id) (v::us)) (EP X ae σ Q) X.xe s
theorem aT.one{x:V}{us:List Value}(h:aT [x] us):∃u,us=[u]/\bz x u:=by
 cases h with
 |cons r h=>cases h;exact⟨_,rfl,r⟩
theorem aT.two{x y:V}{us:List Value}(h:aT [x,y] us):∃u v,us=[u,v]/\bz x u/\bz y v:=by
 cases h with
 |cons r h=>
  cases h with
  |cons q h=>cases h;exact⟨_,_,rfl,r,q⟩
theorem aT.zero:∀ {us:List Value},aT [] us->us=[]
 |_,.nil=>rfl
theorem aT.eraseIdx:∀ {xs:List V} {us:List Value} (i:Nat),aT xs us->aT (xs.eraseIdx i) (us.eraseIdx i)
 |_,_,_,.nil=>.nil
 |_,_,0,.cons _ t=>t
 |_,_,i+1,.cons r t=>.cons r (aT.eraseIdx i t)
theorem aT.reverse(h:aT xs us):aT xs.reverse us.reverse:=by
 induction h with
 |nil=>exact .nil
 |cons r t ih=>rw[zi,zi];exact aT.append ih (.cons r .nil)
theorem aT.rep(h:aT xs us):∀k:Nat,aT (List.replicate k xs).flatten (List.replicate k us).flatten
 |0=>.nil
 |k+1=>by
  rw[k_,k_,qm,qm];exact aT.append h (aT.rep h k)
theorem tR:∀ (l:List α) (i:Nat),(l.eraseIdx i).length<=l.length
 |[],_=>aN _
 |_::_,0=>qD _
 |_::r,i+1=>Nat.succ_le_succ (tR r i)
theorem tS(its:List Value):∀ (k:Nat) (cH:List Value),
  List.foldl (fun x1 x2=>x1++x2) cH.toArray (List.replicate k its.toArray)=(cH++(List.replicate k its).flatten).toArray
 |0,cH=>by simp
 |k+1,cH=>by
  have e:cH.toArray++its.toArray=(cH++its).toArray:=by simp
  have e2:(cH++its)++(List.replicate k its).flatten=cH++(List.replicate (k+1) its).flatten:=by
   rw[k_,qm,gv]
  rw[<-e2,<-tS its k (cH++its),<-e,k_,uS]
section
variable {X:Cx} {ae:List (Addr×Obj)} {σ:St} {H:Hp} {s:Shared} {l b:Addr} {xs ys zs:List V}
theorem aO.HW{its its':List Value}{n:Nat}{f:Array Value->Array Value}{t':Nat}(I:aO X ae σ H s)(hH:H l=some (.lst xs))(e:s.heap.get? l=some { cls:=.type "list",data:=.seq its.toArray n })(hf:f its.toArray=its'.toArray)(hv:aT ys its')(hz:ys.length<=sizeLine):
  aO X ae σ (upd H l (.lst ys)) { s with heap:=s.heap.update l (Obj.mapSeq f),toks:=t' }:=by
 have q:=PySem.IsL.update e f;rw[hf] at q;refine I.write (x:=l) (e:=l) (by rw[hH];exact trivial) (.inl rfl) (fun b' u hb hu=>(k4 s.heap (Obj.mapSeq f) (cZ hb)).trans hu) ⟨_,q⟩ ?_;exact⟨hz,its',_,hv,q⟩
theorem aO.LP(I:aO X ae σ H s)(hv:aT ys its)(hz:ys.length<=sizeLine):
  aO X ae σ (upd H s.heap.objs.size (.lst ys)) { s with heap:=s.heap.push { cls:=.type "list",data:=.seq its.toArray },toks:=t' }:=
 I.laid (fun _ _ q=>cB _ q) (aN _) ⟨hz,its,0,hv,cX _ rfl⟩
theorem aO.fresh(I:aO X ae σ H s):H s.heap.objs.size=none:=I.bZ.fresh (aN _)
theorem aO.qQ(I:aO X ae σ H s)(hH:H l=some (.lst xs)):xs.length<=sizeLine/\∃ (its:List Value) (n:Nat),aT xs its/\xs.length=its.length/\s.heap.get? l=some { cls:=.type "list",data:=.seq its.toArray n }:=by
 obtain⟨z,its,n,r,e⟩:=I.bZ l _ hH;exact⟨z,its,n,r,r.length,e⟩
theorem wW(h:n<=sizeLine):Builtin.List.listTooLong n=false:=by
 unfold Builtin.List.listTooLong;exact fc (by lia)
end
section
variable {X:Cx}
def HX:V->List V->Hp->VK->Prop:=fun x vs H Q=>∃l xs y,x=.ref l/\vs=[y]/\H l=some (.lst xs)/\xs.length<sizeLine/\Q .cS (upd H l (.lst (xs++[y])))
theorem cz:PD X "list.append" HX:=by
 intro ae s σ H x vs v us Q I rx rv h;obtain⟨l,xs,y,rfl,rfl,hH,hz,q⟩:=h;cases rx;obtain⟨u,rfl,ru⟩:=rv.one;obtain⟨z,its,n,r,hl,e⟩:=I.qQ hH;refine jP F.slot_list_append ⟨_,e,rfl⟩ F.entry_list_append (F.args_list_append_2 _ _) (PySem.list_append l its.toArray n u (by rw[cu];lia)) ⟨e,?_⟩;refine⟨.cS,_,I.HW (its':=its++[u]) hH e (by simp) (r.append (.cons ru .nil)) ?_,rfl,q⟩;rw[cp,p_];lia
def HY:V->List V->Hp->VK->Prop:=fun x vs H Q=>∃l b xs zs,x=.ref l/\vs=[.ref b]/\H l=some (.lst xs)/\H b=some (.lst zs)/\xs.length+zs.length<=sizeLine/\Q .cS (upd H l (.lst (xs++zs)))
theorem C7:PD X "list.extend" HY:=by
 intro ae s σ H x vs v us Q I rx rv h;obtain⟨l,b,xs,zs,rfl,rfl,hH,hB,hz,q⟩:=h;cases rx;obtain⟨u,rfl,ru⟩:=rv.one;cases ru;obtain⟨z,its,n,r,hl,e⟩:=I.qQ hH;obtain⟨z2,vk,n2,r2,Ee,e2⟩:=I.qQ hB;have gJ:its.toArray.size+vk.toArray.size<=sizeLine:=by rw[cu,cu];lia
 have EZ:¬ (!its.toArray.isEmpty&&Builtin.List.listTooLong (its.toArray.size+vk.toArray.size))=true:=by
  rw[wW gJ,Bool.and_false];exact cr
 refine jP F.slot_list_extend ⟨_,e,rfl⟩ F.entry_list_extend (F.args_list_extend_2 _ _)
  (AutoSeq1.list_extend_list_list_0 l its.toArray n b vk.toArray n2 EZ (by rw[cu];lia) (by lia)) ⟨e,e2,?_⟩
 refine⟨.cS,_,I.HW (its':=its++vk) hH e (by simp) (r.append r2) ?_,rfl,q⟩;rw[cp];lia
def E1:V->List V->Hp->VK->Prop:=fun x vs H Q=>∃l xs i k y,x=.ref l/\vs=[.int i]/\H l=some (.lst xs)/\-(2 ^ 63)<=i/\i<2 ^ 63/\seqIndex? i xs.length=some k/\xs[k]?=some y/\Q y (upd H l (.lst (xs.eraseIdx k)))
theorem wX:PD X "list.pop" E1:=by
 intro ae s σ H x vs v us Q I rx rv h;obtain⟨l,xs,i,k,y,rfl,rfl,hH,h1,h2,hk,hy,q⟩:=h;cases rx;obtain⟨u,rfl,ru⟩:=rv.one;obtain⟨t,rfl⟩:=ru;obtain⟨z,its,n,r,hl,e⟩:=I.qQ hH;obtain⟨w,hw,Bp⟩:=r.get hy;refine jP F.slot_list_pop ⟨_,e,rfl⟩ F.entry_list_pop (F.args_list_pop_2 _ _)
  (MeetsSeq.list_pop_at l its.toArray n i t k w (fitsIndex_both h1 h2) (by rw[cu,<-hl];exact hk) (by rw[<-js];exact hw) (by rw[cu];lia)) ⟨e,?_⟩
 refine⟨y,_,I.HW (its':=its.eraseIdx k) hH e ?_ (r.eraseIdx k) ?_,Bp,q⟩
 .show its.toArray.eraseIdxIfInBounds k=(its.eraseIdx k).toArray;rw[List.eraseIdxIfInBounds_toArray]
 .have:=tR xs k;lia
def E2:V->List V->Hp->VK->Prop:=fun x vs H Q=>∃l xs,x=.ref l/\vs=[]/\H l=some (.lst xs)/\Q .cS (upd H l (.lst xs.reverse))
theorem zY:PD X "list.reverse" E2:=by
 intro ae s σ H x vs v us Q I rx rv h;obtain⟨l,xs,rfl,rfl,hH,q⟩:=h;cases rx;have hus:=rv.zero;subst hus;obtain⟨z,its,n,r,hl,e⟩:=I.qQ hH;refine jP F.slot_list_reverse ⟨_,e,rfl⟩ F.entry_list_reverse (F.args_list_reverse_1 _) (AutoSeq1.list_reverse_list_0 l its.toArray n (by rw[cu];lia)) ⟨e,?_⟩;refine⟨.cS,_,I.HW (its':=its.reverse) hH e (by simp) r.reverse ?_,rfl,q⟩;rw[List.length_reverse];lia
def PJ:R2:=fun x y H Q=>∃l b xs zs,x=.ref l/\y=.ref b/\H l=some (.lst xs)/\H b=some (.lst zs)/\xs.length+zs.length<=sizeLine/\∀p,H p=none->Q (.ref p) (upd H p (.lst (xs++zs)))
theorem qR:l4 X (binaryOp .Add) PJ:=by
 intro ae s σ H x y v u Q I rx ry h;obtain⟨l,b,xs,zs,rfl,rfl,hH,hB,hz,q⟩:=h;cases rx;cases ry;obtain⟨z,its,n,r,hl,e⟩:=I.qQ hH;obtain⟨z2,vk,n2,r2,Ee,e2⟩:=I.qQ hB;refine PySem.P.add_list e e2 ?_ (by rw[cu,cu];lia);have ea:its.toArray++vk.toArray=(its++vk).toArray:=by simp
 rw[ea];exact⟨.ref _,_,I.LP (t':=s.toks) (r.append r2) (by rw[cp];lia),rfl,q _ I.fresh⟩
def UZ:R2:=fun x y H Q=>∃l k xs,x=.ref l/\y=.int k/\H l=some (.lst xs)/\-(2 ^ 63)<=k/\k<2 ^ 63/\xs.length*k.toNat<=sizeLine/\
 ∀p,H p=none->Q (.ref p) (upd H p (.lst (List.replicate k.toNat xs).flatten))
theorem HZ(xs:List α)(k:Nat):(List.replicate k xs).flatten.length=k*xs.length:=by
 induction k with
 |zero=>simp
 |succ k ih=>rw[k_,qm,cp,ih,Nat.succ_mul,Nat.add_comm]
theorem zZ:l4 X (binaryOp .Mult) UZ:=by
 intro ae s σ H x y v u Q I rx ry h;obtain⟨l,k,xs,rfl,rfl,hH,h1,h2,hz,q⟩:=h;cases rx;obtain⟨t,rfl⟩:=ry;obtain⟨z,its,n,r,hl,e⟩:=I.qQ hH;have fm:its.toArray.size*k.toNat<=sizeLine:=by rw[cu,<-hl];exact hz
 have U0:¬ its.toArray.size*k.toNat > (2 ^ 63-1) / 8:=by
  have:(sizeLine:Nat)<=(2 ^ 63-1) / 8:=by decide
  lia
 have U1:¬ (!Builtin.List.listFitsIndex k)=true:=by
  rw[fitsIndex_both h1 h2];exact cr
 have EZ:¬ Builtin.List.listTooLong (its.toArray.size*k.toNat)=true:=by
  rw[wW fm];exact cr
 have qS:List.foldl (fun x1 x2=>x1++x2) #[] (List.replicate (if its.toArray.isEmpty=true then 0 else k.toNat) its.toArray)=(List.replicate k.toNat its).flatten.toArray:=by
  have f0:∀m:Nat,List.foldl (fun x1 x2=>x1++x2) #[] (List.replicate m its.toArray)=(List.replicate m its).flatten.toArray:=fun m=>by
   have:=tS its m [];rw[List.nil_append] at this;exact this
  rw[f0];cases its with
  |nil=>simp
  |cons a r'=>rw[au (by simp)]
 refine wpAny_binaryOp_repeat_ref (T:="list") (U:="int") (by decide) ⟨_,e,rfl⟩ (fun s'=>typeIs_int s' k t) noFill_list_mul F.fills_int_mul F.slot_int_rmul repeat_list F.slot_int_index.lookup
  (jP F.slot_int_rmul (typeIs_int s k t) F.entry_int_rmul (F.args_int_rmul_2 _ _) (int___rmul___int_list k t l its.toArray n)
   ⟨e,rfl,⟨_,e,rfl⟩,jP F.slot_list_mul ⟨_,e,rfl⟩ F.entry_list_mul (F.args_list_mul_2 _ _) (AutoListH.list___mul___list_int_3 l its.toArray n k t U1 U0 EZ) ⟨e,?_⟩⟩)
 rw[qS];exact⟨.ref _,_,I.LP (t':=s.toks) (r.rep k.toNat) (by rw[HZ,Nat.mul_comm];exact hz),rfl,q _ I.fresh⟩
end
section
variable {prog:Program} {w:World} {A:Around} {E:Value->Shared->Prop} {s:Shared}
end
section
variable {X:Cx}
end
end L2
namespace YS
open PySem PySem.W PySem.Calls PyProof.Rows
theorem pb:∀ (ns:List Int) (vs:List Value),WellAll P h vs (ns.map WData.int)->IntsAre vs ns:=by
 intro ns;induction ns with
 |nil=>
  intro vs w;rw[List.map_nil] at w;cases w;exact .nil
 |cons n ns ih=>
  intro vs w;rw[ff] at w;cases w with
  |cons a b=>
   cases a;exact .cons _ _ (ih _ b)
theorem C8{l:OpenLaw}{n:Nat}(hn:l.most=some n){P:Params}{h:Heap}{args:List WData}{E3:List Value}(H_:l.row.toRowW.claim.pre args=true)(U2:WellAll P h E3 args):
  ∃a vs ns,E3=[Value.ref a]/\args=[WData.list (ns.map WData.int)]/\h.get? a=some { cls:=.type "list",data:=.seq vs.toArray }/\IntsAre vs ns/\ns.length<=n:=by
 have hsh:WShape.hasAll [] args [.list .int]=true:=(pre_splitW H_).1;have hc:l.pre.holds [] { args:=args }=true:=(pre_splitW H_).2;obtain⟨d,r,rfl,h1,h2⟩:=hasAllW_cons hsh;obtain rfl:=hasAllW_nil h2;obtain⟨xs,rfl,h3⟩:=hasW_list h1;obtain⟨ns,rfl⟩:=items_int h3;have fm:ns.length<=n:=by
  unfold OpenLaw.pre at hc;have h4:(WTm.not (.lt (.lit (.int (n:Int))) (.len (.arg 0)))).holds [] { args:=[.list (ns.map .int)] }=true:=by
   have h4:=(holds_andW hc).1;rw[hn] at h4;exact h4
  have h5:=condW_of h4 (w_not (w_lt w_lit (w_len_list (w_arg rfl))));rw[aW] at h5;refine Nat.le_of_not_lt fun q=>?_;have q':(n:Int)<((ns.length:Nat):Int):=by lia
  first
   |(rw[iu q'] at h5;exact absurd h5 (by decide))
   |(simp at h5;lia)
 cases U2 with
 |cons w1 w2=>
  cases w2;cases w1 with
  |list ho sG=>exact⟨_,_,ns,rfl,rfl,ho,pb ns _ sG,fm⟩
theorem C9(l:OpenLaw)(args:List WData):l.row.toRowW.claim.post args (.bool true) args=true:=
 postW_of (r:=l.row.toRowW) (X:=(true==true))
  (show WShape.has [] (.bool true) .bool=true by first|rfl|decide|simp[WShape.has,WShape.arms,WShape.armsAll])
  (show (WTm.eq .res (.lit (.bool true))).value [] { args:=args,res:=some (.bool true),after:=args }=some (.bool (true==true)) from w_eq_bool (w_res rfl) w_lit) rfl
theorem wY{l:OpenLaw}{n:Nat}{q:Program}{tT:List Str}{XP:(Str->Option Value)->Heap->Prop}{YP:World->Heap->Prop}{d:DefRec}(hn:l.most=some n)(PL:d.params.defaults=[])(call:∀ (w:World) (s₀ s₁:Shared) (mg mb:Str->Option Value) (fa:Addr) (o:Obj) (pm cd l8:Value) (a:Addr) (vs:List Value) (ns:List Int),
   Ground q tT [] XP w s₀ mg mb s₁.heap->YP w s₁.heap->
   s₁.heap.get? fa=some o->o.data=.func (docDef d.name d.params d.body d.scope pm cd l8)->s₁.heap.CodeRec cd d.name->mg d.name=some (.ref fa)->
   s₁.heap.get? a=some { cls:=.type "list",data:=.seq vs.toArray }->IntsAre vs ns->ns.length<=n->s₁.gens=#[]->
   codeAny (model l.prog w) callerA (.call (.ref fa) ⟨[.ref a],[]⟩) (fun r s'=>r=.ok (.ret (.bool true))/\OldK s₁.heap s'.heap/\s'.os=s₁.os/\AllBare s'.gens) s₁):
  WalkO q tT XP YP l.row.toRowW d [] (fun f vs=>PySem.call f vs):=by
 intro w s₀ s₁ mg mb G Y fa o pm cd l8 dV kV ho hd tE hD PM hg args E3 as H_ aab hrd U2 vo;obtain rfl:dV=.none:=Dflts.none hD PL;obtain rfl:kV=.none:=Dflts.noKw hD;obtain⟨a,vs,ns,rfl,rfl,LQ,E4,fm⟩:=C8 hn H_ U2;refine enter_call (nB (call w s₀ s₁ mg mb fa o pm cd l8 a vs ns G Y ho (fd_plain hd) tE PM LQ E4 fm hg) fun r s' hq=>?_);obtain⟨rfl,h2,h3,h4⟩:=hq;exact⟨.inl ⟨.bool true,.bool true,[],rfl,fun _=>rfl,.bool true,C9 l _,fun _=>⟨List.Pairwise.nil,fun _ hm=>(nomatch hm)⟩⟩,h2,h3,h4⟩
section
variable {prog:Program} {w:World} {A:Around} {E:Value->Shared->Prop} {s:Shared} {K:Frag}
end
end YS
namespace L2
open PySem PySem.Spec PyProof.Rows
theorem tU:∀ {vs:List Value} {ns:List Int},IntsAre vs ns->aT (ns.map V.int) vs
 |_,_,.nil=>.nil
 |_,_,.cons n t h=>.cons ⟨t,rfl⟩ (tU h)
def eO(s:Stmt)(j:Nat):Stmt:=match s with
 |.ClassDef _ _ _ body _ _ _ _ _ _ _=>body.getD j (.Pass ⟨0,0,0,0⟩)
 |_=>.Pass ⟨0,0,0,0⟩
def dt(s:Stmt):Arguments:=match s with
 |.FunctionDef _ a _ _ _ _ _ _ _ _=>a
 |_=>{ posonlyargs:=[],args:=[],vararg:=none,kwonlyargs:=[],kw_defaults:=[],kwarg:=none,defaults:=[] }
def bR(s:Stmt):List Stmt:=match s with
 |.FunctionDef _ _ b _ _ _ _ _ _ _=>b
 |_=>[]
def ao(s:Stmt):Scope:=match s with
 |.FunctionDef _ _ _ _ _ _ sc _ _ _=>sc
 |_=>{ kind:=.function,names:=[],isGenerator:=false,isCoroutine:=false }
abbrev bb:yx:=fun _ _ _ _ _ _=>False
abbrev E0:XK:=fun _ _ _=>False
theorem aH:lC bb X E0:=fun _ _ _ _ _ _ _ h=>h.elim
structure ii(K:PySem.W.Frag)(x qual:Str)(st:Stmt)(f:Addr)(fd:FuncData):Prop where
 ex:∃ (oc:Value) (od:Option Addr) (kV l8 pm:Value) (an:Option Addr) (eL ct:Value) (yy:Array (Option Value)),
  fd=PySem.W.fnOf x qual (dt st) (bR st) (ao st) .none kV l8 pm an eL ct/\K.lookup f=some ⟨oc,od,.func fd,yy⟩/\PySem.W.codeIn K eL qual=true
 kp:PySem.W.keepIn K (.ref f)=true
section
variable {P:Program} {w:World} {K:PySem.W.Frag} {mg:Str->Option Value} {base:Heap}
theorem ii.ok{x qual:Str}{st:Stmt}{f:Addr}{fd:FuncData}{N ps:List Str}{k:Nat}{sp:Sp}(F:ii K x qual st f fd)(S:aP N ps (ao st))(len:∀vs H Q E,sp vs H Q E->vs.length=ps.length)(wS:∀ (eL:Value) (A:Around) (outer:List Env) (s:Shared) (H:Hp) (vs:List V) (Q:VK) (E:XK),cj k (A.deeper (envOfC qual (ao st) s.heap.objs.size f eL))->sp vs H Q E->
   ∃t,zG (jX bb P w K mg base N qual (ao st) f eL A outer s H E).yw (bR st) t/\t { nx:=fun _ H'=>Q .cS H',rt:=Q } (start N vs) H):bD P w K mg base bb (k+1) f fd ps sp:=by
 obtain⟨oc,od,kV,l8,pm,an,eL,ct,yy,rfl,lk,tE⟩:=F.ex;refine Kl lk tE S len fun A outer s H vs Q E hr Ht=>?_;obtain⟨t,h,q⟩:=wS eL A outer s H vs Q E hr Ht;exact⟨t,h.yw,q⟩
theorem ii.binds{x qual:Str}{st:Stmt}{f:Addr}{fd:FuncData}{ps:List Str}(F:ii K x qual st f fd)(h:∀ (kV l8 pm:Value) (an:Option Addr) (eL ct:Value) (us:List Value),us.length=ps.length->bindArgs (PySem.W.fnOf x qual (dt st) (bR st) (ao st) .none kV l8 pm an eL ct) ⟨us,[]⟩=pure (ps.zip us)):jv K fd ps []:=by
 obtain⟨oc,od,kV,l8,pm,an,eL,ct,yy,rfl,lk,tE⟩:=F.ex;exact .all (h kV l8 pm an eL ct)
theorem qT{x qual:Str}{st:Stmt}{f:Addr}{oc:Value}{od an:Option Addr}{yy:Array (Option Value)}{kV l8 pm eL ct:Value}(l:K.lookup f=some ⟨oc,od,.func (PySem.W.fnOf x qual (dt st) (bR st) (ao st) .none kV l8 pm an eL ct),yy⟩)(c:PySem.W.codeIn K eL qual=true)(k:PySem.W.keepIn K (.ref f)=true):ii K x qual st f (PySem.W.fnOf x qual (dt st) (bR st) (ao st) .none kV l8 pm an eL ct):=⟨⟨oc,od,kV,l8,pm,an,eL,ct,yy,rfl,l,c⟩,k⟩
end
section
variable {X:Cx}
theorem pv(i:Nat)(hN:X.N[i]?=some x:=by rfl)(hv:Op X.env.scope x:=by first|exact Or.inl rfl|exact Or.inr (Or.inl rfl)|exact Or.inr (Or.inr rfl))(hd:(x==("__debug__":Str))=false:=by decide)(tE:(x==("__classdict__":Str))=false:=by decide):PE X (.Name x pos) (a_ i):=Ls hN hv hd tE
end
theorem iI{A B:Prop}(h:B):if false=true then A else B:=by
 rw[au cr];exact h
theorem vp{A B:Prop}(h:A):if true=true then A else B:=by
 rw[av rfl];exact h
theorem gm{c A B:Prop}[Decidable c](h1:c->A)(h2:¬ c->B):if c then A else B:=by
 by_cases h:c
 .rw[av h];exact h1 h
 .rw[au h];exact h2 h
def aK(H H':Hp):Prop:=∀b o,H b=some o->H' b=some o
theorem aK.refl(H:Hp):aK H H:=fun _ _ h=>h
theorem aK.trans(a:aK H H1)(b:aK H1 H2):aK H H2:=fun c o h=>b c o (a c o h)
theorem aK.free(e:aK H H')(h:H' l=Option.none):H l=Option.none:=by
 cases q:H l with
 |none=>rfl
 |some o=>
  rw[e l o q] at h;cases h
def yz(src:List (Option Nat))(σ:St):St:=src.map fun o=>match o with|some j=>σ.getD j none|none=>none
theorem By{src:List (Option Nat)}{σ:St}{i:Nat}{v:V}(h:(yz src σ)[i]?=some (some v)):∃j,src[i]?=some (some j)/\σ[j]?=some (some v):=by
 unfold yz at h;rw[bV] at h;cases e:src[i]? with
 |none=>rw[e] at h;cases h
 |some o=>
  rw[e] at h;cases o with
  |none=>cases h
  |some j=>
   refine⟨j,rfl,?_⟩;have h':σ.getD j none=some v:=bN h;rw[b_] at h';cases e2:σ[j]? with
   |none=>rw[e2] at h';cases h'
   |some o=>rw[e2] at h';rw[show o=some v from h']
structure ge(NB:List Str)(src:List (Option Nat))(scope:Scope)(X:Cx):Prop where
 kind:scope.kind=.function
 nd:NB.Nodup
 len:src.length=NB.length
 cells:∀y∈scope.names,y.2=.cell->scope.names.lookup y.1=some .cell
 names:∀y∈scope.names,y.2=.local->scope.names.lookup y.1=some .local
 free:∀y∈scope.names,y.2=.free->X.env.scope.names.lookup y.1=some .cell\/X.env.scope.names.lookup y.1=some .free
 src:∀ (i:Nat) (x:Str) (j:Nat),NB[i]?=some x->src[i]?=some (some j)->X.N[j]?=some x/\scope.names.lookup x=some .free
def vq(scope:Scope)(x:Str):Bool:=match scope.names.lookup x with
 |some .cell=>true
 |_=>false
theorem wZ:vq scope x=true↔scope.names.lookup x=some .cell:=by
 unfold vq;split
 .rename_i h;exact⟨fun _=>h,fun _=>rfl⟩
 .rename_i h;exact⟨fun z=>(by cases z),fun z=>absurd z h⟩
def Bz(X:Cx)(NB:List Str)(scope:Scope)(cl:List (Str×Addr))(C:Addr)(s₃:Shared)(H₃:Hp)(fp:List Addr):Cx:=
 { X with N:=NB,s₀:=s₃,H₀:=H₃,env:=compEnvC scope cl C X.env,outer:=X.stack,stack:=X.stack,ex:=fp,fn:=vq scope,pn:=[],xe:=fun _ _=>False }
theorem lD:∀ (names:List (Str×NameKind)) (cH:List (Str×Addr)),(∀y∈names,y.2=NameKind.free->∃c,env.cells.lookup y.1=some c)->(∀x c,cH.lookup x=some c->env.cells.lookup x=some c)->
  ∃cl,(forIn names cH fun x r=>(if (x.2==NameKind.free)=true then (do let a <- cellOf env x.1;pure (ForInStep.yield ((x.1,a)::r))) else pure (ForInStep.yield r):Sem (ForInStep (List (Str×Addr)))))=(pure cl:Sem (List (Str×Addr)))/\
   (∀x c,cl.lookup x=some c->env.cells.lookup x=some c)/\(∀x c,cH.lookup x=some c->∃c',cl.lookup x=some c')/\∀x,(x,NameKind.free)∈names->∃c,cl.lookup x=some c
 |[],cH,_,ha=>⟨cH,by rw[uT],ha,fun x c h=>⟨c,h⟩,fun x h=>nomatch h⟩
 |(n,k)::r,cH,hf,ha=>by
  by_cases hk:k=NameKind.free
  .subst hk;obtain⟨c,hc⟩:=hf (n,NameKind.free) bp rfl;have LR:∀x c',((n,c)::cH).lookup x=some c'->env.cells.lookup x=some c':=fun x c' h=>by
    rw[eV] at h;cases hx:x==n with
    |true=>
     rw[hx] at h;cases h;have:x=n:=by simpa using hx
     rw[this];exact hc
    |false=>rw[hx] at h;exact ha x c' h
   obtain⟨cl,e1,e2,e3,e4⟩:=lD r ((n,c)::cH) (fun y hy=>hf y (cW _ hy)) LR;refine⟨cl,?_,e2,fun x c' h=>?_,fun x h=>?_⟩
   .rw[uR];have ec:cellOf env n=pure c:=by unfold cellOf;rw[hc]
    have e0:(if ((n,NameKind.free).2==NameKind.free)=true then (do let a <- cellOf env (n,NameKind.free).1;pure (ForInStep.yield (((n,NameKind.free).1,a)::cH))) else pure (ForInStep.yield cH):Sem (ForInStep (List (Str×Addr))))=pure (ForInStep.yield ((n,c)::cH)):=by
     rw[av (show (NameKind.free==NameKind.free)=true by decide)];show cellOf env n >>= _=_;rw[ec];rfl
    rw[e0];exact e1
   .cases hx:x==n with
    |true=>exact e3 x c (by rw[eV,hx])
    |false=>exact e3 x c' (by rw[eV,hx];exact h)
   .rcases bg.mp h with h|h
    .cases h;exact e3 n c (by rw[eV];simp)
    .exact e4 x h
  .obtain⟨cl,e1,e2,e3,e4⟩:=lD r cH (fun y hy=>hf y (cW _ hy)) ha;refine⟨cl,?_,e2,e3,fun x h=>?_⟩
   .rw[uR];have hb:(k==NameKind.free)=false:=by simpa using hk
    have e0:(if ((n,k).2==NameKind.free)=true then (do let a <- cellOf env (n,k).1;pure (ForInStep.yield (((n,k).1,a)::cH))) else pure (ForInStep.yield cH):Sem (ForInStep (List (Str×Addr))))=pure (ForInStep.yield cH):=by
     rw[au (by show ¬ (k==NameKind.free)=true;rw[hb];decide)]
    rw[e0];exact e1
   .rcases bg.mp h with h|h
    .cases h;exact absurd rfl hk
    .exact e4 x h
theorem lE(ok:X.Ok)(S:ge NB src scope X):
  ∃cl,closureFor scope X.env=pure cl/\(∀x c,cl.lookup x=some c->X.env.cells.lookup x=some c)/\∀x,(x,NameKind.free)∈scope.names->∃c,cl.lookup x=some c:=by
 obtain⟨cl,e1,e2,_,e4⟩:=lD (env:=X.env) scope.names [] (fun y hy hk=>ok.has y.1 (S.free y hy hk)) (fun x c h=>nomatch h);refine⟨cl,?_,e2,e4⟩;unfold closureFor;simp only[bind_pure];exact e1
theorem vt(h:scope.names.lookup x=some .free):(relabel scope env).names.lookup x=some .cell\/(relabel scope env).names.lookup x=some .free:=by
 have go:∀names:List (Str×NameKind),names.lookup x=some .free->
   (names.map fun (n,k)=>if (k==NameKind.free&&env.scope.kind==.function&&env.kindOf n==some .cell) then (n,NameKind.cell) else (n,k)).lookup x=some .cell\/
   (names.map fun (n,k)=>if (k==NameKind.free&&env.scope.kind==.function&&env.kindOf n==some .cell) then (n,NameKind.cell) else (n,k)).lookup x=some .free:=by
  intro names;induction names with
  |nil=>intro h;simp at h
  |cons y r ih=>
   intro h;obtain⟨n,k⟩:=y;rw[eV] at h;rw[ff];cases hx:x==n with
   |true=>
    rw[hx] at h;cases h;by_cases hc:(NameKind.free==NameKind.free&&env.scope.kind==.function&&env.kindOf n==some .cell)=true
    .left;show List.lookup x ((if _ then _ else _)::_)=_;rw[av hc,eV,hx]
    .right;show List.lookup x ((if _ then _ else _)::_)=_;rw[au hc,eV,hx]
   |false=>
    rw[hx] at h;by_cases hc:(k==NameKind.free&&env.scope.kind==.function&&env.kindOf n==some .cell)=true
    .show List.lookup x ((if _ then _ else _)::_)=_\/List.lookup x ((if _ then _ else _)::_)=_;rw[av hc,eV,hx];exact ih h
    .show List.lookup x ((if _ then _ else _)::_)=_\/List.lookup x ((if _ then _ else _)::_)=_;rw[au hc,eV,hx];exact ih h
 exact go scope.names h
theorem l_(h:(relabel scope env).names.lookup x=some k)(hk:k=.cell\/k=.free):(x,NameKind.free)∈scope.names\/(x,NameKind.cell)∈scope.names:=by
 have m:=jD h;obtain⟨⟨n,k'⟩,hm,e⟩:=bh.mp m;by_cases q:(k'==NameKind.free&&env.scope.kind==.function&&env.kindOf n==some .cell)=true
 .have e':(n,NameKind.cell)=(x,k):=by simpa [q] using e
  have k1:k'=NameKind.free:=by
   simp only[gw,fh] at q;exact q.1.1
  cases e';left;rw[<-k1];exact hm
 .have e':(n,k')=(x,k):=by simpa [q] using e
  cases e';rcases hk with z|z
  .subst z;exact .inr hm
  .subst z;exact .inl hm
theorem nN:∀ (names:List (Str×NameKind)) (h:Heap) (cH:List (Str×Addr)) (x:Str) (c:Addr),(cellsFrom h.objs.size names cH).lookup x=some c->cH.lookup x=some c\/(h.objs.size<=c/\(pushCells h names).IsCell c none)
 |[],_,_,_,_,e=>.inl e
 |(name,kind)::r,h,cH,x,c,e=>by
  unfold cellsFrom at e;unfold pushCells;split at e
  .rename_i hk;rw[av hk];have gJ:(h.push { cls:=.type "cell",data:=.cell none }).objs.size=h.objs.size+1:=gY ..;rw[<-gJ] at e;rcases nN r _ _ x c e with z|⟨z1,z2⟩
   .rw[eV] at z;cases hx:x==name with
    |true=>
     rw[hx] at z;cases z;exact .inr ⟨aN _,_,pushCells_keeps r _ _ _ (cX _ rfl),rfl⟩
    |false=>rw[hx] at z;exact .inl z
   .exact .inr ⟨by lia,z2⟩
  .rename_i hk;rw[au hk];exact nN r h cH x c e
theorem tV:∀ (names:List (Str×NameKind)) (n:Nat) (cH:List (Str×Addr)) (x:Str),(x,NameKind.cell)∈names->∃c,n<=c/\(cellsFrom n names cH).lookup x=some c:=by
 have up:∀ (names:List (Str×NameKind)) (n m:Nat) (cH:List (Str×Addr)) (x:Str) (c:Addr),cH.lookup x=some c->m<=c->m<=n->∃c',m<=c'/\(cellsFrom n names cH).lookup x=some c':=by
  intro names;induction names with
  |nil=>intro n m cH x c e h _;exact⟨c,h,e⟩
  |cons y r ih=>
   intro n m cH x c e h hm;obtain⟨name,kind⟩:=y;unfold cellsFrom;split
   .cases hx:x==name with
    |true=>exact ih (n+1) m _ x n (by rw[eV,hx]) hm (by lia)
    |false=>exact ih (n+1) m _ x c (by rw[eV,hx];exact e) h (by lia)
   .exact ih n m cH x c e h hm
 intro names;induction names with
 |nil=>intro n cH x h;cases h
 |cons y r ih=>
  intro n cH x h;obtain⟨name,kind⟩:=y;unfold cellsFrom;rcases bg.mp h with z|z
  .cases z;rw[av (by decide)];exact up r (n+1) n _ x n (by rw[eV];simp) (aN _) (by lia)
  .split
   .obtain⟨c,h1,h2⟩:=ih (n+1) ((name,n)::cH) x z;exact⟨c,by lia,h2⟩
   .exact ih n cH x z
theorem kB:∀ (names:List (Str×NameKind)) (n:Nat) (cH:List (Str×Addr)) (x:Str) (c:Addr),cH.lookup x=some c->(x,NameKind.cell)∉names->(cellsFrom n names cH).lookup x=some c
 |[],_,_,_,_,e,_=>e
 |(name,kind)::r,n,cH,x,c,e,h=>by
  have hr:(x,NameKind.cell)∉r:=fun z=>h (cW _ z);unfold cellsFrom;split
  .rename_i hk;have lF:(x==name)=false:=by
    cases hx:x==name with
    |false=>rfl
    |true=>
     have e1:x=name:=by simpa using hx
     have e2:kind=.cell:=by simpa using hk
     exact absurd (by rw[e1,e2];exact bp) h
   exact kB r (n+1) _ x c (by rw[eV,lF];exact e) hr
  .exact kB r n cH x c e hr
theorem nQ:∀ (names:List (Str×NameKind)) (n:Nat) (cH:List (Str×Addr)),(∀x y c,cH.lookup x=some c->cH.lookup y=some c->x=y)->(∀x c,cH.lookup x=some c->c<n)->∀x y c,(cellsFrom n names cH).lookup x=some c->(cellsFrom n names cH).lookup y=some c->x=y
 |[],_,_,hi,_=>hi
 |(name,kind)::r,n,cH,hi,hl=>by
  unfold cellsFrom;split
  .refine nQ r (n+1) _ (fun x y c h1 h2=>?_) (fun x c h=>?_)
   .rw[eV] at h1 h2;cases hx:x==name <;> cases hy:y==name <;> rw[hx] at h1 <;> rw[hy] at h2
    .exact hi x y c h1 h2
    .cases h2;exact absurd (hl x _ h1) (gZ _)
    .cases h1;exact absurd (hl y _ h2) (gZ _)
    .have e1:x=name:=by simpa using hx
     have e2:y=name:=by simpa using hy
     rw[e1,e2]
   .rw[eV] at h;cases hx:x==name <;> rw[hx] at h
    .exact eI (hl x c h)
    .cases h;exact i7 _
  .exact nQ r n cH hi hl
section
variable {X:Cx} {ae:List (Addr×Obj)} {σ:St} {H:Hp} {s:Shared} {NB:List Str} {src:List (Option Nat)} {scope:Scope} {cl:List (Str×Addr)} {fp:List Addr} {h₁:Heap} {t₁:Nat}
theorem Ib(I:aO X ae σ H s)(S:ge NB src scope X)(c1:∀x c,cl.lookup x=some c->X.env.cells.lookup x=some c)(c2:∀x,(x,NameKind.free)∈scope.names->∃c,cl.lookup x=some c)(hf:∀b∈fp,gG X ae H b)(LU:∀b∈fp,b<s.heap.objs.size){m:Str->Option Value}(hn:h₁.Ns s.heap.objs.size m)(hk:∀b o,s.heap.get? b=some o->h₁.get? b=some o)(qS:∀x c,(cellsFrom (s.heap.objs.size+1) scope.names cl).lookup x=some c->cl.lookup x=some c\/(s.heap.objs.size<c/\h₁.IsCell c none)):
  aO (Bz X NB scope (cellsFrom (s.heap.objs.size+1) scope.names cl) s.heap.objs.size s H fp) [] (yz src σ) H { s with heap:=h₁,toks:=t₁ }:=by
 have Oq:∀b∈Ea X.stack,b∈X.env.locals::X.fs:=I.u_;have vv:∀x c,cl.lookup x=some c->∃v,s.heap.IsCell c v:=fun x c e=>I.cell x c (c1 x c e);have U3:∀x c,cl.lookup x=some c->c<s.heap.objs.size:=fun x c e=>by obtain⟨v,o,ho,_⟩:=vv x c e;exact aS ho
 refine⟨⟨I.ok.mod,S.kind,I.ok.glob,I.ok.blt,aN _,nQ _ _ _ (fun x y c e1 e2=>I.ok.inj x y c (c1 x c e1) (c1 y c e2)) (fun x c e=>eI (U3 x c e)),fun x hx=>?_,fun x c z e=>?_,I.ok.hd,I.ok.frames,.inl rfl,fun b hb=>⟨?_,fun x c e=>?_⟩,I.bs,a8 I.ok.Ez I.sz,fun b o e hb=>?_,fun b hb=>?_,I.stack,I.va⟩,
  rfl,I.bare,Un.kept hk,⟨m,hn,fun i x v e1 e2 e3=>?_⟩,fun x c e=>?_,I.bZ.fresh (aN _),fun x c e=>?_,fun p hp=>absurd (show p∈([]:List (Addr×Obj)) from hp) (by simp),I.bZ.kept hk,?_⟩
 .have z6:(x,NameKind.free)∈scope.names\/(x,NameKind.cell)∈scope.names:=by
   rcases hx with hx|hx
   .exact l_ hx (.inl rfl)
   .exact l_ hx (.inr rfl)
  by_cases hc:(x,NameKind.cell)∈scope.names
  .obtain⟨c,_,e⟩:=tV scope.names (s.heap.objs.size+1) cl x hc;exact⟨c,e⟩
  .rcases z6 with z|z
   .obtain⟨c,e⟩:=c2 x z;exact⟨c,kB _ _ _ _ _ e hc⟩
   .exact absurd z hc
 .have hm:=jD (wZ.mp z);obtain⟨c',h1,h2⟩:=tV scope.names (s.heap.objs.size+1) cl x hm;have e':(cellsFrom (s.heap.objs.size+1) scope.names cl).lookup x=some c:=e;rw[h2] at e';cases e';exact Nat.le_of_succ_le h1
 .exact aQ (LU b hb)
 .rcases qS x c e with z|⟨z,_⟩
  .exact(hf b hb).2.2.2.2.1 x c (c1 x c z)
  .exact fG (lu (LU b hb) z)
 .rcases(hf b hb).2.2.2.1 with z|z
  .exact I.ok.EA b o e z
  .exact absurd (bn (aS e) (a8 I.ok.Ez z)) (gZ _)
 .intro z;rcases bg.mp (Oq b z) with e|e
  .exact(hf b hb).2.1 e
  .exact(hf b hb).2.2.1 e
 .obtain⟨j,hj,hv⟩:=By e2;obtain⟨hN,hF⟩:=S.src i x j e1 hj;obtain⟨m0,E5,LV⟩:=I.loc;have z7:=jD hF;have kx:=S.free _ z7 rfl;have Pd:Op X.env.scope x:=by
   rcases kx with z|z
   .exact .inr (.inl z)
   .exact .inr (.inr z)
  obtain⟨u,r,l⟩:=LV j x v hN hv Pd;refine⟨u,r,.inr ⟨vt hF,?_⟩⟩;obtain⟨c,hc⟩:=c2 x z7;have hnc:(x,NameKind.cell)∉scope.names:=fun z=>by
   have:=S.cells _ z rfl;rw[hF] at this;cases this
  refine⟨c,kB _ _ _ _ _ hc hnc,?_⟩;rcases l with ⟨Km,_⟩|⟨_,c',e,z⟩
  .have E6:X.env.scope.names.lookup x=some .local:=Km;rcases kx with z|z <;> (rw[z] at E6;cases E6)
  .rw[c1 x c hc] at e;cases e;obtain⟨o,ho,hd⟩:=z;exact⟨o,hk _ _ ho,hd⟩
 .rcases qS x c e with z|⟨_,z⟩
  .obtain⟨v,o,ho,hd⟩:=vv x c z;exact⟨v,o,hk _ _ ho,hd⟩
  .exact⟨none,z⟩
 .rcases qS x c e with z|⟨z,_⟩
  .exact I.jR x c (c1 x c z)
  .exact I.bZ.fresh (jN z)
 .show (yz src σ).length=NB.length;unfold yz;rw[aW];exact S.len
theorem aO.PP(I:aO X ae σ H s)(J:aO (Bz X NB scope cl C s H fp) [] σB H' s')(hf:∀b∈fp,gG X ae H b):aO X ae σ H' s':=by
 refine I.Ke (ch:=fp) J.os J.base J.bZ J.bare fun b hb=>?_;obtain⟨_,f1,_,f3,f4,f5⟩:=hf b hb;exact⟨f3,f1,f4,f5⟩
end
def Ou(X:Cx)(BA:List Expr)(t:TT):Prop:=
 ∀ (ae:List (Addr×Obj)) (s:Shared) (σ:St) (H:Hp) (Q:Bool->Hp->Prop),aO X ae σ H s->t σ H Q->
  wpAny (model X.prog X.w) X.A (forIn BA true fun c r=>if r=true then do let ok <- isTrue c X.env (eval c X.env);pure (ForInStep.yield ok) else pure (ForInStep.yield r)) (TP X ae σ Q) X.xe s
def LW:TT:=fun _ H Q=>Q true H
theorem cV:Ou X [] LW:=fun _ _ _ H _ I h=>wpAny_tests_nil ⟨H,I,h⟩
theorem jj(h:PT X c t):Ou X [c] t:=fun ae s σ H Q I q=>wpAny_tests_one (h ae s σ H Q I q)
def gC(J:It)(g:TG)(tt:TT)(te:TE)(D:Addr)(fin:Hp->Prop)(σB:St)(H1:Hp):Prop:=
 ∃W:Nat->Nat->St->Hp->Prop,(∃m,W 0 m σB H1)/\∀i m σ H,W i m σ H->(J.stop i H/\fin H)\/(J.go i H/\∀x H',J.LB i H x H'->g x σ H' fun σ2 H2=>tt σ2 H2 fun b H3=>
  if b=true then te σ2 H3 fun v H4=>∃ys,H4 D=some (.lst ys)/\ys.length<sizeLine/\∃m',m'<m/\W (i+1) m' σ2 (upd H4 D (.lst (ys++[v]))) else ∃m',m'<m/\W (i+1) m' σ2 H3)
theorem C_(hx:B.xe=fun _ _=>False)(hc:B.calm=true)(T:wL B.prog B.w B.K tg J fp it tn)(hg:PG B tg g)(ht:Ou B BA tt)(he:PE B Ef te)(I:aO B [] σB H1 s)(st:tn 0 s.heap)(hf:∀b∈fp,gG B [] H1 b)(hw:gC J g tt te D fin σB H1)(hR:∀σ' H' s',aO B [] σ' H' s'->fin H'->R (.ok .next) s'):
  codeAny (model B.prog B.w) B.A (.compLoop (.ListComp Ef [⟨tg,jz,BA,0⟩] scope pos) 0 (.ref it) (.ref D) B.env) R s:=by
 obtain⟨W,⟨m0,w0⟩,EE⟩:=hw;have zL:∀ {H':Hp},(∀b∈fp,H' b=none)->∀b∈fp,gG B [] H' b:=fun hn b hb=>⟨hn b hb,(hf b hb).2⟩
 refine codeAny_loop rfl (fun n s'=>∃i σ' H',aO B [] σ' H' s'/\tn i s'.heap/\(∀b∈fp,H' b=none)/\W i n σ' H') ?_ m0 ⟨0,σB,H1,I,st,fun b hb=>(hf b hb).1,w0⟩;rintro n s3 ⟨i,σ3,H3,I3,gI,Hq,w3⟩;show wpAny _ B.A ((compTurn (.ListComp Ef [⟨tg,jz,BA,0⟩] scope pos) 0 (.ref it) (.ref D) B.env).onRaise (fun x=>do noteFrame x B.env;theTreesLotGoes x)) _ _ s3;refine wpAny_noted ?_;rw[compTurn_list];have nx:∀ {α:Type} {t:Sem α} {Q:α->Shared->Prop} {E':Value->Shared->Prop} {s:Shared},wpAny (model B.prog B.w) B.A t Q B.xe s->wpAny (model B.prog B.w) B.A t Q E' s:=fun h=>
  jb h (fun _ _ q=>q) fun _ _ z=>by rw[hx] at z;exact z.elim
 rcases EE i n σ3 H3 w3 with ⟨stop,qn⟩|⟨go,step⟩
 .refine aA (nz (aA (dq (T.done B rfl rfl rfl hc i [] s3 σ3 H3 _ I3 (zL Hq) gI stop) fun r s4 ⟨hr,I4⟩=>?_)));subst hr;exact wpAny_pure (hR σ3 H3 s4 I4 qn)
 .refine aA (nz (aA (dq (T.item B rfl rfl rfl hc i [] s3 σ3 H3 _ I3 (zL Hq) gI go) fun r s4 ⟨u,hr,h4⟩=>?_)));subst hr;refine aA (dq h4 fun _ s5 ⟨x,H5,I5,r5,y5,Bq,LD⟩=>?_);have UM:=I5.pinned (zL LD) (T.obj _ _ Bq);refine aA (nx (dq (hg _ s5 σ3 H5 x u _ UM r5 (step x H5 y5)) fun _ s6 ⟨σ6,H6,I6,q6⟩=>?_));have back:∀ {σ7:St} {H7:Hp} {s7:Shared} {m':Nat},aO B ([]++qI fp s5.heap) σ7 H7 s7->m'<n->W (i+1) m' σ7 H7->∃m,m<n/\∃i σ' H',aO B [] σ' H' s7/\tn i s7.heap/\(∀b∈fp,H' b=none)/\W i m σ' H':=fun {σ7 H7 s7 m'} I7 hm w7=>by
   refine⟨m',hm,i+1,σ7,H7,I7.l3,T.keep _ _ _ Bq fun b hb o e=>(I7.pin (b,o) (dU _ (dU _ (jg hb e)))).1,fun b hb=>?_,w7⟩;obtain⟨o,e,d⟩:=T.obj _ _ Bq b hb;exact(I7.pin (b,o) (dU _ (dU _ (jg hb e)))).2.1
  refine aA (nx (dq (ht _ s6 σ6 H6 _ I6 q6) fun ok s7 ⟨H7,I7,q7⟩=>?_));cases ok with
  |false=>
   rw[au cr] at q7;obtain⟨m',hm,w7⟩:=q7;exact wpAny_pure ⟨rfl,back I7 hm w7⟩
  |true=>
   rw[av rfl] at q7;refine aA (aA (nx (dq (he _ s7 σ6 H7 _ I7 q7) fun v s8 ⟨y,H8,I8,r8,ys,hD,hl,m',hm,w8⟩=>?_)));refine aA (nx (dq (cz _ s8 σ6 H8 (.ref D) [y] (.ref D) [v] (fun _ H9=>H9=upd H8 D (.lst (ys++[y]))) I8 rfl (.cons r8 .nil) ⟨D,ys,y,rfl,rfl,hD,hl,rfl⟩) fun _ s9 ⟨_,H9,I9,_,e9⟩=>?_));subst e9;exact wpAny_pure (wpAny_pure ⟨rfl,back I9 hm w8⟩)
theorem vw(hQ:Q { scope:=scope,locals:=s.heap.objs.size,globals:=globals,cells:=cellsFrom (s.heap.objs.size+1) scope.names cl,qual:=qual,func:=none,code:=outer.code,frame:=outer.frame,builtins:=outer.builtins }
   { s with heap:=pushCells (s.heap.push { cls:=.type "dict",data:=.dict #[] }) scope.names }):
  wpAny M A (newFunctionEnv scope globals cl [] qual none .none (some outer)) Q E s:=by
 simp only[newFunctionEnv,Option.isSome_some,iD];refine aA (wpAny_alloc ?_);refine aA (wpAny_layCells _ (fun name kind cells=>by cases hkc:kind==NameKind.cell <;> simp[hkc]) _ _ _ _ ?_);rw[show ({ s with heap:=s.heap.push { cls:=.type "dict",data:=.dict #[] } }:Shared).heap.objs.size=s.heap.objs.size+1 from gY ..];refine aA ?_;rw[uT];exact wpAny_pure (wpAny_pure hQ)
section
variable {X:Cx} {Ef tg jz:Expr} {BA:List Expr} {scope:Scope} {pos:Pos} {wi:TI} {g:TG} {tt:TT} {te:TE} {NB:List Str} {src:List (Option Nat)}
def E7(src:List (Option Nat))(wi:TI)(g:TG)(tt:TT)(te:TE):TE:=fun σ H Q=>wi σ H fun J H1=>∀D,H1 D=none->gC J g tt te D (fun H'=>Q (.ref D) H') (yz src σ) (upd H1 D (.lst []))
theorem qU{ae:List (Addr×Obj)}{σ:St}{H2:Hp}{s2:Shared}{J:It}{fp:List Addr}{it:Addr}{tn:Nat->Heap->Prop}{cl:List (Str×Addr)}{fin:Addr->Hp->Prop}{E':Value->Shared->Prop}{RR:Value->Addr->Result->Shared->Prop}(S:ge NB src scope X)(hc:X.calm=true)(c1:∀x c,cl.lookup x=some c->X.env.cells.lookup x=some c)(c2:∀x,(x,NameKind.free)∈scope.names->∃c,cl.lookup x=some c)(hg:∀cl C s₃ H₃ fp,PG (Bz X NB scope cl C s₃ H₃ fp) tg g)(ht:∀cl C s₃ H₃ fp,Ou (Bz X NB scope cl C s₃ H₃ fp) BA tt)(he:∀cl C s₃ H₃ fp,PE (Bz X NB scope cl C s₃ H₃ fp) Ef te)(I2:aO X ae σ H2 s2)(T:wL X.prog X.w X.K tg J fp it tn)(e8:tn 0 s2.heap)(f2:∀b∈fp,gG X ae H2 b)(hw:∀D,H2 D=none->gC J g tt te D (fin D) (yz src σ) (upd H2 D (.lst [])))(hR:∀D C H' s',gG X ae H' C->aO X ae σ H' s'->(∃m,s'.heap.Ns C m)->fin D H'->RR (.ref D) C (.ok .next) s'):
  wpAny (model X.prog X.w) X.A (newList []) (fun cH s₃=>wpAny (model X.prog X.w) X.A (newFunctionEnv scope X.env.globals cl [] X.env.qual none .none (some X.env)) (fun PQ s₄=>
   codeAny (model X.prog X.w) X.A (.compStart (.ListComp Ef [⟨tg,jz,BA,0⟩] scope pos) 0 (.ref it) cH { PQ with scope:=relabel scope X.env }) (RR cH PQ.locals) s₄) E' s₃) E' s2:=by
 refine uQ (vw ?_);have I3:=I2.LP (ys:=[]) (its:=[]) (t':=s2.toks) .nil (bT _);have hD:H2 s2.heap.objs.size=none:=I2.fresh;have fo:∀b∈fp,b<s2.heap.objs.size:=fun b hb=>by obtain⟨o,e,_⟩:=T.obj _ _ e8 b hb;exact aS e
 have up:∀ {b:Addr},b∈fp->upd H2 s2.heap.objs.size (.lst []) b=H2 b:=fun {b} hb=>am (aQ (fo b hb));have f3:∀b∈fp,gG X ae (upd H2 s2.heap.objs.size (.lst [])) b:=fun b hb=>⟨by rw[up hb];exact(f2 b hb).1,(f2 b hb).2⟩
 have gJ:(s2.heap.push { cls:=.type "list",data:=.seq ([]:List Value).toArray }).objs.size=s2.heap.objs.size+1:=by rw[gY]
 generalize U4:({ s2 with heap:=s2.heap.push { cls:=.type "list",data:=.seq ([]:List Value).toArray } }:Shared)=s3 at I3 |-;have YT:s3.heap=s2.heap.push { cls:=.type "list",data:=.seq ([]:List Value).toArray }:=by rw[<-U4]
 have YU:∀b∈fp,b<s3.heap.objs.size:=fun b hb=>by rw[YT,gJ];exact eI (fo b hb)
 have PU:(s3.heap.push { cls:=.type "dict",data:=.dict #[] }).objs.size=s3.heap.objs.size+1:=gY ..;have qS:∀x c,(cellsFrom (s3.heap.objs.size+1) scope.names cl).lookup x=some c->cl.lookup x=some c\/(s3.heap.objs.size<c/\(pushCells (s3.heap.push { cls:=.type "dict",data:=.dict #[] }) scope.names).IsCell c none):=fun x c e=>by
  rw[<-PU] at e;rcases nN _ _ _ _ _ e with z|⟨z1,z2⟩
  .exact .inl z
  .exact .inr ⟨by rw[PU] at z1;exact z1,z2⟩
 have PV:=(Heap.Ns.new s3.heap (.type "dict")).keeps (pushCells_keeps scope.names _);have keep:∀b o,s3.heap.get? b=some o->(pushCells (s3.heap.push { cls:=.type "dict",data:=.dict #[] }) scope.names).get? b=some o:=fun b o e=>pushCells_keeps _ _ b o (cB _ e);generalize hh1:pushCells (s3.heap.push { cls:=.type "dict",data:=.dict #[] }) scope.names=h₁ at qS PV keep |-;have IB:aO (Bz X NB scope (cellsFrom (s3.heap.objs.size+1) scope.names cl) s3.heap.objs.size s3 (upd H2 s2.heap.objs.size (.lst [])) fp) [] (yz src σ) (upd H2 s2.heap.objs.size (.lst [])) { s3 with heap:=h₁,toks:=s3.toks }:=
  Ib I3 S c1 c2 f3 YU PV keep qS
 have YV:tn 0 h₁:=T.keep 0 s2.heap h₁ e8 fun b hb o e=>keep b o (by rw[YT];exact cB _ e);have fB:∀b∈fp,gG (Bz X NB scope (cellsFrom (s3.heap.objs.size+1) scope.names cl) s3.heap.objs.size s3 (upd H2 s2.heap.objs.size (.lst [])) fp) [] (upd H2 s2.heap.objs.size (.lst [])) b:=fun b hb=>by
  refine⟨(f3 b hb).1,aQ (YU b hb),fun z=>?_,.inl hb,fun x c e=>(IB.ok.Uv b hb).2 x c e,fun p hp=>absurd (show p∈([]:List (Addr×Obj)) from hp) (by simp)⟩;rcases bg.mp (I3.u_ b z) with e|e
  .exact(f3 b hb).2.1 e
  .exact(f3 b hb).2.2.1 e
 have loop:codeAny (model X.prog X.w) X.A (.compLoop (.ListComp Ef [⟨tg,jz,BA,0⟩] scope pos) 0 (.ref it) (.ref s2.heap.objs.size) (compEnvC scope (cellsFrom (s3.heap.objs.size+1) scope.names cl) s3.heap.objs.size X.env)) (RR (.ref s2.heap.objs.size) s3.heap.objs.size)
   { s3 with heap:=h₁,toks:=s3.toks }:=by
  refine C_ (B:=Bz X NB scope (cellsFrom (s3.heap.objs.size+1) scope.names cl) s3.heap.objs.size s3 (upd H2 s2.heap.objs.size (.lst [])) fp) rfl hc T (hg _ _ _ _ _) (ht _ _ _ _ _) (he _ _ _ _ _) IB YV fB (hw _ hD) fun σ' H' s' J' q=>?_;obtain⟨m,hm,_⟩:=J'.loc;exact hR _ _ H' s' (I3.wK (aN _) J'.free) (I3.PP J' f3) ⟨m,hm⟩ q
 exact codeAny_compStart_list loop (T.self _ 0 _ _ _ YV loop)
theorem cI(S:ge NB src scope X)(hc:X.calm=true)(hi:PI X tg jz wi)(hg:∀cl C s₃ H₃ fp,PG (Bz X NB scope cl C s₃ H₃ fp) tg g)(ht:∀cl C s₃ H₃ fp,Ou (Bz X NB scope cl C s₃ H₃ fp) BA tt)(he:∀cl C s₃ H₃ fp,PE (Bz X NB scope cl C s₃ H₃ fp) Ef te)(hs:∀x,foldedSetIterable jz X.env x=pure x:=by intro _;rfl):PE X (.ListComp Ef [⟨tg,jz,BA,0⟩] scope pos) (E7 src wi g tt te):=by
 intro ae s σ H Q I h;obtain⟨cl,Eg,c1,c2⟩:=lE I.ok S;rw[eval_ListComp];refine wpAny_comprehension_free (use:=none) (cl:=cl) rfl hs Eg S.kind S.names (dq (hi ae s σ H _ I h) fun v s1 h1=>dq h1 fun Ti s2 h2=>?_);obtain⟨it,fp,tn,J,H2,e,I2,T,e8,f2,hw⟩:=h2;subst e;refine qU (RR:=fun cH C=>compPost (model X.prog X.w) X.A X.xe none (EP X ae σ Q) cH C) S hc c1 c2 hg ht he I2 T e8 f2 hw fun D C H' s' fC I' hm q=>?_;obtain⟨m,hm⟩:=hm;refine⟨m,hm,fun h' sb=>⟨.ref D,H',?_,rfl,q⟩⟩;obtain⟨g0,g1,_,g3,g4,g5⟩:=fC;exact I'.turned (t':=s'.toks) (fun b o hb e=>(sb.2 b hb).trans e) g0 g1 g3 g4 g5
theorem fO{i:Nat}{y:Str}{py PX:Pos}(S:ge NB src scope X)(hc:X.calm=true)(hi:PI X tg jz wi)(hg:∀cl C s₃ H₃ fp,PG (Bz X NB scope cl C s₃ H₃ fp) tg g)(ht:∀cl C s₃ H₃ fp,Ou (Bz X NB scope cl C s₃ H₃ fp) BA tt)(he:∀cl C s₃ H₃ fp,PE (Bz X NB scope cl C s₃ H₃ fp) Ef te)(hN:X.N.Nodup)(hix:X.N[i]?=some y)(hy:X.env.scope.names.lookup y=some .local)(hsw:swapsWith (.ListComp Ef [⟨tg,jz,BA,0⟩] scope pos) (some (.Name y py)) PX.line X.env=pure true)(hs:∀x,foldedSetIterable jz X.env x=pure x:=by intro _;rfl):
  PS X (.Assign [.Name y py] (.ListComp Ef [⟨tg,jz,BA,0⟩] scope pos) PX) (Lx (E7 src wi g tt te) (bA i)):=by
 intro ae s σ H D0 I h;obtain⟨cl,Eg,c1,c2⟩:=lE I.ok S;rw[exec_Assign_Name_used _ _ _ _ hsw];refine aA (nz (aA ?_));show wpAny _ X.A (do let _ <- comprehension (.ListComp Ef [⟨tg,jz,BA,0⟩] scope pos) scope X.env _ (newList []) false (eval jz X.env) (some (assign (.Name y py) X.env))) _ _ s;refine aA (jb (wpAny_comprehension_free (use:=some (assign (.Name y py) X.env)) (Q:=fun _ s'=>SP X ae D0 .next s') (cl:=cl) rfl hs Eg S.kind S.names
  (dq (hi ae s σ H _ I h) fun v s1 h1=>dq h1 fun Ti s2 h2=>?_)) (fun _ s' hq=>wpAny_pure (wpAny_pure hq)) fun _ _ e=>e)
 obtain⟨it,fp,tn,J,H2,e,I2,T,e8,f2,hw⟩:=h2;subst e;refine qU (RR:=fun cH C=>compPost (model X.prog X.w) X.A X.xe (some (assign (.Name y py) X.env)) (fun _ s'=>SP X ae D0 .next s') cH C) S hc c1 c2 hg ht he I2 T e8 f2 hw fun D C H' s' fC I' hm q=>?_;obtain⟨m,hm⟩:=hm;obtain⟨g0,g1,_,g3,g4,g5⟩:=fC;show wpAny _ X.A (assign (.Name y py) X.env (.ref D)) _ _ _;refine wpAny_assign_Name (tD I' hN hix (.inl hy) (v:=.ref D) rfl (fun Hr I'' sb=>?_) (.inr hy));obtain⟨a,sb,ha⟩:=sb;have lF:C≠a:=by
  rcases ha with z|z
  .rw[z];exact g1
  .exact fun z'=>g4 y a z z'.symm
 refine⟨m,hm.sameBut sb lF,fun h' sb'=>⟨_,H',I''.turned (t':=Hr.toks) (fun b o hb e=>(sb'.2 b hb).trans e) g0 g1 g3 g4 g5,q⟩⟩
end
section
variable {P:Program} {w:World} {K:PySem.W.Frag} {mg:Str->Option Value} {base:Heap} {N:List Str} {qual:Str} {scope:Scope} {f:Addr} {cd:Value} {A:Around} {outer:List Env} {s:Shared} {H:Hp} {E:XK}
end
open PySem PySem.Spec PyProof.Rows PySem.W
abbrev bmV:List Value:=[.type "ValueError",.type "Exception",.type "BaseException",.type "object"]
structure Da(K:PySem.W.Frag)(C:Addr):Prop where
 ex:PySem.W.excIn K C bmV "ValueError.__new__"=true
 kp:PySem.W.keepIn K (.ref C)=true
 ga:PySem.W.findIn K (.ref C) "__getattribute__"=some (some (.builtin "BaseException.__getattribute__"))
 gt:PySem.W.findIn K (.ref C) "__getattr__"=some none
 cl:PySem.W.findIn K (.ref C) "__class__"=some (some (.builtin "object.__class__"))
 mo:PySem.W.mroIn K C (.type "object")=some true
 mb:PySem.W.mroIn K C (.type "BaseException")=some true
 ty:(PySem.W.clsIn K C).isSome=true
def Tl(p:Addr)(C:Value)(h:Heap):Prop:=∃o,h.get? p=some o/\o.cls=C
abbrev U5(p:Addr)(C:Value):HO:=.ext (Tl p C)
theorem cC.get(x:cC P w H h a o):∃u,h.get? a=some u:=by
 cases o with
 |lst xs=>obtain⟨_,_,_,_,e⟩:=x;exact⟨_,e⟩
 |tup xs=>obtain⟨_,_,_,ob,e,_⟩:=x;exact⟨_,e⟩
 |dK cL=>obtain⟨_,_,_,_,o,_,_,e,_⟩:=x;exact⟨_,e⟩
 |dT cL=>obtain⟨_,_,_,_,o,_,_,e,_⟩:=x;exact⟨_,e⟩
 |set S n=>obtain⟨o,_,_,_,e,_⟩:=x;exact⟨_,e⟩
 |ins C dx fs=>obtain⟨_,_,_,e,_⟩:=x;exact⟨_,e⟩
 |own y=>exact x
 |xd fs=>obtain⟨_,⟨_,_,_,e,_⟩,_⟩:=x;exact⟨_,e⟩
 |Bk lo hi=>obtain⟨_,_,_,e⟩:=x;exact⟨_,e⟩
 |wr ob u=>obtain⟨e,_⟩:=x;exact⟨_,e⟩
 |ik ps=>exact⟨_,(show h.get? a=some _ from x)⟩
 |met f y=>exact⟨_,(show h.get? a=some _ from x)⟩
 |ext φ=>exact x.2.1
theorem lA.vx(x:lA P w H h)(e:h.get? a=none):H a=none:=by
 cases q:H a with
 |none=>rfl
 |some u=>obtain⟨o,z⟩:=(x a u q).get;rw[e] at z;cases z
theorem aO.BB(I:aO X ae σ H s)(k:∀b u,s.heap.get? b=some u->h'.get? b=some u)(hp:s.heap.get? a=none)(new:cC X.prog X.w (upd H a o) h' a o):
  aO X ae σ (upd H a o) { s with heap:=h',toks:=t' }:=by
 have hn:=I.bZ.vx hp;have ne:∀b u,s.heap.get? b=some u->b≠a:=fun b u e z=>by rw[z,hp] at e;cases e
 refine I.un ⟨fun b u e _ _ _=>k b u e,fun b u e _ _ _=>⟨u.slots,k b u e⟩,fun b u e n _=>by rw[am (ne b u e)];exact n,fun b u e _=>⟨u,k b u e⟩,fun b xs e=>by rw[am (ak e hn)];exact e,fun b u v e=>by rw[am (ak e hn)];exact e,fun b ps e=>⟨#[],by rw[am (ak e hn),e];simp⟩⟩ fun b u e=>?_;by_cases hb:b=a
 .subst hb;rw[af] at e;cases e;exact new
 .rw[am hb] at e;exact(I.bZ b u e).jd (fun c v _ q=>k c v q) (fun c q=>by rw[am (ak q hn)];exact q) fun c xs q=>by rw[am (ak q hn)];exact q
section
variable {prog:Program} {w:World} {A:Around} {E:Value->Shared->Prop} {s:Shared} {K:PySem.W.Frag} {x C:Addr} {ox:Obj}
theorem BC(hx:h.get? x=some ox)(hc:ox.cls=.ref C):PySem.W.Looks M h (typeOf (.ref x)) (.ref C):=hc ▸ (PySem.W.Looks.ld hx).andThen .now
open Builtin Builtin.ObjectAttr Builtin.Getset_descriptor in
theorem z8(X:K.In s.heap)(hx:s.heap.get? x=some ox)(hc:ox.cls=.ref C)(hm:PySem.W.mroIn K C (.type "object")=some true)(h:R (.ok (.ret (.ref C))) s):codeAny (model prog w) A (.call (.builtin "getset_descriptor.__get__") ⟨[.builtin "object.__class__",.ref x,tp],[]⟩) R s:=by
 obtain⟨hh,g,dr,t,os⟩:=s;have L0:=BC (M:=model prog w) hx hc;have L1:=looks_mroIn (M:=model prog w) X hm;refine uK KF.slot_gs.plain KF.entry_gs (KF.slot_gs.check _ _ _ _ _ _ _ _ KF.type_class (KF.args_gs _ _ _) ?_);unfold Builtin.«getset_descriptor.__get__» descrGet;rw[dga_obj];refine aA (wpAny_pure ?_);unfold descrGetter descrCheckInstance descrNameAndClass isInstance;simp only[KF.owner_class];repeat lk
 refine⟨Code.quiet_builtin _ (by decide +kernel),jL KF.entry_class ?_⟩;unfold Builtin.«object.__class__» shownTypeOf;repeat lk
 exact h
theorem Db{g d t os}(T:Da K C)(X:K.In h)(hx:h.get? x=some ox)(hc:ox.cls=.ref C)(hq:Q (.done (.ret (.ref C))) ⟨h,g,d,t,os⟩):
  wpAny (model prog w) A (Builtin.«object.__getattribute__» ⟨[.ref x,.str "__class__" tk],[]⟩) Q E ⟨h,g,d,t,os⟩:=by
 have f5:=F.typeOf_bexc_args;have hT5:(⟨h,g,d,t,os⟩:Shared).TypeIs (.builtin "object.__class__") "getset_descriptor":=Ep;have f5':=Ep;have f6:=F.slot_gs_get.lookup;have f7:=F.slot_gs_set.lookup;have L1:=looks_findIn (M:=model prog w) X T.cl;repeat (any_goals (first|assumption|(with_reducible refine zC hx ?_;rw[hc])|with_reducible refine L1.at ?_|wp_step))
 refine z8 (s:=⟨h,g,d,t,os⟩) X hx hc T.mo ?_;repeat (any_goals (first|assumption|wp_step))
theorem Dc{g d t os}(T:Da K C)(X:K.In h)(hx:h.get? x=some ox)(hc:ox.cls=.ref C)(hq:Q () ⟨h,g,d,t,os⟩):
  wpAny M A (checkBuiltinCall "BaseException.__getattribute__" ⟨[.ref x,PY],[]⟩) Q E ⟨h,g,d,t,os⟩:=by
 have hk:builtinKind "BaseException.__getattribute__"=some .slot:=by decide +kernel
 have LX:splitId "BaseException.__getattribute__"=some ("BaseException","__getattribute__"):=by decide +kernel
 have ha:=F.args_bexc_ga (.ref x) PY;have L1:=looks_mroIn (M:=M) X T.mb;simp only[checkBuiltinCall,hk,LX];refine aA ?_
 .unfold isInstance;repeat (first|(with_reducible refine zC hx ?_;rw[hc])|with_reducible refine L1.at ?_|wp_step)
  exact hq
theorem LY{tk:Tok}{fill HN:Bool}{Q:Value->Shared->Prop}{h:Heap}{g d t os}(T:Da K C)(X:K.In h)(hx:h.get? x=some ox)(hc:ox.cls=.ref C)(hq:Q (.ref C) ⟨h,g,d,t,os⟩):
  wpAny (model prog w) A (getAttrBy (.ref x) (.str "__class__" tk) fill HN) Q E ⟨h,g,d,t,os⟩:=by
 have f3:=F.attr_ValueError.ga.bind (.ref x);have hx0:(HN&&onTheHeap (Value.builtin "BaseException.__getattribute__"))=false:=by cases HN <;> rfl
 have hx2:(Value.builtin "BaseException.__getattribute__"==Value.builtin "object.__getattribute__")=false:=by decide +kernel
 have hx1:(onTheHeap (Value.ref C)&&Value.builtin "BaseException.__getattribute__"==Value.builtin "object.__getattribute__")=false:=by rw[hx2];rfl
 have L1:=looks_findIn (M:=model prog w) X T.ga;have L2:=looks_findIn (M:=model prog w) X T.gt;repeat (any_goals (first|assumption|(with_reducible refine zC hx ?_;rw[hc])|with_reducible refine L1.at ?_|with_reducible refine L2.at ?_|wp_step))
 refine uK F.attr_ValueError.ga.plain F.entry_bexc_ga (Dc T X hx hc (Db T X hx hc ?_));repeat (any_goals (first|assumption|wp_step))
theorem E8{Q:Option Value->Shared->Prop}{h:Heap}{g d t os}(T:Da K C)(X:K.In h)(hx:h.get? x=some ox)(hc:ox.cls=.ref C)(hq:Q (some (.ref C)) ⟨h,g,d,t+1,os⟩):
  wpAny (model prog w) A (getAttr? (.ref x) "__class__") Q E ⟨h,g,d,t,os⟩:=by
 unfold getAttr?;repeat (any_goals (first|assumption|with_reducible apply LY T X hx hc|wp_step))
theorem w9(T:Da K C):PySem.W.KitX K (.ref x) (.ref C) (Tl x (.ref C)) where
 ty:=fun _ _ _ ⟨o,e,c⟩=>BC e c
 it:=fun _ _ X _=>by
  obtain⟨cdD,HQ⟩:=uy.mp T.ty;unfold clsIn at HQ;split at HQ
  .rename_i c' d' cd' Uy ho;intro A' Q' E' s' k q;unfold isType loadHead;exact aA (wpAny_loadPart (k _ _ (X _ _ ho)) (wpAny_pure q))
  .cases HQ
 ne:=fun h tp dd its n sl X htp=>by
  obtain⟨cdD,HQ⟩:=uy.mp T.ty;refine zk.mpr fun q=>?_;have e:C=tp:=Value.ref.inj (fh.mp q);subst e;unfold clsIn at HQ;split at HQ
  .rename_i c' d' cd' Uy ho;have z:=(X _ _ ho).symm.trans htp;cases z
  .cases HQ
 ca:=fun {_ _ _ _ _ s} X ⟨o,e,c⟩ k=>by
  obtain⟨h,g,d,t,os⟩:=s;exact E8 T X e c k
end
section
variable {X:Cx}
inductive Ko (K:PySem.W.Frag) (H:Hp):V->Value->Prop where
 |of {v:V} {t:Value} (h:nM K H v t):Ko K H v t
 |exc {p C:Addr} (T:Da K C) (e:H p=some (U5 p (.ref C))):Ko K H (.ref p) (.ref C)
def PZ(K:PySem.W.Frag):List V->Hp->VK->Prop:=fun xs H Q=>∃x c cv t b,xs=[x,c]/\(c=.ty cv/\PySem.W.kitOne K t (.type cv)=some b)/\Ko K H x t/\Q (.bl b) H
theorem hW:eK X (.builtin "isinstance") (PZ X.K):=by
 intro ae s σ H xs us Q I r h;obtain⟨x,c,cv,t,b,rfl,⟨rfl,e⟩,ty,q⟩:=h;obtain⟨u1,u2,rfl,r1,r2⟩:=r.two;obtain rfl:u2=Value.type cv:=r2;cases ty with
 |of ty=>exact tI I r1 ty e fun tk=>⟨.bl b,H,I.tok tk,rfl,q⟩
 |@exc p C T ea=>
  obtain rfl:u1=Value.ref p:=r1;have p1:Tl p (.ref C) s.heap:=(I.bZ p _ ea).1;exact iR (w9 T) I.lZ p1 e (fun z=>nomatch z) fun tk=>⟨.bl b,H,I.tok tk,rfl,q⟩
def P0(K:PySem.W.Frag):List V->Hp->VK->Prop:=fun xs H Q=>∃x c t b,xs=[x,.ref c]/\PySem.W.kitOne K t (.ref c)=some b/\Ko K H x t/\Q (.bl b) H
theorem Dd:eK X (.builtin "isinstance") (P0 X.K):=by
 intro ae s σ H xs us Q I r h;obtain⟨x,c,t,b,rfl,e,ty,q⟩:=h;obtain⟨u1,u2,rfl,r1,r2⟩:=r.two;obtain rfl:u2=Value.ref c:=r2;cases ty with
 |of ty=>exact tI I r1 ty e fun tk=>⟨.bl b,H,I.tok tk,rfl,q⟩
 |@exc p C T ea=>
  obtain rfl:u1=Value.ref p:=r1;have p1:Tl p (.ref C) s.heap:=(I.bZ p _ ea).1;exact iR (w9 T) I.lZ p1 e (fun z=>nomatch z) fun tk=>⟨.bl b,H,I.tok tk,rfl,q⟩
end
section
variable {X:Cx} {x:Str} {C:Addr} {np qP pos:Pos} {e:Expr} {es:List Expr} {t:TA}
end
section
variable {X:Cx} {CX:yx} {k:Nat} {f C:Addr} {fd:FuncData} {ps:List Str} {sp:Sp} {sr:List V} {ds:List Value} {E:St->XK} {x m:Str} {p pos qM:Pos} {e o:Expr} {es:List Expr} {ta:TE} {t:TA}
end
section
variable {X:Cx} {CX:yx} {k:Nat} {f:Addr} {fd:FuncData} {ps:List Str} {sp:Sp} {sr:List V} {ds:List Value} {E:XK} {x:Str} {p pos:Pos} {e:Expr} {es:List Expr} {t:TA}
end
section
variable {P:Program} {w:World} {K:PySem.W.Frag} {mg:Str->Option Value} {base:Heap}
end
section
variable {X:Cx} {ae:List (Addr×Obj)} {σ:St} {H:Hp} {s:Shared}
end
theorem Ic{h:Heap}{a:Addr}{m m':Str->Option Value}(x:h.Ns a m)(y:h.Ns a m'):m=m':=by
 obtain⟨o,es,ep,e,d,_,q⟩:=x;obtain⟨o',yv,O1,e',d',_,q'⟩:=y;rw[e] at e';cases e';rw[d] at d';cases d';funext z;rw[<-q z,q' z]
theorem aO.P1{X:Cx}{ae:List (Addr×Obj)}{σ:St}{H:Hp}{s:Shared}{h':Heap}{m:Str->Option Value}{D:Addr}{o:HO}{t':Nat}(I:aO X ae σ H s)(F:Fr X.base X.env.locals s.heap m)(F':Fr X.base X.env.locals h' m)(N':News X.base X.env.locals h' (je X.base s.heap X.env.locals))(hD:s.heap.get? D=none)(new:cC X.prog X.w (upd H D o) h' D o):aO X ae σ (upd H D o) { s with heap:=h',toks:=t' }:=by
 have hn:=I.bZ.vx hD;have ne:∀b u,s.heap.get? b=some u->b≠D:=fun b u e z=>by rw[z,hD] at e;cases e
 have keep:∀b u,b≠X.env.locals->s.heap.get? b=some u->h'.get? b=some u:=fun b u hb e=>by
  cases q:X.base.get? b with
  |some v=>
   have:=I.bk b v q;rw[e] at this;cases this;exact F'.keep b _ q
  |none=>exact(N' (b,u) (jQ hb q e)).1
 refine I.step (g':=s.gens) (d':=s.drawn) (ch:=[]) (fun _ z=>absurd z (by simp)) (fun b u hb _ _ e _=>keep b u hb e) (fun b u hb _ _ e _=>⟨u.slots,keep b u hb e⟩) (fun b u _ e n=>by rw[am (ne b u e)];exact n) (fun b u _ e=>?_)
  (fun b xs e=>by rw[am (ak e hn)];exact e) (fun b u v e=>by rw[am (ak e hn)];exact e) (fun b ps e=>⟨#[],by rw[am (ak e hn),e];simp⟩) (fun m1 hm=>by rw[Ic hm F.ns];exact F'.ns) (fun b u e=>?_) I.bare
 .by_cases hb:b=X.env.locals
  .obtain⟨o',_,_,q,_⟩:=F'.ns;exact⟨o',by rw[hb];exact q⟩
  .exact⟨u,keep b u hb e⟩
 .by_cases hb:b=D
  .subst hb;rw[af] at e;cases e;exact new
  .rw[am hb] at e;refine(I.bZ b u e).jd (fun c v hc q=>keep c v ?_ q) (fun c q=>by rw[am (ak q hn)];exact q) fun c xs q=>by rw[am (ak q hn)];exact q
   rintro rfl;rcases hc with z|hc
   .have f:=I.free;rw[z,e] at f;cases f
   .rw[I.free] at hc;cases hc
theorem sI(I:aO X ae σ H s)(N:News X.base X.env.locals h' ((D,o)::je X.base s.heap X.env.locals))(dG:∀q∈je X.base s.heap X.env.locals,q.1<D):s.heap.get? D=none:=by
 cases e:s.heap.get? D with
 |none=>rfl
 |some u=>
  obtain⟨_,n1,n2⟩:=N (D,o) bp;exact absurd (dG (D,u) (jQ n1 n2 e)) (gZ _)
def E9(K:PySem.W.Frag)(H:Hp)(a:Addr)(y:Int×Int):Prop:=c_ K H a [.int y.1,.int y.2]
section
variable {X:Cx}
theorem z9(I:aO X ae σ H s)(h:E9 X.K H a y):∃o n t u,s.heap.get? a=some o/\o.cls=.type "tuple"/\o.data=.seq #[.int y.1 t,.int y.2 u] n:=by
 obtain⟨its,r,p,_⟩:=I.tuple h;obtain⟨u1,u2,rfl,r1,r2⟩:=r.two;obtain⟨t,rfl⟩:=r1;obtain⟨t',rfl⟩:=r2;obtain⟨o,e,c,n,d⟩:=p;exact⟨o,n,t,t',e,c,d⟩
end
def LZ(hs:Array Int)(i:Nat):Int:=(hs[i]?).getD 0
def fU(hs:Array Int)(t:SetTable)(h:Int):Option (Array Int×SetTable):=
 if t.gaveWay then none else
 match t.probe (LZ hs) h (t.probeStart h) with
 |some (.empty j none)=>
  let q:=t.put j
  let Df:=SetTable.insertAt hs q.2 h
  if q.1.fits Df.size&&decide (Df.size<=4096) then
   if q.1.tooFull then
    (match q.1.relaid Df (SetTable.grown (hs.size+1)) with
    |some (t2,order)=>
     let lB:=order.filterMap (Df[·]?)
     if lB.size==Df.size&&t2.fits lB.size&&decide (SetTable.sizeAbove (SetTable.grown (hs.size+1))<=4096) then some (lB,t2) else none
    |none=>none)
   else some (Df,q.1)
  else none
 |_=>none
def vy(led:Bool):List Int->Option (Array Int×SetTable):=fun l=>l.foldlM (fun q h=>fU q.1 q.2 h) (#[],SetTable.fresh 0 0 led)
def jY(h:Heap)(S:Addr)(hs:Array Int)(t:SetTable):Prop:=∃o es ep,h.get? S=some o/\o.cls=.type "set"/\(o.dict=none/\o.slots=#[])/\o.data=.set es ep t/\es.map (·.1)=hs/\t.fits es.size=true
section
variable {prog:Program} {w:World} {A:Around} {E:Value->Shared->Prop} {s:Shared} {S:Addr}
theorem L3(es:Array (Int×Value)):(fun i=>(es[i]?.map (·.1)).getD 0)=LZ (es.map (·.1)):=by
 funext i;unfold LZ;rw[Array.getElem?_map]
theorem md(es:Array (Int×Value))(p:Nat)(x:Int×Value):(SetTable.insertAt es p x).map (·.1)=SetTable.insertAt (es.map (·.1)) p x.1:=by
 unfold SetTable.insertAt;simp
theorem nU(es:Array (Int×Value))(order:Array Nat):(order.filterMap (es[·]?)).map (·.1)=order.filterMap ((es.map (·.1))[·]?):=by
 apply Array.ext';rw[ng,uB,uB,List.map_filterMap];congr 1;funext i;rw[Array.getElem?_map]
theorem z_(hS:jY s.heap S hs t)(hg:t.gaveWay=false)(hp:t.probe (LZ hs) h (t.probeStart h)=some (.empty j none))(q:Q (.free j false) s):
  wpAny (model prog w) A (setSearch S x h true) Q E s:=by
 obtain⟨o,es,ep,ho,hc,YW,hd,hm,hf⟩:=hS;unfold setSearch setSearchFrom;refine aA (uO ho hd hf ?_);dsimp only;rw[hg,au cr];have Kp:t.probe (fun i=>(es[i]?.map (·.1)).getD 0) h (t.probeStart h)=some (.empty j none):=by rw[L3,hm];exact hp
 refine aA (wpAny_pure ?_);erw[Kp];exact wpAny_pure q
theorem Dg(ho:s.heap.get? a=some o)(hc:o.cls=.type "tuple")(hd:o.data=.seq #[.int x t,.int y u] n)(q:Q true s):
  wpAny (model prog w) A (hashByValue 8 (.ref a)) Q E s:=by
 have hT:s.TypeIs (.ref a) "tuple":=⟨_,ho,hc⟩
 unfold hashByValue;refine aA (wpAny_specialOf hT PySem.F.slot_tuple_hash.lookup ?_);refine aA (lq ho hd ?_);refine aA ?_;show wpAny _ _ (forIn #[Value.int x t,Value.int y u] _ _) _ _ s;rw[<-qj];refine wpAny_forIn_list _ (fun rest r s'=>r.1=none/\s'=s/\∀v∈rest,∃z k,v=Value.int z k) _ ?_ ?_ _ _ ⟨rfl,rfl,fun v hv=>?_⟩
 .rintro v rest r s' ⟨hr,rfl,sG⟩;obtain⟨z,k,rfl⟩:=sG v bp;refine aA (wpAny_pure ?_);exact wpAny_pure ⟨rfl,rfl,fun u' pc=>sG u' (cW _ pc)⟩
 .rintro⟨r1,r2⟩ s' ⟨hr,rfl,_⟩;have w_:r1=none:=hr;subst w_;exact wpAny_pure q
 .rcases bg.mp hv with z|z
  .exact⟨_,_,z⟩
  .rcases bg.mp z with z|z
   .exact⟨_,_,z⟩
   .cases z
theorem BF(hS:jY s.heap S hs t)(hf:t'.fits yv.size=true)(hz:yv.size<=4096)(q:∀h',Heap.SameBut S s.heap h'->jY h' S (yv.map (·.1)) t'->Q () { s with heap:=h' }):wpAny (model prog w) A (storeSet S yv t') Q E s:=by
 obtain⟨o,es,ep,ho,hc,YW,hd,hm,_⟩:=hS;refine wpAny_storeSet_of ho hd (q _ (m9 s.heap S (Obj.putSet yv t')) ?_) (a8 hz (by decide));have g:=k8 (Obj.putSet yv t') ho (by rw[putSet_of yv t' hd];rfl);rw[putSet_of yv t' hd] at g;exact⟨_,yv,ep+1,g,hc,YW,rfl,rfl,hf⟩
theorem Ie(hu:A.units<cLine)(hS:jY s.heap S hs t)(ho:s.heap.get? a=some o)(hc:o.cls=.type "tuple")(hd:o.data=.seq #[.int x tx,.int y ty] n)(lF:a≠S)(mQ:fU hs t (tupleKeyHash (intKind prog w) [x,y])=some (hs',t'))(q:∀h' tk,Heap.SameBut S s.heap h'->jY h' S hs' t'->Q true { s with heap:=h',toks:=tk }):wpAny (model prog w) A (setAdd S (.ref a)) Q E s:=by
 have hk:IsTupleKey (intKind prog w) s.heap [x,y] a:=⟨o,_,n,ho,hc,hd,.cons (intKind_is _ _ _ _) (.cons (intKind_is _ _ _ _) .nil)⟩
 unfold setAdd;refine gy (aA (wpAny_pyHash_tuple hu hk ?_));generalize Pp:s.toks+([x,y].length+1)=tk;generalize hh:tupleKeyHash (intKind prog w) [x,y]=h at mQ |-;have YX:=hS;obtain⟨ob,es,ep,hb,U6,hbd,Hn,hm,hf⟩:=hS;unfold setAddHashed setAddHashedIn;refine gy (aA (uO (s:={ s with toks:=tk }) hb Hn hf ?_));dsimp only;have Kq:byScan (.ref a) es=false:=by unfold byScan;rfl
 rw[Kq,au cr];unfold fU at mQ;cases hg:t.gaveWay with
 |true=>rw[hg,av rfl] at mQ;cases mQ
 |false=>
  rw[hg,au cr] at mQ;split at mQ
  .rename_i j hp;dsimp only at mQ;split at mQ
   .rename_i To;rw[gw,qk] at To;refine aA (z_ (s:={ s with toks:=tk }) YX hg hp ?_);dsimp only;refine aA (uO (s:={ s with toks:=tk }) hb Hn hf ?_);dsimp only;have byv:∀ {kk:Bool->Sem Bool},wpAny (model prog w) A (kk true) Q E { s with toks:=tk }->wpAny (model prog w) A (if (t.put j).1.plain=true then hashByValue 8 (.ref a) >>= kk else pure true >>= kk) Q E { s with toks:=tk }:=fun {kk} hP=>by
     split
     .exact aA (Dg (s:={ s with toks:=tk }) ho hc hd hP)
     .exact aA (wpAny_pure hP)
    refine byv ?_;simp only[iD];have gJ:(SetTable.insertAt es (t.put j).2 (h,Value.ref a)).size=(SetTable.insertAt hs (t.put j).2 h).size:=by
     rw[<-hm,<-md es (t.put j).2 (h,Value.ref a),jE]
    refine aA (BF (s:={ s with toks:=tk }) YX (by rw[gJ];exact To.1) (by rw[gJ];exact To.2) fun h1 Dh S1=>?_);rw[md,hm] at S1;split at mQ
    .rename_i U7;rw[show (!false&&(t.put j).1.tooFull)=true by rw[U7];rfl,av rfl];split at mQ
     .rename_i t2 order hr;split at mQ
      .rename_i hq;rw[gw,gw,qk,fh] at hq;obtain⟨⟨Kr,Ks⟩,YY⟩:=hq;cases mQ;have U8:es.size=hs.size:=by rw[<-hm,jE]
       refine aA ?_;unfold setRelay;obtain⟨o1,Ig,ep1,g1,g2,g3,g4,g5,g6⟩:=id S1;refine aA (uO (s:={ s with heap:=h1,toks:=tk }) g1 g4 g6 ?_);dsimp only;rw[U8];rw[au (by (have h4:(4096:Nat)<=sizeLine:=by decide);lia)];refine aA ?_;rw[g5,hr];have Aa:(order.filterMap (Ig[·]?)).size=Ig.size:=by
        have e1:=congrArg Array.size (nU Ig order);rw[jE,g5] at e1;rw[e1,Kr,<-g5,jE]
       refine wpAny_of_eq (show _=(pure (order.filterMap (Ig[·]?),t'):Sem (Array (Int×Value)×SetTable)) from ?_) ?_
       .show (do
         let yv:=order.filterMap (Ig[·]?)
         if yv.size != Ig.size then unsupported "internal:set-table-lost-an-element"
         pure (yv,t'):Sem (Array (Int×Value)×SetTable))=_
        simp[Aa]
       dsimp only;have Ov:Ig.size<=4096:=by
        have e1:=congrArg Array.size g5;rw[jE] at e1;rw[e1];exact To.2
       have hfm:(order.filterMap (Ig[·]?)).size=(order.filterMap ((SetTable.insertAt hs (t.put j).2 h)[·]?)).size:=by
        have e1:=congrArg Array.size (nU Ig order);rw[jE,g5] at e1;exact e1
       refine BF (s:={ s with heap:=h1,toks:=tk }) S1 (by rw[hfm];exact Ks) (by rw[Aa];exact Ov) fun h2 E_ S2=>?_;rw[nU,g5] at S2;exact wpAny_pure (q h2 tk (Dh.trans E_) S2)
      .cases mQ
     .cases mQ
    .rename_i U7;cases mQ;have U9:(t.put j).1.tooFull=false:=by simpa using U7
     rw[show (!false&&(t.put j).1.tooFull)=false by rw[U9];rfl,au cr];exact wpAny_pure (q h1 tk Dh S1)
   .cases mQ
  .cases mQ
end
section
variable {prog:Program} {w:World} {A:Around} {E:Value->Shared->Prop} {s:Shared} {S Ia l:Addr} {R:Result->Shared->Prop}
def jk(h:Heap)(vs:List Value)(ys:List (Int×Int)):Prop:=vs.length=ys.length/\∀i v,vs[i]?=some v->∃a o n t u,v=.ref a/\h.get? a=some o/\o.cls=.type "tuple"/\o.data=.seq #[.int (ys.getD i (0,0)).1 t,.int (ys.getD i (0,0)).2 u] n
theorem jk.keeps(p:jk h vs ys)(k:∀b o,(∃xs n,o.data=.seq xs n)->h.get? b=some o->h'.get? b=some o):jk h' vs ys:=
 ⟨p.1,fun i v e=>let ⟨a,o,n,t,u,e1,e2,c,d⟩:=p.2 i v e;⟨a,o,n,t,u,e1,k a o ⟨_,_,d⟩ e2,c,d⟩⟩
def ft(prog:Program)(w:World)(y:Int×Int):Int:=tupleKeyHash (intKind prog w) [y.1,y.2]
theorem Fa(hh:A.handled=none)(hu:A.units+1<cLine)(hlS:l≠S)(U_:l≠Ia)(Va:S≠Ia):
  ∀ (k i:Nat) (s:Shared) (hs:Array Int) (t:SetTable),vs.length-i=k->i<=vs.length->s.heap.IsListIter Ia l i->s.heap.IsList l vs.toArray->jk s.heap vs ys->jY s.heap S hs t->
   ((ys.drop i).map (ft prog w)).foldlM (fun q h=>fU q.1 q.2 h) (hs,t)=some (hsN,tN)->
   (∀h' tk,(∀b o,b≠S->b≠Ia->s.heap.get? b=some o->h'.get? b=some o)->jY h' S hsN tN->R (.ok (.ret .none)) { s with heap:=h',toks:=tk })->
   codeAny (model prog w) A (.builtin "set.update.loop" ⟨[.ref S,.ref Ia],[]⟩) R s:=by
 intro k;induction k with
 |zero=>
  intro i s hs t hk hi wu hl hp hS hf hR;have e:i=vs.length:=by lia
  refine jL Em ?_;rw[mZ yE _];show wpAny _ A.in1 (pyNext (.ref Ia) >>= _) _ _ s;refine aA (y_ (show A.in1.handled=none from hh) wu hl (by simp;lia) fun h' eb=>?_);show wpAny _ A.in1 (ret Value.none) _ _ _;have hd:ys.drop i=[]:=by rw[List.drop_eq_nil_iff];have:=hp.1;lia
  rw[hd] at hf;cases hf;obtain⟨o,es,ep,q1,q2⟩:=hS;exact wpAny_pure (hR h' s.toks (fun b o hb Ih e=>eb b o Ih e) ⟨o,es,ep,eb S o Va q1,q2⟩)
 |succ k ih=>
  intro i s hs t hk hi wu hl hp hS hf hR;have dG:i<vs.length:=by lia
  refine jL Em ?_;rw[mZ yE _];show wpAny _ A.in1 (pyNext (.ref Ia) >>= _) _ _ s;have hv:vs[i]?=some vs[i]:=bH dG;refine aA (yW wu hl (x:=vs[i]) (by simpa using hv) fun h1 L4 Dh=>?_);obtain⟨a,o,n,tx,ty,ea,eo,ec,ed⟩:=hp.2 i _ hv;rw[ea];have Tp:∀b ob,(∃xs n,ob.data=.seq xs n)->s.heap.get? b=some ob->b≠Ia:=fun b ob ⟨xs,m,z⟩ e z'=>by
   obtain⟨oi,e1,_,d1⟩:=wu;rw[z',e1] at e;cases e;rw[d1] at z;cases z
  have lR:jk h1 vs ys:=hp.keeps fun b ob hb e=>(Dh.2 b (Tp b ob hb e)).trans e;have P3:jY h1 S hs t:=by
   obtain⟨oS,es,ep,q1,q2⟩:=hS;exact⟨oS,es,ep,(Dh.2 S Va).trans q1,q2⟩
  have yA:h1.IsList l vs.toArray:=by
   obtain⟨ol,q1,q2⟩:=hl;exact⟨ol,(Dh.2 l U_).trans q1,q2⟩
  have P4:h1.get? a=some o:=(Dh.2 a (Tp a o ⟨_,_,ed⟩ eo)).trans eo;have YZ:∀b ob,(∃xs n,ob.data=.seq xs n)->h1.get? b=some ob->b≠S:=fun b ob ⟨xs,m,z⟩ e z'=>by
   obtain⟨oS,es,ep,q1,_,_,q4,_⟩:=P3;rw[z',q1] at e;cases e;rw[q4] at z;cases z
  have Ab:i<ys.length:=by have:=hp.1;lia
  have Vb:ys.drop i=ys[i]::ys.drop (i+1):=qa Ab;have hgy:ys.getD i (0,0)=ys[i]:=by rw[b_,bH Ab];rfl
  rw[Vb,ff,List.foldlM_cons] at hf;cases mQ:fU hs t (ft prog w ys[i]) with
  |none=>rw[mQ] at hf;cases hf
  |some q=>
   obtain⟨lB,t2⟩:=q;rw[mQ] at hf;have Y0:((ys.drop (i+1)).map (ft prog w)).foldlM (fun q h=>fU q.1 q.2 h) (lB,t2)=some (hsN,tN):=hf;show wpAny _ A.in1 (holding [Value.ref a] (setAdd S (.ref a)) >>= _) _ _ _;refine aA (gy (Ie (s:={ s with heap:=h1 }) (by show A.units+1<cLine;exact hu) P3 P4 ec ed (YZ a o ⟨_,_,ed⟩ P4) (hs':=lB) (t':=t2) (by rw[hgy];exact mQ) fun h2 tk E_ S2=>?_));refine wpAny_pure ⟨qB yE _,?_⟩;refine ih (i+1) { s with heap:=h2,toks:=tk } lB t2 (by lia) dG ?_ ?_ (lR.keeps fun b ob hb e=>(E_.2 b (YZ b ob hb e)).trans e) S2 Y0 fun h3 Vc k3 S3=>?_
   .obtain⟨oi,q1,q2⟩:=L4;exact⟨oi,(E_.2 Ia (cZ Va)).trans q1,q2⟩
   .obtain⟨ol,q1,q2⟩:=yA;exact⟨ol,(E_.2 l hlS).trans q1,q2⟩
   .exact hR h3 Vc (fun b ob hb Ih e=>k3 b ob hb Ih ((E_.2 b hb).trans ((Dh.2 b Ih).trans e))) S3
theorem Fb{vs:List Value}{ys:List (Int×Int)}{hsN:Bool->Array Int}{tN:Bool->SetTable}{Q:Value->Shared->Prop}(hh:A.handled=none)(hu:A.units+8<cLine)(hl:s.heap.IsList l vs.toArray)(hp:jk s.heap vs ys)(Di:∀led,vy led (ys.map (ft prog w))=some (hsN led,tN led))(h:∀ (led:Bool) (h':Heap) (tk:Nat),jY h' s.heap.objs.size (hsN led) (tN led)->(∀b o,b<s.heap.objs.size->s.heap.get? b=some o->h'.get? b=some o)->Q (.ref s.heap.objs.size) { s with heap:=h',toks:=tk }):
  wpAny (model prog w) A (call (.type "set") [.ref l]) Q E s:=by
 obtain⟨c,tl,aac⟩:=jF.mro;have c1:=jF.made;have c2:=jF.sub;refine nC (codeAny_of_tree ?_);show wpAny _ _ (callAny (.type "set") _) _ _ _;refine wpAny_pure ⟨Code.quiet_builtin _ (by decide +kernel),jL PySem.F.entry_type_call ?_⟩;rw[Around.under_plain (weight_type_call_type "set" [.ref l] []) rfl];have c3:=jF.notType;have c4:=jF.canCreate;have c5:=PySem.F.typeCall_set_1 (.ref l);repeat (any_goals (first|assumption|wp_step))
 refine nB (code_set_new_1 (.ref l) (E:=E) (Q₁:=fun obj s₁=>∃led:Bool,obj=.ref s.heap.objs.size/\s₁={ s with heap:=s.heap.push { cls:=.type "set",dict:=none,data:=.set #[] 0 (.fresh 0 0 led) } }) fun led=>⟨led,rfl,rfl⟩) fun r s₁ hr=>?_;cases r with
 |error e=>exact hr
 |ok fl=>
  cases fl with
  |next=>exact hr.elim
  |brk=>exact hr.elim
  |cont=>exact hr.elim
  |ret obj=>
   obtain⟨led,rfl,rfl⟩:=hr;generalize Vd:s.heap.push { cls:=.type "set",dict:=none,data:=.set #[] 0 (.fresh 0 0 led) }=hS;have gJ:hS.objs.size=s.heap.objs.size+1:=by rw[<-Vd,gY]
   have gS:hS.get? s.heap.objs.size=some { cls:=.type "set",dict:=none,data:=.set #[] 0 (.fresh 0 0 led) }:=by rw[<-Vd];exact cX _ rfl
   have up:∀b o,s.heap.get? b=some o->hS.get? b=some o:=fun b o e=>by rw[<-Vd];exact cB _ e
   have hT:Shared.TypeIs { s with heap:=hS } (.ref s.heap.objs.size) "set":=⟨_,gS,rfl⟩
   have c6:=jF.init.lookup;have c7:=jF.init.bind (.ref s.heap.objs.size);repeat (any_goals (first|assumption|wp_step))
   refine nB (uK (R:=wants (fun r s₂=>r=.none/\∃h' tk,s₂={ s with heap:=h',toks:=tk }/\jY h' s.heap.objs.size (hsN led) (tN led)/\
     (∀b o,b<s.heap.objs.size->s.heap.get? b=some o->h'.get? b=some o)) E) jF.init.plain PySem.F.entry_set_init (check_set_init_1 hT ?_)) fun r₂ s₂ P5=>?_
   .obtain⟨ol,Eh,Eg,nl,Tq⟩:=hl;obtain⟨aad,Y1,Y2,Ve⟩:=ol;simp only at Eg Tq;subst Eg;subst Tq;have Vf:=up _ _ Eh;have c8:=PySem.F.sub_list_set;have c9:=PySem.F.sub_list_frozenset;have c10:(Value.type "list"==Value.type "dict")=false:=by decide
    have yA:hS.IsList l vs.toArray:=⟨_,Vf,rfl,nl,rfl⟩
    unfold Builtin.«set.__init__» noKeywords Builtin.Frozenset.updateFrom;generalize hPI:pyIter=PI
    wp_walk
    subst hPI;refine qp yA ?_;refine aA (wpAny_runValue ?_);have dG:l<s.heap.objs.size:=aS Eh;refine Fa (l:=l) (vs:=vs) (ys:=ys) (hsN:=hsN led) (tN:=tN led) (by simp[hh]) (by simp;lia) (aQ dG) (by rw[gJ];exact aQ (eI dG)) (by rw[gJ];exact aQ (i7 _))
     (vs.length-0) 0 _ #[] (.fresh 0 0 led) rfl (bT _) ⟨_,cX _ rfl,rfl,rfl⟩ (yA.push _) (hp.keeps fun b o _ e=>cB _ (up b o e)) ⟨_,#[],0,cB _ gS,rfl,⟨rfl,rfl⟩,rfl,by simp,rfl⟩ (Di led) fun h' tk k S'=>?_
    show wpAny _ _ _ _ _ _;refine wpAny_pure ?_;show wpAny _ _ (ret Value.none) _ _ _;refine wpAny_pure ⟨rfl,h',tk,rfl,S',fun b o hb e=>?_⟩;exact k b o (aQ hb) (by rw[gJ];exact aQ (eI hb)) (cB _ (up b o e))
   .cases r₂ with
    |error e=>exact P5
    |ok fl₂=>
     cases fl₂ with
     |next=>exact P5.elim
     |brk=>exact P5.elim
     |cont=>exact P5.elim
     |ret r=>
      obtain⟨rfl,h',tk,rfl,S',k⟩:=P5;repeat (any_goals (first|assumption|wp_step))
      exact h led h' tk S' k
end
open PySem
def Fc(l:List Nat):Nat:=l.foldl (fun a x=>a ||| (1 <<< x)) 0
theorem Dj(l:List Nat)(a j:Nat):(l.foldl (fun a x=>a ||| (1 <<< x)) a).testBit j=(a.testBit j||l.contains j):=by
 induction l generalizing a with
 |nil=>simp
 |cons x xs ih=>
  rw[uS,ih,Nat.testBit_or,List.contains_cons];have:(1 <<< x).testBit j=(j==x):=by
   rw[Nat.one_shiftLeft,Nat.testBit_two_pow];by_cases h:x=j
   .simp[h]
   .have h':¬ j=x:=fun e=>h e.symm;simp[h,h']
  rw[this,Bool.or_assoc]
theorem oA(h:Fc l=2 ^ n-1)(hj:j<n):j∈l:=by
 have e:=Dj l 0 j;have h':l.foldl (fun a x=>a ||| (1 <<< x)) 0=2 ^ n-1:=h;rw[h',Nat.testBit_two_pow_sub_one] at e;simp[hj] at e;exact e
def Fd(M:Nat):Nat->Nat->Nat
 |0,i=>i
 |n+1,i=>Fd M n ((i*5+1) % M)
theorem pQ(M a:Nat):∀b i,Fd M (b+a) i=Fd M a (Fd M b i)
 |0,i=>by rw[gk];rfl
 |b+1,i=>by
  rw[show b+1+a=(b+a)+1 by lia];show Fd M (b+a) _=Fd M a (Fd M b _);exact pQ M a b _
def L5(M:Nat):Nat->Nat->List Nat
 |0,_=>[]
 |n+1,i=>i::L5 M n ((i*5+1) % M)
theorem qV:∀ {n i},j∈L5 M n i->∃k,k<n/\Fd M k i=j
 |0,_,h=>by cases h
 |n+1,i,h=>by
  rcases bg.mp h with z|z
  .exact⟨0,by lia,z.symm⟩
  .obtain⟨k,a,b⟩:=qV z;exact⟨k+1,by lia,b⟩
structure Dk(M:Nat):Prop where
 all:Fc (L5 M M 0)=2 ^ M-1
 back:Fd M M 0=0
theorem Vg:Dk 8:=⟨by decide +kernel,by decide +kernel⟩
theorem Ku:Dk 32:=⟨by decide +kernel,by decide +kernel⟩
theorem Fe:Dk 128:=⟨by decide +kernel,by decide +kernel⟩
theorem Ff:Dk 512:=⟨by decide +kernel,by decide +kernel⟩
theorem Dk.cover(R:Dk M)(hi:i<M)(hj:j<M):∃n,n<M/\Fd M n i=j:=by
 obtain⟨a,ha,ea⟩:=qV (oA R.all hi);obtain⟨b,hb,eb⟩:=qV (oA R.all hj);by_cases h:a<=b
 .refine⟨b-a,by lia,?_⟩;rw[<-ea,<-pQ,show a+(b-a)=b by lia,eb]
 .refine⟨M+b-a,by lia,?_⟩;rw[<-ea,<-pQ,show a+(M+b-a)=M+b by lia,pQ,R.back,eb]
def gD(mask:Nat):Nat->Nat×Nat->Nat×Nat
 |0,q=>q
 |n+1,q=>gD mask n (SetTable.leap mask q.1 q.2)
theorem tW(m a:Nat):∀b q,gD m (b+a) q=gD m a (gD m b q)
 |0,q=>by rw[gk];rfl
 |b+1,q=>by
  rw[show b+1+a=(b+a)+1 by lia];exact tW m a b _
theorem xa:∀ {n:Nat} {q:Nat×Nat},q.1<m+1->(gD m n q).1<m+1
 |0,_,h=>h
 |n+1,q,h=>xa (n:=n) (jO _ (Nat.succ_pos _))
theorem BG:∀ {n:Nat} {q:Nat×Nat},(gD m n q).2=q.2 / 32 ^ n
 |0,_=>by simp[gD]
 |n+1,q=>by
  show (gD m n _).2=_;rw[BG];show q.2 / 32 / 32 ^ n=_;rw[yO,Nat.pow_succ,Nat.mul_comm]
theorem tX:∀ {n i:Nat},gD m n (i,0)=(Fd (m+1) n i,0)
 |0,_=>rfl
 |n+1,i=>by
  show gD m n (SetTable.leap m i 0)=_;unfold SetTable.leap;simp only[Nat.zero_div,lw];exact tX
theorem oB(R:Dk (m+1))(hi:i<m+1)(hp:p<2 ^ 64)(hj:j<m+1):∃n,n<m+14/\(gD m n (i,p)).1=j:=by
 have h1:=xa (m:=m) (n:=13) (q:=(i,p)) hi;have h2:(gD m 13 (i,p)).2=0:=by
  rw[BG];exact Nat.div_eq_of_lt (bn hp (by decide))
 obtain⟨n,hn,e⟩:=R.cover h1 hj;refine⟨13+n,by lia,?_⟩;rw[tW];have:gD m 13 (i,p)=((gD m 13 (i,p)).1,0):=g9 rfl h2;rw[this,tX];exact e
theorem BH(h:Int):SetTable.bits h<2 ^ 64:=by
 unfold SetTable.bits;have a:=qv h (show (2 ^ 64:Int)≠0 by decide);have b:=qi h (show (0:Int)<2 ^ 64 by decide);lia
theorem P6{M:Nat}{l:List Nat}(h:l.length<M):∃j,j<M/\j∉l:=by
 have key:∀ (a b:List Nat),a.Nodup->(∀x∈a,x∈b)->a.length<=b.length:=by
  intro a;induction a with
  |nil=>intro b _ _;exact bT _
  |cons x xs ih=>
   intro b hn hs;obtain⟨h1,h2⟩:=fA.mp hn;have hx:x∈b:=hs x bp;have:=ih (b.erase x) h2 fun y hy=>(List.mem_erase_of_ne (fun (e:y=x)=>h1 (e ▸ hy))).mpr (hs y (cW _ hy));rw[Ev hx] at this;have:0<b.length:=uA hx;rw[dS];lia
 apply ux;intro L7;have:=key (List.range M) l i8 fun x hx=>ux fun o5=>L7 ⟨x,bP.mp hx,o5⟩;rw[cK] at this;lia
def Ad(mask i p:Nat):SetTable.Probe:={ j:=i,more:=SetTable.runEnd mask i-i,i:=i,perturb:=p,dummy:=none }
theorem L8(mask i:Nat):SetTable.runEnd mask i-i<=9:=by unfold SetTable.runEnd;split <;> lia
theorem vz{t:SetTable}(hd:t.dummies=#[])(j:Nat):t.slot j=.empty\/∃i,t.slot j=.live i/\t.place[i]?=some j:=by
 unfold SetTable.slot;dsimp only;split
 .rename_i h;exact .inr ⟨_,rfl,by simpa using h⟩
 .left;rw[hd];rfl
theorem Ae{t:SetTable}(hd:t.dummies=#[]){j:Nat}(h:j∉t.place.toList):t.slot j=.empty:=by
 rcases vz hd j with e|⟨i,_,e2⟩
 .exact e
 .exact absurd (by rw[<-js] at e2;exact dj e2) h
section
variable {t:SetTable} {hashAt:Nat->Int} {h:Int}
theorem Fg(hd:t.dummies=#[])(hh:∀i,i<t.place.size->hashAt i≠h)(i p:Nat):∀ (r:Nat) (j gf:Nat),
  (∃j',SetTable.probe.go t hashAt h (gf+r+1) { j:=j,more:=r,i:=i,perturb:=p,dummy:=none }=some (.empty j' none))\/
  SetTable.probe.go t hashAt h (gf+r+1) { j:=j,more:=r,i:=i,perturb:=p,dummy:=none }=SetTable.probe.go t hashAt h gf (Ad t.mask (SetTable.leap t.mask i p).1 (SetTable.leap t.mask i p).2)
 |0,j,gf=>by
  rcases vz hd j with e|⟨k,e,e2⟩
  .exact .inl ⟨j,by unfold SetTable.probe.go;rw[e]⟩
  .right;have hk:k<t.place.size:=(Es.mp e2).1;conv=>lhs;unfold SetTable.probe.go
   rw[e];simp only[fh,hh k hk,eJ];rfl
 |r+1,j,gf=>by
  rcases vz hd j with e|⟨k,e,e2⟩
  .exact .inl ⟨j,by rw[show gf+(r+1)+1=(gf+r+1)+1 by lia];unfold SetTable.probe.go;rw[e]⟩
  .have hk:k<t.place.size:=(Es.mp e2).1;have st:SetTable.probe.go t hashAt h (gf+(r+1)+1) { j:=j,more:=r+1,i:=i,perturb:=p,dummy:=none }=SetTable.probe.go t hashAt h (gf+r+1) { j:=j+1,more:=r,i:=i,perturb:=p,dummy:=none }:=by
    rw[show gf+(r+1)+1=(gf+r+1)+1 by lia];conv=>lhs;unfold SetTable.probe.go
    rw[e];simp only[fh,hh k hk,eJ];rfl
   rw[st];exact Fg hd hh i p r (j+1) gf
theorem BI(hd:t.dummies=#[])(hh:∀i,i<t.place.size->hashAt i≠h):∀ (m:Nat) (i p gf:Nat),10*(m+1)<=gf->t.slot (gD t.mask m (i,p)).1=.empty->
  ∃j',SetTable.probe.go t hashAt h gf (Ad t.mask i p)=some (.empty j' none)
 |0,i,p,gf,hf,e=>by
  obtain⟨f,rfl⟩:∃f,gf=f+1:=⟨gf-1,by lia⟩
  refine⟨i,?_⟩;have e':t.slot i=.empty:=e;unfold SetTable.probe.go Ad;dsimp only;rw[e']
 |m+1,i,p,gf,hf,e=>by
  have hr:=L8 t.mask i;obtain⟨f,xb⟩:∃f,gf=f+(SetTable.runEnd t.mask i-i)+1:=⟨gf-(SetTable.runEnd t.mask i-i)-1,by lia⟩
  rcases Fg (hashAt:=hashAt) (h:=h) hd hh i p (SetTable.runEnd t.mask i-i) i f with z|z
  .rw[xb];exact z
  .rw[xb];show ∃j',SetTable.probe.go t hashAt h _ { j:=i,more:=_,i:=i,perturb:=p,dummy:=none }=_;rw[z];exact BI hd hh m _ _ f (by lia) e
theorem Af(R:Dk (t.mask+1))(hd:t.dummies=#[])(hs:t.place.size<=t.mask)(hh:∀i,i<t.place.size->hashAt i≠h):∃j,t.probe hashAt h (t.probeStart h)=some (.empty j none):=by
 obtain⟨j,hj,hn⟩:=P6 (M:=t.mask+1) (l:=t.place.toList) (by simpa using Nat.lt_succ_of_le hs);obtain⟨m,hm,e⟩:=oB R (jO (SetTable.bits h) (Nat.succ_pos t.mask)) (BH h) hj;refine BI hd hh m _ _ _ ?_ (by rw[e];exact Ae hd hn);unfold SetTable.turns;lia
end
theorem nV{α β:Type}{f:α->Option β}:∀ {l:List α},(∀q∈l,(f q).isSome=true)->(l.filterMap f).length=l.length
 |[],_=>rfl
 |q::l,h=>by
  have hq:=h q bp;cases e:f q with
  |none=>rw[e] at hq;cases hq
  |some b=>rw[Ew e,dS,dS,nV fun x hx=>h x (cW _ hx)]
theorem tY:∀ (m gf i p:Nat),m<gf->owner.getD (gD mask m (i,p)).1 (some 0)=none->∃j,SetTable.layClean.free mask owner gf i p=some j/\owner.getD j (some 0)=none
 |m,0,_,_,h,_=>by lia
 |m,gf+1,i,p,h,e=>by
  unfold SetTable.layClean.free;cases hf:(List.range (SetTable.runEnd mask i+1-i)).find? fun k=>(owner.getD (i+k) (some 0)).isNone with
  |some k=>
   refine⟨i+k,rfl,?_⟩;have:=List.find?_some hf;simpa using this
  |none=>
   cases m with
   |zero=>
    have h0:(0:Nat)∈List.range (SetTable.runEnd mask i+1-i):=bP.mpr (by unfold SetTable.runEnd;split <;> lia);have:=List.find?_eq_none.mp hf 0 h0;have e':owner.getD i (some 0)=none:=e;rw[lw,e'] at this;exact absurd rfl this
   |succ m=>
    exact tY m gf _ _ (by lia) e
structure xc(M:Nat)(owner:Array (Option Nat))(k:Nat):Prop where
 size:owner.size=M
 cnt:owner.toList.countP Option.isSome=k
 lt:∀x,some x∈owner.toList->x<k
theorem Ag{l:List (Option Nat)}{j:Nat}{x:Nat}(hj:l[j]?=some none):(l.set j (some x)).countP Option.isSome=l.countP Option.isSome+1:=by
 induction l generalizing j with
 |nil=>cases hj
 |cons a l ih=>
  cases j with
  |zero=>
   obtain rfl:a=none:=by simpa using hj
   simp
  |succ j=>
   rw[List.set_cons_succ,m_,m_,ih (by simpa using hj)];lia
theorem xc.one{mask:Nat}{owner:Array (Option Nat)}{k:Nat}(L:xc (mask+1) owner k)(R:Dk (mask+1))(hk:k<mask+1)(h:Int):
  ∃j,SetTable.layClean.free mask owner (SetTable.turns mask) (SetTable.bits h % (mask+1)) (SetTable.bits h)=some j/\xc (mask+1) (owner.setIfInBounds j (some k)) (k+1):=by
 have L7:∃j,j<mask+1/\owner.toList[j]?=some none:=by
  apply ux;intro L7;have sG:∀x∈owner.toList,x.isSome=true:=by
   intro x hx;obtain⟨j,hj,e⟩:=lW.mp hx;cases x with
   |some _=>rfl
   |none=>
    refine absurd ⟨j,?_,?_⟩ L7
    .rw[<-L.size];simpa using hj
    .rw[bH hj,e]
  have:=List.countP_eq_length.mpr sG;rw[L.cnt,fZ,L.size] at this;lia
 obtain⟨j0,hj0,e0⟩:=L7;obtain⟨m,hm,em⟩:=oB R (jO (SetTable.bits h) (Nat.succ_pos mask)) (BH h) hj0;obtain⟨j,ej,en⟩:=tY (mask:=mask) (owner:=owner) m (SetTable.turns mask) (SetTable.bits h % (mask+1)) (SetTable.bits h) (by unfold SetTable.turns;lia)
  (by rw[em,uv,<-js,e0];rfl)
 refine⟨j,ej,?_⟩;have hjn:owner.toList[j]?=some none:=by
  rw[uv,<-js] at en;cases hq:owner.toList[j]? with
  |none=>rw[hq] at en;cases en
  |some v=>rw[hq] at en;rw[show v=none from en]
 have P7:(owner.setIfInBounds j (some k)).toList=owner.toList.set j (some k):=by simp
 refine⟨by simp[L.size],by rw[P7,Ag hjn,L.cnt],fun x hx=>?_⟩;rw[P7] at hx;rcases List.mem_or_eq_of_mem_set hx with z|z
 .exact eI (L.lt x z)
 .cases z;exact i7 _
theorem BJ(R:Dk (mask+1)):∀ (l:List Int) (owner:Array (Option Nat)) (k:Nat),xc (mask+1) owner k->k+l.length<=mask->
  ∃Fh,l.foldl (fun cH h=>do
   let (owner,k) <- cH
   let j <- SetTable.layClean.free mask owner (SetTable.turns mask) (SetTable.bits h % (mask+1)) (SetTable.bits h)
   pure (owner.setIfInBounds j (some k),k+1)) (some (owner,k))=some (Fh,k+l.length)/\xc (mask+1) Fh (k+l.length)
 |[],owner,k,L,_=>⟨owner,rfl,L⟩
 |h::l,owner,k,L,hl=>by
  rw[dS] at hl;obtain⟨j,ej,L'⟩:=L.one R (by lia) h;obtain⟨o',e,L2⟩:=BJ R l _ _ L' (by lia);refine⟨o',?_,by rw[dS,show k+(l.length+1)=k+1+l.length by lia];exact L2⟩;rw[uS];have:(do
   let (owner,k) <- some (owner,k)
   let j <- SetTable.layClean.free mask owner (SetTable.turns mask) (SetTable.bits h % (mask+1)) (SetTable.bits h)
   pure (owner.setIfInBounds j (some k),k+1):Option (Array (Option Nat)×Nat))=some (owner.setIfInBounds j (some k),k+1):=by
   show (SetTable.layClean.free mask owner (SetTable.turns mask) (SetTable.bits h % (mask+1)) (SetTable.bits h)).bind _=_;rw[ej];rfl
  rw[this,e,dS,show k+(l.length+1)=k+1+l.length by lia]
theorem xf(R:Dk (mask+1))(hs:Array Int)(h:hs.size<=mask):∃owner,SetTable.layClean mask hs=some owner/\xc (mask+1) owner hs.size:=by
 have L0:xc (mask+1) (Array.replicate (mask+1) none) 0:=⟨by simp,by simp[List.countP_replicate],fun x hx=>by simp at hx⟩
 obtain⟨o,e,L⟩:=BJ R hs.toList _ 0 L0 (by simpa using h);refine⟨o,?_,by simpa using L⟩;unfold SetTable.layClean;rw[<-Array.foldl_toList];have e':=congrArg (Option.map (·.1)) e;exact e'
theorem Ah(L:xc M owner n):
  ((List.range M).filterMap fun j=>(owner.getD j none).map (j,·)).length=n/\∀q∈(List.range M).filterMap (fun j=>(owner.getD j none).map (j,·)),q.2<n:=by
 constructor
 .rw[<-L.cnt];have e:owner.toList=(List.range M).map fun j=>owner.getD j none:=by
   apply zu
   .simp[L.size]
   .intro i h1 h2;simp only[qo,ze,yV];rw[uv,yJ (by simpa using h1)];rfl
  conv=>rhs;rw[e]
  rw[List.countP_map];generalize List.range M=l;induction l with
  |nil=>rfl
  |cons a l ih=>
   rw[m_,<-ih];cases hq:owner.getD a none with
   |none=>rw[List.filterMap_cons_none (by rw[hq];rfl),show (Option.isSome ∘ fun j=>owner.getD j none) a=false by show (owner.getD a none).isSome=false;rw[hq];rfl];simp
   |some x=>rw[Ew (b:=(a,x)) (by rw[hq];rfl),show (Option.isSome ∘ fun j=>owner.getD j none) a=true by show (owner.getD a none).isSome=true;rw[hq];rfl];simp
 .intro q hq;obtain⟨j,_,e⟩:=m7.mp hq;cases hx:owner.getD j none with
  |none=>rw[hx] at e;cases e
  |some x=>
   rw[hx] at e;cases e;refine L.lt x ?_;rw[uv,<-js] at hx;cases hy:owner.toList[j]? with
   |none=>rw[hy] at hx;cases hx
   |some v=>rw[hy] at hx;obtain rfl:v=some x:=hx;exact dj hy
structure xg(hs:Array Int)(t:SetTable):Prop where
 dm:t.dummies=#[]
 sz:t.place.size=hs.size
 ms:(t.mask=7/\hs.size<=4)\/(t.mask=31/\hs.size<=18)\/(t.mask=127/\hs.size<=76)\/(t.mask=511/\hs.size<=306)
theorem xg.rnd(T:xg hs t):Dk (t.mask+1):=by
 rcases T.ms with ⟨e,_⟩|⟨e,_⟩|⟨e,_⟩|⟨e,_⟩ <;> rw[e]
 .exact Vg
 .exact Ku
 .exact Fe
 .exact Ff
theorem kR(xs:Array α)(p:Nat)(x:α):(SetTable.insertAt xs p x).size=xs.size+1:=by
 unfold SetTable.insertAt;simp;lia
theorem me(h:y∈(SetTable.insertAt xs p x).toList):y=x\/y∈xs.toList:=by
 unfold SetTable.insertAt at h;rw[ow,iQ,yU,yU] at h;rcases bO.mp h with z|z
 .rcases bO.mp z with z|z
  .right;rw[List.extract_eq_drop_take] at z;exact uF (mW z)
  .left;simpa using z
 .right;rw[List.extract_eq_drop_take] at z;exact uF (mW z)
theorem Ai{hs:Array Int}{t:SetTable}{h:Int}(T:xg hs t)(hn:h∉hs.toList)(hl:hs.size<300):∃hs' t',fU hs t h=some (hs',t')/\xg hs' t'/\hs'.size=hs.size+1/\∀x∈hs'.toList,x=h\/x∈hs.toList:=by
 have Ov:t.place.size<=t.mask:=by rw[T.sz];rcases T.ms with ⟨e,z⟩|⟨e,z⟩|⟨e,z⟩|⟨e,z⟩ <;> lia
 have hh:∀i,i<t.place.size->LZ hs i≠h:=by
  intro i hi e;rw[T.sz] at hi;unfold LZ at e;rw[yJ hi] at e;exact hn (by rw[<-e];simp)
 obtain⟨j,hp⟩:=Af (hashAt:=LZ hs) (h:=h) T.rnd T.dm Ov hh;have hg:t.gaveWay=false:=by
  unfold SetTable.gaveWay;rcases T.ms with ⟨e,_⟩|⟨e,_⟩|⟨e,_⟩|⟨e,_⟩ <;> rw[e] <;> rfl
 have q1:(t.put j).1.place=SetTable.insertAt t.place (SetTable.below t.place j) j:=rfl;have q2:(t.put j).1.dummies=#[]:=by
  show (if SetTable.has t.dummies j=true then _ else t.dummies)=_;rw[T.dm];rfl
 have q3:(t.put j).1.mask=t.mask:=rfl;have s1:(SetTable.insertAt hs (t.put j).2 h).size=hs.size+1:=kR _ _ _;have s2:(t.put j).1.place.size=hs.size+1:=by rw[q1,kR,T.sz]
 have fl:(t.put j).1.fill=hs.size+1:=by unfold SetTable.fill;rw[s2,q2];rfl
 have fit:(t.put j).1.fits (SetTable.insertAt hs (t.put j).2 h).size=true:=by
  unfold SetTable.fits;rw[s1,s2,fl,q3];simp;rcases T.ms with ⟨e,z⟩|⟨e,z⟩|⟨e,z⟩|⟨e,z⟩ <;> lia
 unfold fU;rw[hg,au cr,hp];dsimp only;rw[av (by rw[fit,s1];simp;lia)];by_cases hf:(t.put j).1.tooFull=true
 .rw[av hf];have xb:=hf;unfold SetTable.tooFull at xb;rw[fl,q3] at xb;have Y0:(hs.size+1)*5>=t.mask*3:=by simpa using xb
  have gr:SetTable.grown (hs.size+1)=(hs.size+1)*4:=by unfold SetTable.grown;rw[au (by lia)]
  obtain⟨m2,Y3,L9,R2⟩:∃m2,SetTable.sizeAbove (SetTable.grown (hs.size+1))=m2+1/\((m2=31/\hs.size+1<=18)\/(m2=127/\hs.size+1<=76)\/(m2=511/\hs.size+1<=306))/\Dk (m2+1):=by
   rw[gr];rcases T.ms with ⟨e,z⟩|⟨e,z⟩|⟨e,z⟩|⟨e,z⟩
   .have:hs.size=4:=by lia
    exact⟨31,by rw[this];rfl,.inl ⟨rfl,by lia⟩,Ku⟩
   .have:hs.size=18:=by lia
    exact⟨127,by rw[this];rfl,.inr (.inl ⟨rfl,by lia⟩),Fe⟩
   .have:hs.size=76:=by lia
    exact⟨511,by rw[this];rfl,.inr (.inr ⟨rfl,by lia⟩),Ff⟩
   .lia
  have Y4:(SetTable.insertAt hs (t.put j).2 h).size<=m2:=by rw[s1];rcases L9 with ⟨e,z⟩|⟨e,z⟩|⟨e,z⟩ <;> lia
  obtain⟨owner,eo,L⟩:=xf R2 (SetTable.insertAt hs (t.put j).2 h) Y4;obtain⟨P8,Vh⟩:=Ah L;rw[s1] at P8 Vh;generalize P9:(List.range (m2+1)).filterMap (fun j=>(owner.getD j none).map (j,·))=live at P8 Vh;have er:(t.put j).1.relaid (SetTable.insertAt hs (t.put j).2 h) (SetTable.grown (hs.size+1))=some ({ mask:=m2,place:=(live.map (·.1)).toArray,dummies:=#[],finger:=(t.put j).1.finger,led:=(t.put j).1.led,moves:=(t.put j).1.movedTo m2,plain:=(t.put j).1.plain },(live.map (·.2)).toArray):=by
   unfold SetTable.relaid SetTable.laid;rw[Y3];simp only[Nat.add_sub_cancel];rw[eo];show some _=some _;rw[<-P9]
  rw[er];dsimp only;have Aa:((live.map (·.2)).toArray.filterMap ((SetTable.insertAt hs (t.put j).2 h)[·]?)).size=hs.size+1:=by
   rw[<-fZ,uB];show ((live.map (·.2)).filterMap _).length=_;rw[<-P8,List.filterMap_map];refine nV fun q hq=>?_;show ((SetTable.insertAt hs (t.put j).2 h)[q.2]?).isSome=true;rw[yJ (by rw[s1];exact Vh q hq)];rfl
  have emf:∀x,({ mask:=m2,place:=(live.map (·.1)).toArray,dummies:=#[],finger:=(t.put j).1.finger,led:=(t.put j).1.led,moves:=(t.put j).1.movedTo m2,plain:=(t.put j).1.plain }:SetTable).fits x=(decide (hs.size+1=x)&&decide (hs.size+1<=m2)):=by
   intro x;unfold SetTable.fits SetTable.fill;simp[P8];rw[jK];simp
  rw[av (by
   rw[Aa,s1,emf,Y3];have:hs.size+1<=m2:=by rw[<-s1];exact Y4
   simp[this];rcases L9 with ⟨e,z⟩|⟨e,z⟩|⟨e,z⟩ <;> lia)]
  refine⟨_,_,rfl,⟨rfl,?_,?_⟩,Aa,fun x hx=>?_⟩
  .rw[Aa];simp[P8]
  .rw[Aa];exact .inr L9
  .rw[uB] at hx;obtain⟨k,_,ek⟩:=m7.mp hx;refine me (p:=(t.put j).2) ?_;rw[<-js] at ek;exact dj ek
 .rw[au hf];refine⟨_,_,rfl,⟨q2,by rw[s2,s1],?_⟩,s1,fun x hx=>me hx⟩;have xb:¬ (hs.size+1)*5>=t.mask*3:=by
   intro z;refine hf ?_;unfold SetTable.tooFull;rw[fl,q3];simpa using z
  rw[s1,q3];rcases T.ms with ⟨e,z⟩|⟨e,z⟩|⟨e,z⟩|⟨e,z⟩ <;> lia
theorem oC:∀ (l:List Int) (hs:Array Int) (t:SetTable),xg hs t->(∀x∈l,x∉hs.toList)->l.Nodup->hs.size+l.length<=300->∃hs' t',l.foldlM (fun q h=>fU q.1 q.2 h) (hs,t)=some (hs',t')/\hs'.size=hs.size+l.length
 |[],hs,t,_,_,_,_=>⟨hs,t,rfl,rfl⟩
 |h::l,hs,t,T,hn,nd,hl=>by
  rw[dS] at hl;obtain⟨n1,n2⟩:=fA.mp nd;obtain⟨Df,t1,e1,T1,z1,m1⟩:=Ai T (hn h bp) (by lia);obtain⟨lB,t2,e2,z2⟩:=oC l Df t1 T1 (fun x hx hy=>by
   rcases m1 x hy with e|e
   .exact n1 (e ▸ hx)
   .exact hn x (cW _ hx) e) n2 (by lia)
  refine⟨lB,t2,?_,by rw[z2,z1,dS];lia⟩;rw[List.foldlM_cons];show (fU hs t h).bind _=_;rw[e1];exact e2
theorem Dl(led:Bool)(nd:l.Nodup)(hl:l.length<=300):∃hs t,vy led l=some (hs,t)/\hs.size=l.length:=by
 obtain⟨hs,t,e,z⟩:=oC l #[] (SetTable.fresh 0 0 led) ⟨rfl,rfl,.inl ⟨rfl,by decide⟩⟩ (fun x _ h=>by simp at h) nd (by simpa using hl);exact⟨hs,t,e,by simpa using z⟩
def BK:List Nat->Nat->Bool
 |[],_=>true
 |x::xs,cH=>bif Nat.testBit cH x then false else BK xs (cH ||| (1 <<< x))
theorem xh:∀ (l:List Nat) (cH:Nat),BK l cH=true->l.Nodup/\∀x∈l,cH.testBit x=false
 |[],_,_=>⟨ja,fun x h=>(nomatch h)⟩
 |x::xs,cH,h=>by
  unfold BK at h;cases hb:cH.testBit x with
  |true=>rw[hb] at h;cases h
  |false=>
   rw[hb] at h;obtain⟨nd,hx⟩:=xh xs _ h;have Y5:∀y∈xs,cH.testBit y=false/\y≠x:=by
    intro y hy;have:=hx y hy;rw[Nat.testBit_or,Nat.one_shiftLeft,Nat.testBit_two_pow] at this;rw[Bool.or_eq_false_iff] at this;exact⟨this.1,fun e=>by have:=this.2;simp[e] at this⟩
   refine⟨fA.mpr ⟨fun hm=>(Y5 x hm).2 rfl,nd⟩,fun y hy=>?_⟩;rcases bg.mp hy with z|z
   .rw[z];exact hb
   .exact(Y5 y z).1
def qW:List (Int×Int):=(List.range 32).flatMap fun a=>(List.range 32).map fun b=>(Int.ofNat a,Int.ofNat b)
def Kv(h:Int):Nat:=(h % 6554).toNat
theorem Dm(P:Program)(w:World):BK (qW.map fun y=>Kv (ft P w y)) 0=true:=by kernel_rfl
theorem BL(h1:0<=y.1/\y.1<32)(h2:0<=y.2/\y.2<32):y∈qW:=by
 unfold qW;refine zq.mpr ⟨y.1.toNat,bP.mpr (by lia),bh.mpr ⟨y.2.toNat,bP.mpr (by lia),g9 ?_ ?_⟩⟩
 .show ((y.1.toNat:Nat):Int)=y.1;lia
 .show ((y.2.toNat:Nat):Int)=y.2;lia
theorem kU:∀ {l:List α},(l.map f).Nodup->∀x∈l,∀y∈l,f x=f y->x=y
 |[],_,_,h,_,_,_=>by cases h
 |a::l,h,x,hx,y,hy,e=>by
  rw[ff] at h;obtain⟨h1,h2⟩:=fA.mp h;rcases bg.mp hx with z|z <;> rcases bg.mp hy with z'|z'
  .rw[z,z']
  .exact absurd (bh.mpr ⟨y,z',by rw[<-e,z]⟩) h1
  .exact absurd (bh.mpr ⟨x,z,by rw[e,z']⟩) h1
  .exact kU h2 x z y z' e
theorem vA(hx:(0<=x.1/\x.1<32)/\(0<=x.2/\x.2<32))(hy:(0<=y.1/\y.1<32)/\(0<=y.2/\y.2<32))(e:ft P w x=ft P w y):x=y:=
 kU (xh _ _ (Dm P w)).1 x (BL hx.1 hx.2) y (BL hy.1 hy.2) (congrArg Kv e)
theorem nW:∀ {l:List α},l.Nodup->(∀x∈l,∀y∈l,f x=f y->x=y)->(l.map f).Nodup
 |[],_,_=>ja
 |a::l,h,hf=>by
  obtain⟨h1,h2⟩:=fA.mp h;rw[ff];refine fA.mpr ⟨fun z=>?_,nW h2 fun x hx y hy=>hf x (cW _ hx) y (cW _ hy)⟩;obtain⟨y,hy,e⟩:=bh.mp z;have:=hf y (cW _ hy) a bp e;exact h1 (this ▸ hy)
theorem xi{P:Program}{w:World}(led:Bool){ys:List (Int×Int)}(nd:ys.Nodup)(hr:∀y∈ys,(0<=y.1/\y.1<32)/\(0<=y.2/\y.2<32))(hl:ys.length<=300):
  ∃hs t,vy led (ys.map (ft P w))=some (hs,t)/\hs.size=ys.length:=by
 obtain⟨hs,t,e,z⟩:=Dl led (nW nd fun x hx y hy e=>vA (P:=P) (w:=w) (hr x hx) (hr y hy) e) (by rw[aW];exact hl);exact⟨hs,t,e,by rw[z,aW]⟩
theorem vB:∀ {as:List Addr} {its:List Value},aT (as.map V.ref) its->its=as.map Value.ref
 |[],_,r=>by cases r;rfl
 |a::as,_,r=>by
  cases r with
  |cons r rr=>
   obtain rfl:=(show _=Value.ref a from r)
   rw[vB rr];rfl
def Ii(D:Addr)(n:Nat):HO:=.ext fun h=>∃hs t,jY h D hs t/\hs.size=n
section
variable {X:Cx}
def P_(K:PySem.W.Frag):List V->Hp->VK->Prop:=fun xs H Q=>∃ (l:Addr) (as:List Addr) (ys:List (Int×Int)),xs=[.ref l]/\aZ K H l (as.map V.ref)/\as.length=ys.length/\
 (∀i,i<ys.length->E9 K H (as.getD i 0) (ys.getD i (0,0)))/\ys.Nodup/\(∀y∈ys,(0<=y.1/\y.1<32)/\(0<=y.2/\y.2<32))/\ys.length<=300/\∀D,H D=none->Q (.ref D) (upd H D (Ii D ys.length))
theorem Dn(hc:X.calm=true)(hu:X.A.units+8<cLine):eK X (.type "set") (P_ X.K):=by
 intro ae s σ H xs us Q I r h;obtain⟨l,as,ys,rfl,hl,fm,hp,nd,rg,h3,q⟩:=h;obtain⟨u1,rfl,r1⟩:=r.one;obtain rfl:u1=Value.ref l:=r1;obtain⟨its,rv,pl,hz⟩:=I.list hl;have e:=vB rv;subst e;have hpi:jk s.heap (as.map Value.ref) ys:=⟨by rw[aW,fm],fun i v hv=>by
  rw[bV] at hv;cases ea:as[i]? with
  |none=>rw[ea] at hv;cases hv
  |some a=>
   rw[ea] at hv;obtain rfl:Value.ref a=v:=bN hv;have hi:i<as.length:=(cJ.mp ea).1;obtain⟨o,n,t,u,e1,c,d⟩:=z9 I (hp i (by lia));have eg:as.getD i 0=a:=by rw[b_,ea];rfl
   rw[eg] at e1;exact⟨a,o,n,t,u,rfl,e1,c,d⟩⟩
 have Di:∀led,∃q:Array Int×SetTable,vy led (ys.map (ft X.prog X.w))=some q/\q.1.size=ys.length:=fun led=>
  let ⟨hs,t,e,z⟩:=xi (P:=X.prog) (w:=X.w) led nd rg h3;⟨(hs,t),e,z⟩
 refine Fb (I.ok.hd hc) hu pl.isList hpi (hsN:=fun led=>(Di led).choose.1) (tN:=fun led=>(Di led).choose.2) (fun led=>(Di led).choose_spec.1) fun led h' tk S' k=>?_;refine⟨.ref s.heap.objs.size,_,I.BB (t':=tk) (o:=Ii s.heap.objs.size ys.length) (fun b u e=>k b u (aS e) e) (qh (aN _)) ⟨⟨_,_,S',(Di led).choose_spec.2⟩,?_,fun h1 h2 ⟨hs,t,⟨o,es,ep,q1,q2⟩,z⟩ kk=>⟨hs,t,⟨o,es,ep,kk o q1,q2⟩,z⟩⟩,rfl,q _ I.fresh⟩;obtain⟨o,_,_,q1,_⟩:=S';exact⟨o,q1⟩
theorem xj:eK X (.builtin "len") (fun xs H Q=>∃D n,xs=[.ref D]/\H D=some (Ii D n)/\n<=4096/\Q (.int n) H):=by
 intro ae s σ H xs us Q I r h;obtain⟨D,n,rfl,e,hn,q⟩:=h;obtain⟨u1,rfl,r1⟩:=r.one;obtain rfl:u1=Value.ref D:=r1;obtain⟨⟨hs,t,⟨o,es,ep,q1,q2,q3,q4,q5,q6⟩,z⟩,_⟩:=(show cC X.prog X.w H s.heap D (Ii D n) from I.bZ D _ e)
 have gJ:es.size=n:=by rw[<-z,<-q5,jE]
 exact call_len_set q1 ⟨q2,q3.1,q3.2⟩ q4 q6 (by rw[gJ];lia) ⟨.int n,H,I.tok _,⟨_,by rw[gJ]⟩,q⟩
theorem jZ:eK X (.type "range") (fun xs H Q=>∃n,xs=[.int n]/\∀p,H p=none->Q (.ref p) (upd H p (.Bk 0 n))):=by
 intro ae s σ H xs us Q I r h;obtain⟨n,rfl,q⟩:=h;obtain⟨u1,rfl,t,rfl⟩:=r.one;refine call_range_1 ⟨.ref s.heap.objs.size,_,I.laid (o:=.Bk 0 n) (fun b u e=>cB _ e) (aN _) ⟨_,_,_,cX _ rfl⟩,rfl,q _ I.fresh⟩
theorem lG(hc:X.calm=true):eK X (.type "list") (fun xs H Q=>∃ (p:Addr) (n:Nat),xs=[.ref p]/\H p=some (.Bk 0 n)/\n<=1000/\∀l,H l=none->Q (.ref l) (upd H l (.lst ((List.range n).map fun (i:Nat)=>V.int i)))):=by
 intro ae s σ H xs us Q I r h;obtain⟨p,n,rfl,e,hn,q⟩:=h;obtain⟨u1,rfl,r1⟩:=r.one;obtain rfl:u1=Value.ref p:=r1;obtain⟨t,u,v,hp⟩:=(show cC X.prog X.w H s.heap p (.Bk 0 n) from I.bZ p _ e)
 refine call_list_range (n:=n) (I.ok.hd hc) (show IsRange s.heap p 0 n 1 t u v from hp) (small_one (by lia) (by lia) (by lia) (by lia)) (by rw[rangeSize_one];split <;> lia) (by lia) fun h' tk cH c k g it=>?_;obtain⟨i1,i2⟩:=it;refine⟨.ref s.heap.objs.size,_,I.BB (t':=tk) (o:=.lst ((List.range n).map fun (i:Nat)=>V.int i)) (fun b u e=>k b u e) (qh (aN _)) ⟨?_,cH.toList,c,?_,by simpa using g⟩,rfl,q _ I.fresh⟩
 .rw[aW,cK];exact a8 hn (by decide)
 .have go:∀ (m:Nat) (l:List Value),l.length=m->(∀ (j:Nat) v,l[j]?=some v->∃t,v=Value.int (0+(j:Int)*1) t)->aT ((List.range m).map fun (i:Nat)=>V.int i) l:=by
   intro m;induction m with
   |zero=>intro l hl _;cases l with
    |nil=>exact .nil
    |cons _ _=>cases hl
   |succ m ih=>
    intro l hl hv;have lF:l≠[]:=by intro z;rw[z] at hl;cases hl
    have el:l=l.dropLast++[l.getLast lF]:=(List.dropLast_concat_getLast lF).symm;rw[i_,cY,el];have Tq:l.dropLast.length=m:=by rw[List.length_dropLast,hl];rfl
    refine aT.append (ih _ Tq fun j v hj=>hv j v ?_) (.cons ?_ .nil)
    .rw[el];have Qa:j<l.dropLast.length:=(cJ.mp hj).1;rw[gW Qa];exact hj
    .obtain⟨t,ht⟩:=hv m (l.getLast lF) (by
      rw[List.getLast_eq_getElem,bH (by lia:m<l.length)];simp[hl])
     exact⟨t,by rw[ht];simp⟩
  exact go n cH.toList (by simpa using i1) fun j v hj=>i2 j v (by simpa using hj)
end
def oG(e:V->V->Bool):List V->List V->Bool
 |[],[]=>true
 |x::xs,y::ys=>e x y&&oG e xs ys
 |_,_=>false
theorem oH:∀ {xs ys:List V},xs.length=ys.length->oG e xs ys=(List.range xs.length).all fun i=>e (xs.getD i .cS) (ys.getD i .cS)
 |[],[],_=>rfl
 |x::xs,y::ys,h=>by
  have h':xs.length=ys.length:=by simpa using h
  rw[oG,oH h',dS,mU,jM,List.all_map];rfl
 |[],_::_,h=>by simp at h
 |_::_,[],h=>by simp at h
section
variable {X:Cx}
theorem tZ(hc:X.calm=true):eK X (.builtin "any") (fun xs H Q=>∃ (p:Addr) (bs:List Bool),xs=[.ref p]/\aZ X.K H p (bs.map V.bl)/\Q (.bl (bs.any id)) H):=by
 intro ae s σ H xs us Q I r h;obtain⟨p,bs,rfl,hp,q⟩:=h;obtain⟨u1,rfl,r1⟩:=r.one;obtain rfl:u1=Value.ref p:=r1;obtain⟨its,rv,pl,hz⟩:=I.list hp;have Aj:its=bs.map Value.bool:=by
  have go:∀ (bs:List Bool) (its:List Value),aT (bs.map V.bl) its->its=bs.map Value.bool:=by
   intro bs;induction bs with
   |nil=>intro its r;cases r;rfl
   |cons b bs ih=>
    intro its r;cases r with
    |cons r rr=>
     obtain rfl:=(show _=Value.bool b from r)
     rw[ih _ rr];rfl
  exact go bs its rv
 subst Aj;obtain⟨ob,Vi,_⟩:=id pl.isList;have dG:p<s.heap.objs.size:=aS Vi;refine call_any_walk (qp pl.isList ⟨s.heap.objs.size,_,_,_,_,_,fun i=>bs.getD i false,rfl,Walks.list (show X.A.in1.handled=none from I.ok.hd hc) _ p (aQ dG) _,⟨⟨_,cX _ rfl,rfl,rfl⟩,pl.isList.push _⟩,fun i v s1 Q' E' hv hq=>?_,fun h' tk k=>?_⟩)
 .have CZ:(bs.map Value.bool)[i]?=some v:=by simpa using hv
  rw[bV] at CZ;cases eb:bs[i]? with
  |none=>rw[eb] at CZ;cases CZ
  |some b=>
   rw[eb] at CZ;obtain rfl:Value.bool b=v:=bN CZ;have:bs.getD i false=b:=by rw[b_,eb];rfl
   have ER:Q' b s1:=by rw[<-this];exact hq
   exact wpAny_pure ER
 .have keep:∀b o,s.heap.get? b=some o->h'.get? b=some o:=fun b o e=>k b o (by simpa using aQ (aS e)) (cB _ e);refine⟨.bl (bs.any id),H,I.kept (t':=tk) keep,?_,q⟩;show Value.bool _=Value.bool _;congr 1;have go:∀ (bs:List Bool),((List.range bs.length).any fun i=>bs.getD i false)=bs.any id:=by
   intro bs;induction bs with
   |nil=>rfl
   |cons b bs ih=>
    rw[dS,mU,nw,List.any_map,nw,<-ih];rfl
  rw[<-go bs];simp
end
def mf(c:Addr)(qual:Str):HO:=.ext fun h=>h.CodeRec (.ref c) qual
theorem Fj(x:h.CodeRec (.ref c) qual):cC P w H h c (mf c qual):=by
 refine⟨x,?_,?_⟩
 .obtain⟨c',o,vs,t,e,ho,_⟩:=x;cases e;exact⟨o,ho⟩
 .rintro h1 h2 ⟨c',o,vs,t,e,ho,r⟩ k;cases e;exact⟨c,o,vs,t,rfl,k o ho,r⟩
def Kw(f:Addr)(qual:Str)(params:Arguments)(body:Expr)(scope:Scope)(cells:List (Str×Addr))(c:Addr)(h:Heap):Prop:=
 ∃ (cD:List (Str×Addr)) (pm xk:Value),(∀x a,cD.lookup x=some a->cells.lookup x=some a)/\(∀x,(x,NameKind.free)∈scope.names->∃a,cD.lookup x=some a)/\
  h.get? f=some (PySem.W.kla_obj "<lambda>" qual params body scope cD pm c xk)
def sJ(f:Addr)(qual:Str)(params:Arguments)(body:Expr)(scope:Scope)(cells:List (Str×Addr))(c:Addr):HO:=.ext (Kw f qual params body scope cells c)
theorem BM(x:Kw f qual params body scope cells c h):
  cC P w H h f (sJ f qual params body scope cells c):=by
 refine⟨x,?_,?_⟩
 .obtain⟨_,_,_,_,_,e⟩:=x;exact⟨_,e⟩
 .rintro h1 h2 ⟨cD,pm,xk,a,b,e⟩ k;exact⟨cD,pm,xk,a,b,k _ e⟩
def cM(lp:Pos)(qual:Str)(P:Addr)(H:Hp):Prop:=H P=some (.ik #[])\/∃c,H P=some (.ik #[rawInt lp.line,rawInt lp.col,.ref c])/\H c=some (mf c qual)
structure Ij(X:Cx)(c P:Addr):Prop where
 code:X.env.code=.ref c
 hd:PySem.W.CodeHd X.base c P
 bm:∃bm o,X.mg "__builtins__"=some (.ref bm)/\bm≠builtinsNs/\bm≠mainGlobals/\X.base.get? bm=some o/\o.cls=.type "module"/\o.dict=some builtinsNs/\o.data=.plain
def Vj(lp:Pos)(qual:Str)(P:Addr)(params:Arguments)(body:Expr)(scope:Scope)(cells:List (Str×Addr)):TE:=fun _ H Q=>cM lp qual P H/\
 ∀ (f c:Addr) (H2:Hp),cM lp qual P H2->(∀b o,H b=some o->b≠P->H2 b=some o)->H2 c=some (mf c qual)->H2 f=some (sJ f qual params body scope cells c)->Q (.ref f) H2
theorem xm{lp:Pos}{c:Addr}:TriplesOk (#[rawInt lp.line,rawInt lp.col,.ref c]:Array Value).toList:=trivial
theorem Do:codeAmong lp (#[rawInt lp.line,rawInt lp.col,.ref c]:Array Value).toList=some (.ref c):=by
 show (if ((lp.line:Int)==(lp.line:Int)&&(lp.col:Int)==(lp.col:Int))=true then some (Value.ref c) else _)=_;simp
section
variable {X:Cx} {c P:Addr} {params:Arguments} {body:Expr} {scope:Scope} {lp:Pos} {NB:List Str} {src:List (Option Nat)}
theorem Ij.at(C:Ij X c P)(I:aO X ae σ H s)(hP:H P=some (.ik ps)):s.heap.BuiltinsAt X.mg P:=by
 obtain⟨bm,o,b1,b2,b3,b4,b5,b6,b7⟩:=C.bm;refine⟨bm,o,b1,b2,b3,fun z=>?_,I.bk _ _ b4,b5,b6,b7⟩;have:=(I.bs _ _ b4).2;rw[z,hP] at this;cases this
theorem aO.Kx(I:aO X ae σ H s):s.heap.Ns mainGlobals X.mg:=I.mod.glob.keeps I.bk
theorem qX(C:Ij X c P)(S:ge NB src scope X)(Vk:defaultsOf params X.env=([],[]):=by rfl):PE X (.Lambda params body scope lp) (Vj lp (X.env.qual++"<lambda>") P params body scope X.env.cells):=by
 intro ae s σ H Q I h;obtain⟨tab,h⟩:=h;obtain⟨cD,Y6,c1,c2⟩:=lE I.ok S;refine PySem.W.kla_eval Vk ?_;have gJ:∀b o,s.heap.get? b=some o->b<s.heap.objs.size:=fun b o e=>aS e;rcases tab with hP|⟨c',hP,wF⟩
 .-- the first time
  have Qb:s.heap.get? P=some (PySem.W.tabObj #[]):=I.bZ P _ hP;have hPL:X.env.locals≠P:=fun z=>by have f:=I.free;rw[z,hP] at f;cases f
  have hPg:mainGlobals≠P:=fun z=>by
   obtain⟨o,es,ep,e,d,_⟩:=I.mod.glob;have:=(I.bs _ _ e).2;rw[z,hP] at this;cases this
  refine PySem.W.kla_makeFunction (mg:=X.mg) Y6 I.ok.glob I.Kx C.code (C.hd.keeps I.bk) Qb (by trivial) rfl hPg (C.at I hP) fun c' xk h' tk hx Ik dG Vl Tt=>?_;have Il:∀b o,b≠P->s.heap.get? b=some o->(h'.push (PySem.W.kla_obj "<lambda>" (X.env.qual++"<lambda>") params body scope cD ((X.mg "__name__").getD .none) c' xk)).get? b=some o:=fun b o hb e=>cB _ (hx b o hb e);have hcP:c'≠P:=fG (bn (gJ _ _ Qb) Ik);have hfP:h'.objs.size≠P:=fG (bn (gJ _ _ Qb) (a8 Ik (jN dG)));have hfc:h'.objs.size≠c':=fG dG;have nf:H h'.objs.size=none:=I.bZ.fresh (by lia);have nc:H c'=none:=I.bZ.fresh Ik
  let H2:Hp:=upd (upd (upd H P (.ik #[rawInt lp.line,rawInt lp.col,.ref c'])) c' (mf c' (X.env.qual++"<lambda>"))) h'.objs.size (sJ h'.objs.size (X.env.qual++"<lambda>") params body scope X.env.cells c')
  have eP:H2 P=some (.ik #[rawInt lp.line,rawInt lp.col,.ref c']):=by
   show upd _ _ _ _=_;rw[am hfP.symm,am hcP.symm,af]
  have ec:H2 c'=some (mf c' (X.env.qual++"<lambda>")):=by
   show upd _ _ _ _=_;rw[am hfc.symm,af]
  have ef:H2 h'.objs.size=some (sJ h'.objs.size (X.env.qual++"<lambda>") params body scope X.env.cells c'):=af;have eo:∀b,b≠P->b≠c'->b≠h'.objs.size->H2 b=H b:=fun b h1 h2 h3=>by
   show upd _ _ _ _=_;rw[am h3,am h2,am h1]
  have eZ:∀b o,H b=some o->b≠P->H2 b=some o:=fun b o e hb=>by
   rw[eo b hb (ak e nc) (ak e nf)];exact e
  have I2:aO X ae σ H2 { s with heap:=h'.push (PySem.W.kla_obj "<lambda>" (X.env.qual++"<lambda>") params body scope cD ((X.mg "__name__").getD .none) c' xk),toks:=tk }:=by
   refine I.step (g':=s.gens) (d':=s.drawn) (ch:=[]) (fun _ z=>absurd z (by simp)) (fun b o _ _ _ e n=>Il b o (fun z=>by rw[z,hP] at n;cases n) e) (fun b o _ _ _ e n=>⟨o.slots,Il b o (fun z=>by rw[z,hP] at n;cases n) e⟩)
    (fun b o _ e n=>?_) (fun b o _ e=>?_) (fun b xs e=>eZ b _ e fun z=>by rw[z,hP] at e;cases e) (fun b o u e=>eZ b _ e fun z=>by rw[z,hP] at e;cases e) (fun b ps e=>?_) (fun m hm=>?_) (fun b o e=>?_) I.bare
   .rw[eo b (fun z=>by rw[z,hP] at n;cases n) (aQ (bn (gJ b o e) Ik)) (aQ (bn (gJ b o e) (a8 Ik (jN dG))))];exact n
   .by_cases hb:b=P
    .exact⟨_,by rw[hb];exact cB _ Tt⟩
    .exact⟨o,Il b o hb e⟩
   .by_cases hb:b=P
    .rw[hb] at e |-;rw[hP] at e;cases e;exact⟨#[rawInt lp.line,rawInt lp.col,.ref c'],by rw[eP];simp⟩
    .exact⟨#[],by rw[eZ b _ e hb];simp⟩
   .exact(hm.extBut hx hPL).push _
   .by_cases Y7:b=h'.objs.size
    .subst Y7;rw[ef] at e;cases e;exact BM ⟨cD,_,xk,c1,c2,cX _ rfl⟩
    .by_cases U6:b=c'
     .subst U6;rw[ec] at e;cases e;refine Fj ?_;obtain⟨c₂,oc,vs,t,e2,Tf,r⟩:=Vl;exact⟨c₂,oc,vs,t,e2,cB _ Tf,r⟩
     .by_cases Vm:b=P
      .subst Vm;rw[eP] at e;cases e;exact cB _ Tt
      .rw[eo b Vm U6 Y7] at e;refine(I.bZ b o e).jd (fun d u hd q=>Il d u ?_ q) (fun d q=>eZ d _ q fun z=>by rw[z,hP] at q;cases q) fun d xs q=>eZ d _ q fun z=>by rw[z,hP] at q;cases q
       rintro rfl;rcases hd with z|z
       .exact Vm z.symm
       .rw[hP] at z;cases z
  exact⟨.ref h'.objs.size,H2,I2,rfl,h _ c' H2 (.inr ⟨c',eP,ec⟩) eZ ec ef⟩
 .-- again
  have Qb:s.heap.get? P=some (PySem.W.tabObj #[rawInt lp.line,rawInt lp.col,.ref c']):=I.bZ P _ hP;refine PySem.W.kla_makeFunctionHit (mg:=X.mg) Y6 I.ok.glob I.Kx C.code (C.hd.keeps I.bk) Qb xm Do (C.at I hP) fun xk h' tk hk Ik=>?_;have nf:H h'.objs.size=none:=I.bZ.fresh Ik
  let H2:Hp:=upd H h'.objs.size (sJ h'.objs.size (X.env.qual++"<lambda>") params body scope X.env.cells c')
  have ef:H2 h'.objs.size=some (sJ h'.objs.size (X.env.qual++"<lambda>") params body scope X.env.cells c'):=af;have eZ:∀b o,H b=some o->H2 b=some o:=fun b o e=>by
   show upd _ _ _ _=_;rw[am (ak e nf)];exact e
  have Il:∀b o,s.heap.get? b=some o->(h'.push (PySem.W.kla_obj "<lambda>" (X.env.qual++"<lambda>") params body scope cD ((X.mg "__name__").getD .none) c' xk)).get? b=some o:=fun b o e=>cB _ (hk b o e);have I2:aO X ae σ H2 { s with heap:=h'.push (PySem.W.kla_obj "<lambda>" (X.env.qual++"<lambda>") params body scope cD ((X.mg "__name__").getD .none) c' xk),toks:=tk }:=by
   refine I.step (g':=s.gens) (d':=s.drawn) (ch:=[]) (fun _ z=>absurd z (by simp)) (fun b o _ _ _ e n=>Il b o e) (fun b o _ _ _ e n=>⟨o.slots,Il b o e⟩)
    (fun b o _ e n=>?_) (fun b o _ e=>⟨o,Il b o e⟩) (fun b xs e=>eZ b _ e) (fun b o u e=>eZ b _ e) (fun b ps e=>⟨#[],by rw[eZ b _ e];simp⟩) (fun m hm=>(hm.keeps hk).push _) (I.bZ.laid Il Ik (BM ⟨cD,_,xk,c1,c2,cX _ rfl⟩)) I.bare
   .show upd _ _ _ _=_;rw[am (aQ (bn (gJ b o e) Ik))];exact n
  exact⟨.ref h'.objs.size,H2,I2,rfl,h _ c' H2 (.inr ⟨c',eZ _ _ hP,eZ _ _ wF⟩) (fun b o e _=>eZ b o e) (eZ _ _ wF) ef⟩
end
def Al(X:Cx)(id:String)(ks:List Str)(r:St->List V->List V->Hp->VK->Prop):Prop:=
 ∀ (ae:List (Addr×Obj)) (s:Shared) (σ:St) (H:Hp) (vs zs:List V) (us ws:List Value) (Q:VK),aO X ae σ H s->aT vs us->aT zs ws->r σ vs zs H Q->
  wpAny (model X.prog X.w) X.A (call (.builtin id) us (ks.zip ws)) (EP X ae σ Q) X.xe s
def Vn(r:St->List V->List V->Hp->VK->Prop)(t tk:TA):TE:=fun σ H Q=>t σ H fun vs H1=>tk σ H1 fun zs H2=>r σ vs zs H2 Q
section
variable {X:Cx} {x:Str} {p pos:Pos} {e:Expr} {es:List Expr} {ES:List Keyword} {t tk:TA} {id:String} {ks:List Str} {r:St->List V->List V->Hp->VK->Prop}
theorem iU(hc:Al X id ks r)(hg:Gl X x)(hm:X.mg x=none)(hv:bootBuiltins x=some (.builtin id))(ha:PA X (e::es) t)(hkw:PK X ES tk)(hn:x≠"__name__":=by decide)(C2:(x==("__debug__":Str))=false:=by decide)(hks:(backToKw pos (keywordEach ES X.env)).filterMap (·.1)=ks:=by rfl)(he:backTo pos (starEach (e::es) X.env)=(false,eval e X.env)::backTo pos (starEach es X.env):=by rfl)(zX:(backTo pos (starEach (e::es) X.env)).any (·.1)=false:=by rfl)(sG:(backToKw pos (keywordEach ES X.env)).all (·.1.isSome)=true:=by rfl)(L7:(backToKw pos (keywordEach ES X.env)).any (·.1.isNone)=false:=by rfl):PE X (.Call (.Name x p) (e::es) ES pos) (Vn r t tk):=by
 intro ae s σ H Q I h;refine lc (iE I hg hm hv ?_ hn C2);refine PyProof.Rows.callWith_kw (dq (ha pos ae s σ H _ I h) fun us s1 ⟨vs,H1,I1,r1,q1⟩=>?_) he zX sG L7;refine dq (hkw pos ae s1 σ H1 _ I1 q1) fun ws s2 ⟨zs,H2,I2,rz,q2⟩=>?_;rw[hks];exact hc ae s2 σ H2 vs zs us ws Q I2 r1 rz q2
end
def L_(za zb:Int)(ns out:List Int):Prop:=∃ps:List (Int×Int),ps.Perm (ns.map fun z=>((z-za) % zb,z))/\out=ps.map (·.2)/\ps.Pairwise fun p q=>p.1<=q.1
def Ma(X:Cx)(qual:Str)(params:Arguments)(body:Expr)(scope:Scope)(ia ib:Nat):St->List V->List V->Hp->VK->Prop:=fun σ vs zs H Q=>
 ∃ (l f c:Addr) (ns:List Int) (za zb:Int),vs=[.ref l]/\zs=[.ref f]/\aZ X.K H l (ns.map V.int)/\ns.length<64/\H f=some (sJ f qual params body scope X.env.cells c)/\H c=some (mf c qual)/\
  σ[ia]?=some (some (.int za))/\σ[ib]?=some (some (.int zb))/\0<zb/\∀ (r:Addr) (out:List Int),H r=none->L_ za zb ns out->Q (.ref r) (upd H r (.lst (out.map V.int)))
theorem t7:∀ {ns:List Int} {vs:List Value},aT (ns.map V.int) vs->IntsAre vs ns
 |[],_,.nil=>.nil
 |_::_,_,.cons ⟨t,e⟩ r=>by subst e;exact .cons _ t (t7 r)
structure Qd(X:Cx)(qual:Str)(params:Arguments)(body:Expr)(scope:Scope)(y a b:Str)(ia ib:Nat):Prop where
 bd:∃p1 p2 p3 p4 p5,body=.BinOp (.BinOp (.Name y p1) .Sub (.Name a p2) p3) .Mod (.Name b p4) p5
 bind:∀cD pm c xk v,bindArgs (PySem.W.kla_fn "<lambda>" qual params body scope cD pm (.ref c) xk) ⟨[v],[]⟩=pure [(y,v)]
 na:X.N[ia]?=some a
 nb:X.N[ib]?=some b
 ca:X.env.scope.names.lookup a=some .cell
 cb:X.env.scope.names.lookup b=some .cell
 ly:scope.names.lookup y=some .local
 fa:scope.names.lookup a=some .free
 fb:scope.names.lookup b=some .free
 ma:(a,NameKind.free)∈scope.names
 mb:(b,NameKind.free)∈scope.names
 vC:∀z∈scope.names,z.2≠.cell
 kind:scope.kind=.function
 co:scope.isCoroutine=false
 gen:scope.isGenerator=false
 dy:(y==("__debug__":Str))=false
 da:(a==("__debug__":Str))=false/\(a==("__classdict__":Str))=false
 db:(b==("__debug__":Str))=false/\(b==("__classdict__":Str))=false
theorem Am(S:Qd X qual params body scope y a b ia ib)(hr:cj k X.A):
  Al X "sorted" ["key"] (Ma X qual params body scope ia ib):=by
 intro ae s σ H vs zs us ws Q I r rz h;obtain⟨l,f,c,ns,za,zb,rfl,rfl,hl,Hu,hf,hc,sa,sb,hb0,q⟩:=h;obtain⟨u1,rfl,r1⟩:=r.one;obtain rfl:u1=Value.ref l:=r1;obtain⟨w1,rfl,Vo⟩:=rz.one;obtain rfl:w1=Value.ref f:=Vo;obtain⟨its,rv,pl,hz⟩:=I.list hl;have hI:=t7 rv;obtain⟨m,F⟩:=I.fr;obtain⟨p1,p2,p3,p4,p5,rfl⟩:=S.bd;obtain⟨cD,pm,xk,c1,c2,LU⟩:=(I.bZ f _ hf).1;have Vp:s.heap.CodeRec (.ref c) qual:=(I.bZ c _ hc).1;obtain⟨m',O2,Y8⟩:=I.loc;have Qe:∃ca ta,cD.lookup a=some ca/\s.heap.IsCell ca (some (.int za ta)):=by
  obtain⟨u,⟨ta,rfl⟩,lk⟩:=Y8 ia a (.int za) S.na sa (.inr (.inl S.ca));obtain⟨ca,e1⟩:=c2 a S.ma;rcases lk with ⟨z,_⟩|⟨_,ca',e2,e3⟩
  .have z':X.env.scope.names.lookup a=some .local:=z;rw[S.ca] at z';cases z'
  .have e4:=c1 a ca e1;rw[e2] at e4;cases e4;exact⟨ca,ta,e1,e3⟩
 have Qf:∃cb tb,cD.lookup b=some cb/\s.heap.IsCell cb (some (.int zb tb)):=by
  obtain⟨u,⟨tb,rfl⟩,lk⟩:=Y8 ib b (.int zb) S.nb sb (.inr (.inl S.cb));obtain⟨cb,e1⟩:=c2 b S.mb;rcases lk with ⟨z,_⟩|⟨_,cb',e2,e3⟩
  .have z':X.env.scope.names.lookup b=some .local:=z;rw[S.cb] at z';cases z'
  .have e4:=c1 b cb e1;rw[e2] at e4;cases e4;exact⟨cb,tb,e1,e3⟩
 obtain⟨ca,ta,ea,ha⟩:=Qe;obtain⟨cb,tb,eb,hb⟩:=Qf;have Tu:∀b' (o:Obj),s.heap.get? b'=some o->(∀es ep,o.data≠.dict es ep)->b'≠X.env.locals:=fun b' o e d z=>by
  obtain⟨o',es,ep,e',d',_⟩:=F.ns;rw[z,e'] at e;cases e;exact d _ _ d'
 have len:(ns.map fun z=>(z-za) % zb).length=its.length:=by rw[aW,hI.length]
 refine ksk_sorted (b:=false) (f:=.ref f) (kz:=ns.map fun z=>(z-za) % zb) F Ey pl.isList len (by rw[hI.length];exact Hu) (ksk_s1 _ _) (fun x=>ksk_l1 _ _) (fun x=>ksk_t1 _ _) ?_ ?_
 .-- one key
  intro i v k hv hk h tk own F' N';have at_:∀b' u,b'≠X.env.locals->s.heap.get? b'=some u->h.get? b'=some u:=fun b' u lF e=>by
   cases z:X.base.get? b' with
   |some o=>
    have:=I.bk b' o z;rw[e] at this;cases this;exact F'.keep b' _ z
   |none=>exact(N' (b',u) (fY _ (jQ lF z e))).1
  have Vq:=at_ f _ (Tu f _ LU (by intro es ep z;cases z)) LU;have Vr:h.CodeRec (.ref c) qual:=by
   obtain⟨c0,o,vs0,t0,e0,ho,hd,hv0⟩:=Vp;refine⟨c0,o,vs0,t0,e0,at_ _ _ (Tu _ _ ho (by rw[hd];intro es ep z;cases z)) ho,hd,hv0⟩
  have LR:h.IsCell ca (some (.int za ta)):=by
   obtain⟨o,ho,hd⟩:=ha;exact⟨o,at_ _ _ (Tu _ _ ho (by rw[hd];intro es ep z;cases z)) ho,hd⟩
  have sM:h.IsCell cb (some (.int zb tb)):=by
   obtain⟨o,ho,hd⟩:=hb;exact⟨o,at_ _ _ (Tu _ _ ho (by rw[hd];intro es ep z;cases z)) ho,hd⟩
  obtain⟨z,tz,rfl,rfl⟩:∃z tz,v=.int z tz/\k=(z-za) % zb:=by
   obtain⟨n,t,e⟩:=hI.all v (dj hv);refine⟨n,t,e,?_⟩;rw[bV] at hk;have hn:=hI.nums;have e1:(its.map numOf)[i]?=some n:=by rw[bV,hv,e];rfl
   rw[hn] at e1;rw[e1] at hk;exact(bN hk).symm
  have Fk:X.A.in1.in1.depth<recursionLimit:=by
   have:=hr.dp;show X.A.depth<_;lia
  refine nC (PySem.W.kla_callFunE Fk Vq rfl S.co S.gen rfl Vr ?_);rw[S.bind];refine wpAny_pure (wpAny_newFunctionEnv S.vC (fun x hx=>by rw[bL.mp hx];exact S.ly) (fun h₁ xn Qg=>⟨((I.ok.mod.nolimit).keeps F'.keep).fresh _ Qg,?_⟩) S.kind);have Mb:∀b o,h.get? b=some o->h₁.get? b=some o:=fun b o e=>Qg.extBut b o (aQ (aS e)) (cB _ e);have ha₁:=LR.keeps Mb;have hb₁:=sM.keeps Mb;refine PySem.W.kla_codeExpr ?_;refine wpAny_BinOp (wpAny_BinOp ?_);refine nE (zg S.kind S.ly xn (v:=.int z tz) (by simp) ?_) S.dy;refine nE (zm S.kind S.fa ea ha₁ ?_ S.da.2) S.da.1;refine sub_int ?_;refine nE (zm S.kind S.fb eb hb₁ ?_ S.db.2) S.db.1;refine mod_int' (by lia) ?_;rw[yF _ (by lia)];refine KskEnd.intro (news':=je X.base s.heap X.env.locals++own) ⟨F'.ns.keeps Mb,fun b o e=>Mb b o (F'.keep b o e),F'.above⟩ (fun p hp=>⟨Mb _ _ (N' p hp).1,(N' p hp).2⟩) fun p hp=>hp
 .-- the list
  intro D h' tk out cc F' N' dG Vs;have hD:=sI I N' dG;obtain⟨ps,hp,ho,hs⟩:=Vs;have z7:∀p∈ps,∃n t,p.2=.int n t:=fun p Kp=>by
   have:=hp.mem_iff.mp Kp;exact hI.all _ (qt this).2
  have Vt:((ns.map fun z=>(z-za) % zb).zip its).map (fun p=>(p.1,numOf p.2))=ns.map fun z=>((z-za) % zb,z):=by
   have hn:=hI.nums;rw[<-hn];have go:∀ (l:List Value),((((l.map numOf).map fun z=>(z-za) % zb).zip l).map fun p=>(p.1,numOf p.2))=(l.map numOf).map fun z=>((z-za) % zb,z):=by
    intro l;induction l with
    |nil=>rfl
    |cons x l ih=>simp only[ff,List.zip_cons_cons,ih]
   exact go its
  have E3:aT ((ps.map fun p=>(p.1,numOf p.2)).map (fun p=>V.int p.2)) (ps.map Prod.snd):=by
   have go:∀ (l:List (Int×Value)),(∀p∈l,∃n t,p.2=.int n t)->aT ((l.map fun p=>(p.1,numOf p.2)).map (fun p=>V.int p.2)) (l.map Prod.snd):=by
    intro l;induction l with
    |nil=>intro _;exact .nil
    |cons x l ih=>
     intro hx;refine .cons ?_ (ih fun p hp=>hx p (cW _ hp));obtain⟨n,t,e⟩:=hx x bp;show ∃t,x.2=Value.int (numOf x.2) t;rw[e];exact⟨t,rfl⟩
   exact go ps z7
  have Dp:L_ za zb ns ((ps.map fun p=>(p.1,numOf p.2)).map (·.2)):=by
   refine⟨ps.map fun p=>(p.1,numOf p.2),?_,rfl,?_⟩
   .rw[<-Vt];exact hp.map _
   .refine f9.mpr (hs.imp fun {p q} z=>?_);simpa using z
  have hDo:h'.get? D=some (seqObj "list" out cc):=(N' _ bp).1;have I2:aO X ae σ (upd H D (.lst (((ps.map fun p=>(p.1,numOf p.2)).map (·.2)).map V.int))) { s with heap:=h',toks:=tk }:=by
   refine I.P1 F F' (fun p hp=>N' p (cW _ hp)) hD ⟨?_,ps.map Prod.snd,cc,?_,?_⟩
   .have h1:=hp.length_eq;rw[ni,len,qz] at h1;simp only[aW];rw[h1,hI.length];exact a8 (jN Hu) (by decide)
   .have ev:=E3;simp only[cQ] at ev |-;exact ev
   .rw[hDo,<-ho]
  exact⟨.ref D,_,I2,rfl,q D _ (I.bZ.vx hD) Dp⟩
def nX(mg:Str->Option Value)(base:Heap):Prop:=∃bm o,mg "__builtins__"=some (.ref bm)/\bm≠builtinsNs/\bm≠mainGlobals/\base.get? bm=some o/\o.cls=.type "module"/\o.dict=some builtinsNs/\o.data=.plain
def BN(ts:List Addr)(H:Hp):Prop:=(∀P∈ts,H P=some (.ik #[]))/\∀b,H b=none\/(b∈ts/\H b=some (.ik #[]))\/∃o xs,H b=some (.wr o (.lst xs))
theorem Dq{P:Program}{w:World}{K:PySem.W.Frag}{mg mb:Str->Option Value}{CX:yx}{k:Nat}{fa a:Addr}{fd:FuncData}{x:Str}{sp:Sp}{s₁:Shared}{vs:List Value}{ns:List Int}{ts:List Addr}(KX:K.In s₁.heap)(xn:s₁.heap.Ns mainGlobals mg)(hb:s₁.heap.Ns builtinsNs mb)(hbb:∀x:Str,x≠"__name__"->mb x=bootBuiltins x)(Vu:s₁.heap.NoLimit)(hg:s₁.gens=#[])(hbm:nX mg s₁.heap)(Qh:∀P∈ts,s₁.heap.get? P=some (PySem.W.tabObj #[]))(tE:∀P∈ts,∃c,PySem.W.codeHdIn K c P=true)(Vv:∀P∈ts,K.lookup P=none)(ha:s₁.heap.get? a=some { cls:=.type "list",data:=.seq vs.toArray })(hi:IntsAre vs ns)(hl:ns.length<=sizeLine)(hr:cj k callerA)(F:∀base:Heap,K.In base->base.Ns mainGlobals mg->nX mg base->bD P w K mg base CX k fa fd [x] sp)(Qi:∀ (s:Shared) (u:Value),BindsTo s fd ⟨[u],[]⟩ [(x,u)])(Ht:∀H:Hp,BN ts H->aZ K H a (ns.map V.int)->sp [.ref a] H (fun v _=>v=.bl true) fun _ _ _=>False)(Vw:∀H e s',CX [] H s₁ (fun _ _ _=>False) e s'->False):
  codeAny (model P w) callerA (.call (.ref fa) ⟨[.ref a],[]⟩) (fun r s'=>r=.ok (.ret (.bool true))/\OldK s₁.heap s'.heap/\s'.os=s₁.os/\AllBare s'.gens) s₁:=by
 have rv:=tU hi;have Vx:=hi.length;have Y9:a∉ts:=fun z=>by
  have:=Qh a z;rw[ha] at this;cases this
 have Qj:∀H:Hp,BN ts H->aZ K H a (ns.map V.int)->lA P w H s₁.heap->(∀b,H b≠none->b=a\/b∈ts)->(H a≠none->K.lookup a=none)->
   codeAny (model P w) callerA (.call (.ref fa) ⟨[.ref a],[]⟩) (fun r s'=>r=.ok (.ret (.bool true))/\OldK s₁.heap s'.heap/\s'.os=s₁.os/\AllBare s'.gens) s₁:=by
  intro H hO hS bZ hA hK;have vD:∀ {b:Addr} {o:Obj},s₁.heap.get? b=some o->H b=none->(sg s₁.heap H).get? b=some o:=fun e n=>Ex e n;have Ot:∀ {b:Addr} {o:Obj},s₁.heap.get? b=some o->(∀v n,o.data≠.seq v n)->(∀v,o.data≠.fields v)->H b=none:=fun {b o} e d1 d2=>by
   cases q:H b with
   |none=>rfl
   |some u=>
    rcases hA b (by rw[q];simp) with e'|e'
    .subst e';rw[ha] at e;cases e;exact absurd rfl (d1 _ _)
    .rw[Qh b e'] at e;cases e;exact absurd rfl (d2 _)
  have Tv:∀ {b:Addr} {m:Str->Option Value},s₁.heap.Ns b m->(sg s₁.heap H).Ns b m:=fun {b m} ⟨o,es,ep,e,d,r⟩=>⟨o,es,ep,vD e (Ot e (by rw[d];intro v n z;cases z) (by rw[d];intro v z;cases z)),d,r⟩
  have Y_:K.In (sg s₁.heap H):=fun b o e=>vD (KX b o e) (by
   cases q:H b with
   |none=>rfl
   |some u=>
    rcases hA b (by rw[q];simp) with e'|e'
    .subst e';rw[hK (by rw[q];simp)] at e;cases e
    .rw[Vv b e'] at e;cases e)
  have hB:nX mg (sg s₁.heap H):=by
   obtain⟨bm,o,b1,b2,b3,b4,b5,b6,b7⟩:=hbm;exact⟨bm,o,b1,b2,b3,vD b4 (Ot b4 (by rw[b7];intro v n z;cases z) (by rw[b7];intro v z;cases z)),b5,b6,b7⟩
  have hM:Mod K mg (sg s₁.heap H):=⟨Y_,Tv xn,⟨mb,Tv hb,hbb⟩,let ⟨mc,h1,h2⟩:=Vu;⟨mc,Tv h1,h2⟩⟩
  have e0:zU P w K mg (sg s₁.heap H) callerA [] s₁ H:=⟨rfl,hM,fun b o e=>HE e,qA (CQ _ _),trivial,fun b hb=>absurd (show b∈([]:List Addr) from hb) (by simp),bZ,.of_eq hg⟩
  refine nB ((F _ Y_ (Tv xn) hB).run callerA [] s₁ H ⟨[.ref a],[]⟩ [.ref a] [.ref a] _ _ hr e0 (Qi s₁ (.ref a)) (.cons rfl .nil) (Ht H hO hS)) fun r s' h=>?_;cases r with
  |error e=>exact(Vw H e s' h).elim
  |ok fl=>
   cases fl with
   |next=>exact False.elim h
   |brk=>exact False.elim h
   |cont=>exact False.elim h
   |ret u=>
    obtain⟨v,H',os,bare,un,Qk,r',q⟩:=h;have q':v=.bl true:=q;subst q';obtain rfl:u=Value.bool true:=r';refine⟨rfl,⟨fun b o e=>?_,fun b o e=>un.there b o e (by simp)⟩,os,bare⟩;cases q:H b with
    |none=>exact .inl (un.keep b o e q (by intro z;exact absurd (show b∈([]:List Addr) from z) (by simp)) (by simp))
    |some u=>
     rcases hO.2 b with z|⟨zt,z⟩|⟨ob,xs,z⟩
     .rw[q] at z;cases z
     .obtain⟨more,z2⟩:=un.u9 b _ z;have e1:=Qh b zt;rw[e] at e1;cases e1;have e2:s'.heap.get? b=some { cls:=.none,data:=.fields (#[]++more) }:=Qk b _ z2;obtain⟨c,hc⟩:=tE b zt;obtain⟨oc,vsc,_,_,_,_,_,_,_,g1,g2,g3,g4,_⟩:=PySem.W.codeHd_of_K KX hc;exact .inr (.inl ⟨⟨c,oc,vsc,g1,g2,g3,g4⟩,rfl,#[],more,rfl,e2⟩)
     .have z2:=un.u8 b ob _ z;obtain⟨e1,_⟩:=bZ b _ z;obtain⟨e2,_⟩:=Qk b _ z2;rw[e] at e1;cases e1;exact .inl e2
 have Za:∀ (H:Hp),(∀P∈ts,H P=some (.ik #[]))->True:=fun _ _=>trivial
 classical
 cases hk:K.lookup a with
 |some o=>
  have e:=KX a o hk;rw[ha] at e;cases e;refine Qj (fun b=>if b∈ts then some (.ik #[]) else none) ⟨fun P hP=>av hP,fun b=>?_⟩ (.inr ⟨_,vs.toArray,_,hk,rfl,rfl,rfl,by rw[cu,Vx];exact hl,by simpa using rv⟩) (fun b u z=>?_) (fun b z=>?_) fun z=>absurd (au Y9) z
  .by_cases hb:b∈ts
   .exact .inr (.inl ⟨hb,av hb⟩)
   .exact .inl (au hb)
  .by_cases hb:b∈ts
   .have z':=(av hb).symm.trans z;cases z';exact Qh b hb
   .have z':=(au hb).symm.trans z;cases z'
  .by_cases hb:b∈ts
   .exact .inr hb
   .exact absurd (au hb) z
 |none=>
  refine Qj (fun b=>if b=a then some (.wr { cls:=.type "list",data:=.seq vs.toArray } (.lst (ns.map V.int))) else if b∈ts then some (.ik #[]) else none) ⟨fun P hP=>?_,fun b=>?_⟩ (.inl (.inr ⟨{ cls:=.type "list",data:=.seq vs.toArray },av rfl⟩)) (fun b u z=>?_) (fun b z=>?_) fun _=>hk
  .have:P≠a:=fun z=>Y9 (z ▸ hP);show (if P=a then _ else if P∈ts then _ else _)=_;rw[au this,av hP]
  .by_cases hb:b=a
   .exact .inr (.inr ⟨_,_,av hb⟩)
   .by_cases ht:b∈ts
    .exact .inr (.inl ⟨ht,by show (if b=a then _ else if b∈ts then _ else _)=_;rw[au hb,av ht]⟩)
    .exact .inl (by show (if b=a then _ else if b∈ts then _ else _)=_;rw[au hb,au ht])
  .by_cases hb:b=a
   .have z':=(av hb).symm.trans z;cases z';subst hb;exact⟨ha,by rw[aW];exact hl,vs,_,rv,ha⟩
   .have z1:(if b∈ts then some (HO.ik #[]) else none)=some u:=(au hb).symm.trans z;by_cases ht:b∈ts
    .rw[av ht] at z1;cases z1;exact Qh b ht
    .rw[au ht] at z1;cases z1
  .by_cases hb:b=a
   .exact .inl hb
   .by_cases ht:b∈ts
    .exact .inr ht
    .exact absurd (by show (if b=a then _ else if b∈ts then _ else _)=_;rw[au hb,au ht]) z
theorem Fl{l:PySem.W.OpenLaw}{n k:Nat}{q:Program}{tT:List Str}{XP:(Str->Option Value)->Heap->Prop}{YP:World->Heap->Prop}{d:DefRec}{K:Params->PySem.W.Frag}{CX:World->yx}{sp:World->Sp}{x:Str}{ts:List Addr}(hn:l.most=some n)(Os:n<=sizeLine)(PL:d.params.defaults=[])(hr:cj k callerA)(hY:∀ (w:World) (h:Heap),YP w h->(K w.params).In h)(hT:∀ (w:World) (h:Heap),YP w h->∀P∈ts,h.get? P=some (PySem.W.tabObj #[]))(tE:∀ (w:World),∀P∈ts,∃c,PySem.W.codeHdIn (K w.params) c P=true)(Vv:∀ (w:World),∀P∈ts,(K w.params).lookup P=none)(F:∀ (w:World) (mg:Str->Option Value) (fa:Addr) (h:Heap),(K w.params).In h->h.Ns mainGlobals mg->mg d.name=some (.ref fa)->
   ∃fd:FuncData,(∀ (s:Shared) (u:Value),BindsTo s fd ⟨[u],[]⟩ [(x,u)])/\
    ∀base:Heap,(K w.params).In base->base.Ns mainGlobals mg->nX mg base->bD l.prog w (K w.params) mg base (CX w) k fa fd [x] (sp w))(Ht:∀ (w:World) (H:Hp) (a:Addr) (ns:List Int),ns.length<=n->BN ts H->aZ (K w.params) H a (ns.map V.int)->sp w [.ref a] H (fun v _=>v=.bl true) fun _ _ _=>False)(Vw:∀ (w:World) (H:Hp) (s:Shared) (e:Value) (s':Shared),CX w [] H s (fun _ _ _=>False) e s'->False):
  PySem.W.WalkO q tT XP YP l.row.toRowW d [] (fun f vs=>PySem.call f vs):=by
 refine YS.wY hn PL fun w s₀ s₁ mg mb fa o pm cd l8 a vs ns G Y ho hd aae PM LQ E4 fm hg=>?_;have KX:=hY w _ Y;obtain⟨fd,hb,hF⟩:=F w mg fa _ KX G.T.g PM;have hB:nX mg s₁.heap:=by
  obtain⟨bm,ob,b1,b2,b3,b4,b5,b6⟩:=G.T.bmain;refine⟨bm,ob,b1,b2,fun z=>?_,b3,b4,b5,b6⟩;obtain⟨o',es,ep,e,HJ,_⟩:=G.T.g;rw[z,e] at b3;cases b3;rw[HJ] at b6;cases b6
 exact Dq KX G.T.g G.T.b G.T.builtins G.T.nolimit hg hB (hT w _ Y) (tE w) (Vv w) LQ E4 (a8 fm Os) hr hF hb (fun H hO hS=>Ht w H a ns fm hO hS) fun H e s'=>Vw w H s₁ e s'
structure pe(K:PySem.W.Frag)(x qual:Str)(st:Stmt)(f:Addr)(fd:FuncData)(c:Addr):Prop where
 ex:∃ (oc:Value) (od:Option Addr) (kV l8 pm:Value) (an:Option Addr) (ct:Value) (yy:Array (Option Value)),
  fd=PySem.W.fnOf x qual (dt st) (bR st) (ao st) .none kV l8 pm an (.ref c) ct/\K.lookup f=some ⟨oc,od,.func fd,yy⟩/\PySem.W.codeIn K (.ref c) qual=true
 kp:PySem.W.keepIn K (.ref f)=true
theorem pe.fun{K:PySem.W.Frag}{x qual:Str}{st:Stmt}{f:Addr}{fd:FuncData}{c:Addr}(F:pe K x qual st f fd c):ii K x qual st f fd:=by
 obtain⟨oc,od,kV,l8,pm,an,ct,yy,e,lk,tE⟩:=F.ex;exact⟨⟨oc,od,kV,l8,pm,an,_,ct,yy,e,lk,tE⟩,F.kp⟩
section
variable {P:Program} {w:World} {K:PySem.W.Frag} {mg:Str->Option Value} {base:Heap}
theorem pe.ok{x qual:Str}{st:Stmt}{f:Addr}{fd:FuncData}{c:Addr}{N ps:List Str}{k:Nat}{sp:Sp}(F:pe K x qual st f fd c)(S:aP N ps (ao st))(len:∀vs H Q E,sp vs H Q E->vs.length=ps.length)(wS:∀ (A:Around) (outer:List Env) (s:Shared) (H:Hp) (vs:List V) (Q:VK) (E:XK),cj k (A.deeper (envOfC qual (ao st) s.heap.objs.size f (.ref c)))->sp vs H Q E->
   ∃t,zG (jX bb P w K mg base N qual (ao st) f (.ref c) A outer s H E).yw (bR st) t/\t { nx:=fun _ H'=>Q .cS H',rt:=Q } (start N vs) H):bD P w K mg base bb (k+1) f fd ps sp:=by
 obtain⟨oc,od,kV,l8,pm,an,ct,yy,rfl,lk,tE⟩:=F.ex;refine Kl lk tE S len fun A outer s H vs Q E hr Ht=>?_;obtain⟨t,h,q⟩:=wS A outer s H vs Q E hr Ht;exact⟨t,h.yw,q⟩
theorem BO{x qual:Str}{st:Stmt}{f c:Addr}{oc:Value}{od an:Option Addr}{yy:Array (Option Value)}{kV l8 pm ct:Value}(l:K.lookup f=some ⟨oc,od,.func (PySem.W.fnOf x qual (dt st) (bR st) (ao st) .none kV l8 pm an (.ref c) ct),yy⟩)(tE:PySem.W.codeIn K (.ref c) qual=true)(kp:PySem.W.keepIn K (.ref f)=true):pe K x qual st f (PySem.W.fnOf x qual (dt st) (bR st) (ao st) .none kV l8 pm an (.ref c) ct) c:=⟨⟨oc,od,kV,l8,pm,an,ct,yy,rfl,l,tE⟩,kp⟩
theorem mh(kb:K.In base)(hb:nX mg base)(hc:PySem.W.codeHdIn K c P'=true):
  Ij (jX CX P w K mg base N qual scope f (.ref c) A outer s H E).yw c P':=⟨rfl,PySem.W.codeHd_of_K kb hc,hb⟩
end
def pS(sc Vy:Scope)(y:Str×NameKind):Bool:=match y.2 with
 |.cell=>(match sc.names.lookup y.1 with|some .cell=>true|_=>false)
 |.local=>(match sc.names.lookup y.1 with|some .local=>true|_=>false)
 |.free=>(match Vy.names.lookup y.1 with|some .cell=>true|some .free=>true|_=>false)
 |_=>true
def Fm(NB:List Str)(src:List (Option Nat))(sc:Scope)(N:List Str)(i:Nat):Bool:=match NB[i]?,src[i]? with
 |some x,some (some j)=>(N[j]?==some x)&&(match sc.names.lookup x with|some .free=>true|_=>false)
 |_,_=>true
def BP(sc:Scope):Bool:=match sc.kind with|.function=>true|_=>false
def Fn(NB:List Str)(src:List (Option Nat))(sc Vy:Scope)(N:List Str):Bool:=
 BP sc&&decide NB.Nodup&&(src.length==NB.length)&&(sc.names.all (pS sc Vy))&&(List.range NB.length).all (Fm NB src sc N)
theorem br(h:Fn NB src sc X.env.scope X.N=true):ge NB src sc X:=by
 unfold Fn at h;simp only[gw,qk,fh,i9] at h;obtain⟨⟨⟨⟨h1,h2⟩,h3⟩,h4⟩,h5⟩:=h;refine⟨?_,h2,h3,fun y hy z=>?_,fun y hy z=>?_,fun y hy z=>?_,fun i x j e1 e2=>?_⟩
 .unfold BP at h1;split at h1
  .assumption
  .cases h1
 .have:=h4 y hy;obtain⟨n,k⟩:=y;obtain rfl:k=.cell:=z;dsimp only[pS] at this |-;split at this
  .assumption
  .cases this
 .have:=h4 y hy;obtain⟨n,k⟩:=y;obtain rfl:k=.local:=z;dsimp only[pS] at this |-;split at this
  .assumption
  .cases this
 .have:=h4 y hy;obtain⟨n,k⟩:=y;obtain rfl:k=.free:=z;dsimp only[pS] at this |-;split at this
  .exact .inl (by assumption)
  .exact .inr (by assumption)
  .cases this
 .have hi:i<NB.length:=(cJ.mp e1).1;have:=h5 i (bP.mpr hi);unfold Fm at this;rw[e1,e2] at this;simp only[gw,fh] at this;refine⟨this.1,?_⟩;have t2:=this.2;split at t2
  .assumption
  .cases t2
theorem eY{K:PySem.W.Frag}{a D:Addr}{xs:List V}{g:TG}{tt:TT}{te:TE}{fin:Hp->Prop}{σB:St}{H0:Hp}(Pv:Nat->List V->St->Hp->Prop)(h0:Pv 0 [] σB H0)(hl:∀i ys σ H,i<=xs.length->Pv i ys σ H->aZ K H a xs)(hs:∀i x ys σ H (Kt:V->St->Hp->Prop) (Kf:St->Hp->Prop),xs[i]?=some x->Pv i ys σ H->
   (∀v σ2 H4,H4 D=some (.lst ys)->ys.length<sizeLine->Pv (i+1) (ys++[v]) σ2 (upd H4 D (.lst (ys++[v])))->Kt v σ2 H4)->(∀σ2 H3,Pv (i+1) ys σ2 H3->Kf σ2 H3)->
   g x σ H fun σ2 H2=>tt σ2 H2 fun b H3=>if b=true then te σ2 H3 fun v H4=>Kt v σ2 H4 else Kf σ2 H3)(hd:∀ys σ H,Pv xs.length ys σ H->fin H):gC (EG K a) g tt te D fin σB H0:=by
 refine⟨fun i m σ H=>m=xs.length-i/\i<=xs.length/\∃ys,Pv i ys σ H,⟨xs.length,by simp,bT _,[],h0⟩,?_⟩;rintro i m σ H ⟨rfl,hi,ys,p⟩;have q:=hl i ys σ H hi p;by_cases dG:i<xs.length
 .refine .inr ⟨⟨xs,xs[i],q,by simp[dG]⟩,?_⟩;rintro x H' ⟨rfl,y⟩;exact hs i x ys σ _ (fun v σ2 H4=>∃ys,H4 D=some (.lst ys)/\ys.length<sizeLine/\∃m',m'<xs.length-i/\m'=xs.length-(i+1)/\i+1<=xs.length/\∃sO,Pv (i+1) sO σ2 (upd H4 D (.lst (ys++[v]))))
   (fun σ2 H3=>∃m',m'<xs.length-i/\m'=xs.length-(i+1)/\i+1<=xs.length/\∃sO,Pv (i+1) sO σ2 H3) (y xs q) p
   (fun v σ2 H4 z1 z2 z3=>⟨ys,z1,z2,_,by lia,rfl,dG,_,z3⟩) (fun σ2 H3 z=>⟨_,by lia,rfl,dG,_,z⟩)
 .have e:i=xs.length:=by lia
  subst e;exact .inl ⟨⟨xs,q,aN _⟩,hd ys σ H p⟩
theorem eT{lo:Int}{n:Nat}{D:Addr}{g:TG}{tt:TT}{te:TE}{fin:Hp->Prop}{σB:St}{H0:Hp}(Pv:Nat->List V->St->Hp->Prop)(h0:Pv 0 [] σB H0)(hs:∀i ys σ H (Kt:V->St->Hp->Prop) (Kf:St->Hp->Prop),i<n->Pv i ys σ H->
   (∀v σ2 H4,H4 D=some (.lst ys)->ys.length<sizeLine->Pv (i+1) (ys++[v]) σ2 (upd H4 D (.lst (ys++[v])))->Kt v σ2 H4)->(∀σ2 H3,Pv (i+1) ys σ2 H3->Kf σ2 H3)->
   g (.int (lo+i)) σ H fun σ2 H2=>tt σ2 H2 fun b H3=>if b=true then te σ2 H3 fun v H4=>Kt v σ2 H4 else Kf σ2 H3)(hd:∀ys σ H,Pv n ys σ H->fin H):gC (Eb lo n) g tt te D fin σB H0:=by
 refine⟨fun i m σ H=>m=n-i/\i<=n/\∃ys,Pv i ys σ H,⟨n,by simp,bT _,[],h0⟩,?_⟩;rintro i m σ H ⟨rfl,hi,ys,p⟩;by_cases dG:i<n
 .refine .inr ⟨dG,?_⟩;rintro x H' ⟨rfl,rfl⟩;exact hs i ys σ _ (fun v σ2 H4=>∃ys,H4 D=some (.lst ys)/\ys.length<sizeLine/\∃m',m'<n-i/\m'=n-(i+1)/\i+1<=n/\∃sO,Pv (i+1) sO σ2 (upd H4 D (.lst (ys++[v]))))
   (fun σ2 H3=>∃m',m'<n-i/\m'=n-(i+1)/\i+1<=n/\∃sO,Pv (i+1) sO σ2 H3) dG p
   (fun v σ2 H4 z1 z2 z3=>⟨ys,z1,z2,_,by lia,rfl,dG,_,z3⟩) (fun σ2 H3 z=>⟨_,by lia,rfl,dG,_,z⟩)
 .have e:i=n:=by lia
  subst e;exact .inl ⟨aN _,hd ys σ H p⟩
section
variable {κ:Type} [DecidableEq κ]
def gK(cL:List (κ×V))(k:κ):Option V:=(cL.find? fun kv=>decide (kv.1=k)).map (·.2)
def qY(cL:List (κ×V))(k:κ)(v:V):List (κ×V):=
 if (cL.any fun kv=>decide (kv.1=k))=true then cL.map (fun kv=>if kv.1=k then (kv.1,v) else kv) else cL++[(k,v)]
theorem dZ{p:κ×V}{r:List (κ×V)}{k:κ}(e:p.1=k):gK (p::r) k=some p.2:=by simp[gK,lm,e]
theorem d7{p:κ×V}{r:List (κ×V)}{k:κ}(e:¬ p.1=k):gK (p::r) k=gK r k:=by simp[gK,lm,e]
theorem mi(k:κ):∀cL:List (κ×V),(cL.any fun kv=>decide (kv.1=k))=(gK cL k).isSome
 |[]=>rfl
 |p::r=>by
  rw[nw];by_cases e:p.1=k
  .simp only[dZ e,iu e,Bool.true_or,Option.isSome_some]
  .rw[d7 e,fc e,Bool.false_or];exact mi k r
theorem xo(k j:κ)(y:V):∀cL:List (κ×V),gK (cL.map fun kv=>if kv.1=k then (kv.1,y) else kv) j=(gK cL j).map fun x=>if j=k then y else x
 |[]=>rfl
 |p::r=>by
  have ih:=xo k j y r;rw[ff];by_cases h:p.1=k
  .rw[av h];by_cases e:p.1=j
   .rw[dZ (p:=(p.1,y)) e,dZ e,qr,av (e.symm.trans h)]
   .rw[d7 (p:=(p.1,y)) e,d7 e,ih]
  .rw[au h];by_cases e:p.1=j
   .rw[dZ (p:=p) e,dZ e,qr,au (fun z=>h (e.trans z))]
   .rw[d7 (p:=p) e,d7 e,ih]
theorem t8(k j:κ)(y:V):∀cL:List (κ×V),gK cL k=none->gK (cL++[(k,y)]) j=if j=k then some y else gK cL j
 |[],_=>by
  by_cases e:k=j
  .rw[av e.symm];exact dZ (p:=(k,y)) e
  .rw[au (fun z=>e z.symm)];exact d7 (p:=(k,y)) e
 |p::r,hn=>by
  rw[List.cons_append];have hk:¬ p.1=k:=fun z=>by rw[dZ z] at hn;cases hn
  rw[d7 hk] at hn;have ih:=t8 k j y r hn;by_cases e:p.1=j
  .rw[dZ e,dZ e,au (fun z=>hk (e.trans z))]
  .rw[d7 e,d7 e,ih]
theorem Fp(cL:List (κ×V))(k j:κ)(y:V):gK (qY cL k y) j=if j=k then some y else gK cL j:=by
 unfold qY;by_cases a:(cL.any fun kv=>decide (kv.1=k))=true
 .rw[av a,xo];rw[mi] at a;by_cases e:j=k
  .obtain⟨x,hx⟩:=uy.mp a;rw[av e,e,hx,qr,av rfl]
  .rw[au e];cases gK cL j with
   |none=>rfl
   |some x=>rw[qr,au e]
 .rw[au a];refine t8 k j y cL ?_;rw[mi] at a;cases q:gK cL k with
  |none=>rfl
  |some x=>rw[q] at a;exact(a rfl).elim
theorem xp(cL:List (κ×V))(k:κ)(v:V):(qY cL k v).length<=cL.length+1:=by
 unfold qY;split
 .rw[aW];lia
 .rw[cp,dS,List.length_nil];lia
theorem lY.nY(r:lY o u):o.isSome=u.isSome:=by
 cases o with
 |none=>cases u with
  |none=>rfl
  |some _=>exact(show False from r).elim
 |some _=>cases u with
  |none=>exact(show False from r).elim
  |some _=>rfl
theorem KV.val{cL:List (κ×V)}{vs:List (κ×Value)}(r:KV cL vs)(k:κ):lY (gK cL k) (valueAt vs k):=by
 unfold KV at r;induction r with
 |nil=>exact True.intro
 |@cons p q ps qs h t ih=>
  obtain⟨h1,h2⟩:=h;by_cases e:p.1=k
  .have e':q.1=k:=h1.symm.trans e;have b:valueAt (q::qs) k=some q.2:=by simp[valueAt,lm,e']
   rw[dZ e,b];exact h2
  .have e':¬ q.1=k:=fun z=>e (h1.trans z);have b:valueAt (q::qs) k=valueAt qs k:=by simp[valueAt,lm,e']
   rw[d7 e,b];exact ih
end
theorem Ky(r:bz (kV k) u):(bU P w).is k u=true:=by
 cases k with
 |inl i=>obtain⟨t,e⟩:=(show ∃t,u=Value.int i t from r);subst e;exact wC P w i t
 |inr x=>obtain⟨t,e⟩:=(show ∃t,u=Value.str x t from r);subst e;exact wD P w x t
theorem t9:∀ {ks:List gE} {us:List Value},aT (ks.map kV) us->ItemsAre (bU P w) ks us
 |[],_,r=>by rw[List.map_nil] at r;cases r;exact .nil
 |k::ks,_,r=>by
  rw[ff] at r;cases r with
  |cons h t=>exact .cons (Ky h) (t9 t)
abbrev KT(H:Hp):List (List gE×V)->List (List gE×Addr×Value)->Prop:=Paired fun p q=>p.1=q.1/\H q.2.1=some (.tup (p.1.map kV))/\bz p.2 q.2.2
theorem KT.val{H:Hp}{cL:List (List gE×V)}{xs:List (List gE×Addr×Value)}(r:KT H cL xs)(k:List gE):lY (gK cL k) ((atKey xs k).map (·.2)):=by
 induction r with
 |nil=>exact True.intro
 |@cons p q ps qs h t ih=>
  obtain⟨h1,_,h2⟩:=h;by_cases e:p.1=k
  .have e':q.1=k:=h1.symm.trans e;have b:atKey (q::qs) k=some q.2:=by simp[atKey,lm,e']
   rw[dZ e,b];exact h2
  .have e':¬ q.1=k:=fun z=>e (h1.trans z);have b:atKey (q::qs) k=atKey qs k:=by simp[atKey,lm,e']
   rw[d7 e,b];exact ih
theorem KT.Vz(r:KT H cL xs)(k:List gE)(ry:bz y u):
  KT H (cL.map fun kv=>if kv.1=k then (kv.1,y) else kv) (xs.map (putAt k u)):=by
 induction r with
 |nil=>exact .nil
 |@cons p q ps qs h t ih=>
  rw[ff,ff];refine .cons ?_ ih;obtain⟨h1,h2,h3⟩:=h;unfold putAt;by_cases e:p.1=k
  .rw[av e,av (h1.symm.trans e)];exact⟨h1,h2,ry⟩
  .rw[au e,au (fun z=>e (h1.trans z))];exact⟨h1,h2,h3⟩
theorem KT.put(r:KT H cL xs)(k:List gE)(hb:H b=some (.tup (k.map kV)))(ry:bz y u):
  KT H (qY cL k y) (storedH xs k b u):=by
 have e:(cL.any fun kv=>decide (kv.1=k))=(atKey xs k).isSome:=by
  rw[mi,(r.val k).nY,Option.isSome_map]
 unfold qY storedH;rw[e];by_cases q:(atKey xs k).isSome=true
 .rw[av q,av q];exact r.Vz k ry
 .rw[au q,au q];exact Paired.snoc r ⟨rfl,hb,ry⟩
theorem KT.keeps(r:KT H cL xs)(ht:∀b ys,H b=some (.tup ys)->H' b=some (.tup ys)):KT H' cL xs:=
 Paired.Lp r fun _ _ z=>⟨z.1,ht _ _ z.2.1,z.2.2⟩
section
variable {P:Program} {w:World} {H:Hp} {h:Heap} {a:Addr}
theorem Kz(ok:lA P w H h)(e:Rd H a u):cC P w H h a u:=e.ok ok
theorem Ql(ok:lA P w H h)(e:Rd H a (.dK cL)):cL.length<=sizeLine/\(a==sysModules)=false/\∃vs,KV cL vs/\h.DictOf (bU P w) a vs:=
 show cC P w H h a (.dK cL) from Kz ok e
theorem nZ(ok:lA P w H h)(e:H a=some (.tup (ks.map kV))):(tupleKind (bU P w)).is h ks a:=by
 obtain⟨_,its,r,o,h1,h2,n,h3,_⟩:=(show cC P w H h a (.tup (ks.map kV)) from ok a _ e)
 exact⟨o,its.toArray,n,h1,h2,h3,by simpa using t9 r⟩
theorem Qm(ok:lA P w H h)(e:Rd H a (.dT cL)):cL.length<=sizeLine/\(a==sysModules)=false/\
  ∃xs,KT H cL xs/\h.DictOfH (tupleKind (bU P w)) a xs:=by
 obtain⟨z,y,xs,r,o,es,ep,h1,h2,h3,h4,h5⟩:=(show cC P w H h a (.dT cL) from Kz ok e)
 refine⟨z,y,xs,r,o,es,ep,h1,h2,h3,h4,fun x hx=>?_,h5⟩;have all:∀ {l:List (List gE×V)} {m:List (List gE×Addr×Value)},KT H l m->∀x∈m,(tupleKind (bU P w)).is h x.1 x.2.1:=by
  intro l m q;induction q with
  |nil=>intro x hx;exact nomatch hx
  |@cons p q ps qs hq t ih=>
   intro x hx;rcases bg.mp hx with e|hx
   .subst e;exact nZ ok (by rw[<-hq.1];exact hq.2.1)
   .exact ih x hx
 exact all r x hx
end
def Fq(H:Hp)(a:Addr)(y:V)(r:Option V):Prop:=
 (∃cL k,Rd H a (.dK cL)/\y=kV k/\r=gK cL k)\/∃cL k b,Rd H a (.dT cL)/\y=.ref b/\H b=some (.tup (k.map kV))/\r=gK cL k
theorem Fq.t(e:H a=some (.dT cL))(eb:H b=some (.tup (k.map kV))):Fq H a (.ref b) (gK cL k):=.inr ⟨cL,k,b,.inl e,rfl,eb,rfl⟩
section
variable {X:Cx} {ae:List (Addr×Obj)} {σ:St} {H:Hp} {s:Shared} {a:Addr} {y v:V} {u r:Value} {o:Option V} {A:Around} {E:Value->Shared->Prop}
theorem VA(hu:A.units+1<cLine)(I:aO X ae σ H s)(g:Fq H a y o)(ry:bz y u)(h:∀s',aO X ae σ H s'->Q (.bool o.isSome) s'):
  wpAny (model X.prog X.w) A (compareOp .In u (.ref a)) Q E s:=by
 rcases g with ⟨cL,k,e,ey,l⟩|⟨cL,k,b,e,ey,eb,l⟩
 .subst ey;obtain⟨z,hd,vs,Qn,dd⟩:=Ql I.bZ e;refine wpAny_in_of (Ky ry) hd dd.mapOf ?_;rw[<-(Qn.val k).nY,<-l];exact h _ (I.tok _)
 .subst ey;cases (show u=Value.ref b from ry);obtain⟨z,hd,xs,Qn,dd⟩:=Qm I.bZ e;refine wpAny_in_heap (tupleKind_room_in1 hu) (nZ I.bZ eb) hd dd ?_;have q:=(Qn.val k).nY;rw[Option.isSome_map] at q;rw[<-q,<-l];exact h _ (I.tok _)
end
section
variable {X:Cx} {ae:List (Addr×Obj)} {σ:St} {H:Hp} {s:Shared} {a:Addr} {cL:List (gE×V)} {k:gE} {u:Value} {A:Around} {E:Value->Shared->Prop}
end
def Qo(ty td:TE):TE:=fun σ H Q=>ty σ H fun y H1=>td σ H1 fun x H2=>∃a o,x=.ref a/\Fq H2 a y o/\Q (.bl o.isSome) H2
section
variable {X:Cx} {o i e value:Expr} {pos CU LK:Pos} {td ty tv:TE}
theorem Mc(hu:X.A.units+1<cLine)(hi:PE X i ty)(ho:PE X o td):PC X .In i o (Qo ty td):=by
 intro ae s σ H Q I h;refine dq (hi ae s σ H _ I h) fun iv s1 ⟨y,H1,I1,ry,q1⟩=>dq (ho ae s1 σ H1 _ I1 q1) fun u s2 ⟨x,H2,I2,rx,a,ov,ex,g,q2⟩=>?_;subst ex;obtain rfl:u=Value.ref a:=rx;exact VA hu I2 g ry fun s3 I3=>⟨.bl ov.isSome,H2,I3,rfl,q2⟩
end
section
variable {X:Cx} {pos:Pos}
end
section
variable {X:Cx} {ae:List (Addr×Obj)} {σ:St} {H:Hp} {s:Shared} {a:Addr} {y d:V} {u r:Value} {o:Option V} {A:Around} {E:Value->Shared->Prop}
end
section
variable {X:Cx} {o e f:Expr} {qM qP:Pos} {td ty tx:TE}
end
section
variable {X:Cx} {ae:List (Addr×Obj)} {σ:St} {H:Hp} {s:Shared} {a:Addr} {cL:List (gE×V)} {A:Around} {E:Value->Shared->Prop}
end
section
variable {X:Cx} {ae:List (Addr×Obj)} {σ:St} {H:Hp} {s:Shared} {a:Addr} {y:V} {u:Value} {A:Around} {E:Value->Shared->Prop}
end
section
variable {X:Cx}
end
section
variable {κ:Type} [DecidableEq κ]
end
section
variable {X:Cx}
theorem qZ:∀ {xs:List V} {its:List Value},aT xs its->xs.all fq=true->its.countP (C5 x)=xs.countP (fun z=>sE z x)
 |[],_,.nil,_=>rfl
 |y::xs,_,.cons (b:=u) r rr,f=>by
  have fy:fq y=true:=by rw[jM,gw] at f;exact f.1
  have fx:xs.all fq=true:=by rw[jM,gw] at f;exact f.2
  have h1:[u].any (C5 x)=[y].any (fun z=>sE z x):=pP (.cons r .nil) (by simp[fy]);have h2:C5 x u=sE y x:=by simpa using h1
  rw[m_,m_,qZ rr fx,h2]
def Md:V->List V->Hp->VK->Prop:=fun x vs H Q=>∃ (l:Addr) (xs:List V) (y:V),x=.ref l/\vs=[y]/\H l=some (.lst xs)/\fq y=true/\xs.all fq=true/\Q (.int (xs.countP fun z=>sE z y)) H
theorem xq:PD X "list.count" Md:=by
 intro ae s σ H x vs v us Q I rx rv h;obtain⟨l,xs,y,rfl,rfl,hH,fy,fs,q⟩:=h;cases rx;obtain⟨u,rfl,ru⟩:=rv.one;obtain⟨z,its,n,r,hl,e⟩:=I.qQ hH;refine jP F.slot_list_count ⟨_,e,rfl⟩ F.entry_list_count (F.args_list_count_2 _ _) (SeqAt.list_countAt l its.toArray n none #[] u (C5 y)) ⟨e,fun w hw=>l9 ru fy r fs w (by simpa using hw),?_⟩;refine⟨.int _,H,I.tok _,⟨s.toks,?_⟩,q⟩;rw[show its.toArray.toList=its by simp,qZ r fs]
end
def Qp(K:PySem.W.Frag)(a:Addr):It:=
 ⟨fun i H=>∃xs x,aZ K H a xs/\xs[i]?=some x,fun i H x H'=>∃p v,x=.ref p/\H p=none/\H'=upd H p (.tup [.int i,v])/\∀xs,aZ K H a xs->xs[i]?=some v,fun i H=>∃xs,aZ K H a xs/\xs.length<=i⟩
theorem aO.BQ(I:aO X ae σ H s)(fe:gG X ae H e)(fi:gG X ae H it)(k:∀b o,b≠e->b≠it->s.heap.get? b=some o->h'.get? b=some o)(ke:∃o,h'.get? e=some o)(ki:∃o,h'.get? it=some o)(hp:s.heap.objs.size<=p)(hl:xs.length<=sizeLine)(r:aT xs its)(ht:h'.get? p=some { cls:=.type "tuple",data:=.seq its.toArray }):aO X ae σ (upd H p (.tup xs)) { s with heap:=h',toks:=t' }:=by
 have hn:=I.bZ.fresh hp;obtain⟨e0,e1,e2,e3,e4,e5⟩:=fe;obtain⟨i0,i1,i2,i3,i4,i5⟩:=fi;have ne:∀b o,s.heap.get? b=some o->b≠p:=fun b o q=>aQ (bn (aS q) hp);have BR:∀b o,H b=some o->b≠e/\b≠it:=fun b o q=>⟨(fun z=>by rw[z,e0] at q;cases q),(fun z=>by rw[z,i0] at q;cases q)⟩
 refine I.step (g':=s.gens) (d':=s.drawn) (ch:=[e,it]) (fun b hb=>?_) (fun b o _ _ hb q _=>?_) (fun b o _ _ hb q _=>⟨o.slots,?_⟩) (fun b o hb q n=>by rw[am (ne b o q)];exact n) (fun b o hb q=>⟨o,?_⟩)
  (fun b ys q=>by rw[am (ak q hn)];exact q) (fun b o u q=>by rw[am (ak q hn)];exact q) (fun b ps q=>⟨#[],by rw[am (ak q hn),q];simp⟩) (fun m hm=>?_) (fun b o q=>?_) I.bare
 .rcases bg.mp hb with rfl|hb
  .exact⟨e3,e1,e4,e5⟩
  .rw[bL.mp hb];exact⟨i3,i1,i4,i5⟩
 .exact k b o (fun z=>hb (z ▸ bp)) (fun z=>hb (z ▸ cW _ bp)) q
 .exact k b o (fun z=>hb (z ▸ bp)) (fun z=>hb (z ▸ cW _ bp)) q
 .exact k b o (fun z=>hb (z ▸ bp)) (fun z=>hb (z ▸ cW _ bp)) q
 .obtain⟨o,es,ep,q,d,r'⟩:=hm;exact⟨o,es,ep,k _ _ e1.symm i1.symm q,d,r'⟩
 .by_cases hb:b=p
  .subst hb;rw[af] at q;cases q;exact⟨hl,its,r,_,ht,rfl,_,rfl,rfl⟩
  .rw[am hb] at q;refine(I.bZ b o q).jd (fun c u hc z=>k c u ?_ ?_ z) (fun c z=>by rw[am (ak z hn)];exact z) fun c ys z=>by rw[am (ak z hn)];exact z
   .rcases hc with rfl|hc
    .exact(BR _ _ q).1
    .exact(BR _ _ hc).1
   .rcases hc with rfl|hc
    .exact(BR _ _ q).2
    .exact(BR _ _ hc).2
theorem Dr{P:Program}{w:World}{K:PySem.W.Frag}{es:List Expr}{x1:Nat}{pos:Pos}(a e it:Addr)(lF:e≠it):
  wL P w K (.Tuple es x1 pos) (Qp K a) [e,it] e (fun i h=>(∃eZ,IsEnum h e it (i:Int) eZ)/\h.IsListIter it a i) where
 mem:=by simp
 obj:=fun i h st b hb=>by
  obtain⟨⟨eZ,he⟩,⟨o,q,c,d⟩⟩:=st;rcases bg.mp hb with rfl|hb
  .exact⟨_,he,fun v z=>by
    have z':Data.fields _=Data.cell v:=z;cases z'⟩
  .rw[bL.mp hb];exact⟨o,q,fun v z=>by rw[d] at z;cases z⟩
 keep:=fun i h h' st k=>by
  obtain⟨⟨eZ,he⟩,hi⟩:=st;exact⟨⟨eZ,k e (by simp) _ he⟩,hi.at fun o q=>k it (by simp) o q⟩
 item:=by
  intro X hP hw hK hc i ae s σ H E I hf st hg;subst hP hw hK;obtain⟨xs,x,hq,hx⟩:=hg;obtain⟨its,rv,p,hz⟩:=I.list hq;obtain⟨u,hu,ru⟩:=rv.get hx;obtain⟨⟨eZ,he⟩,hi⟩:=st;refine wpAny_pyNext_enum_item he hi p.isList (x:=u) (by simpa using hu) lF fun h' ho kC ht gJ k=>?_;refine⟨_,rfl,wpAny_letOwnedTupleGo_enum ho fun h2 KA lB=>?_⟩;have Qq:s.heap.objs.size≠e:=fG (aS he);have Ab:h2.IsListIter it a (i+1):=kC.extBut lB.extBut lF.symm;have fe:=hf e (by simp);have fi:=hf it (by simp);have I2:aO X ae σ (upd H s.heap.objs.size (.tup [.int i,x])) { s with heap:=h2,toks:=s.toks+1 }:=by
   refine I.BQ (its:=[.int i s.toks,u]) fe fi (fun b o h1 h3 q=>(lB.2 b h1).trans (k b o h1 h3 q)) ⟨_,KA⟩ ?_ (aN _) (by show 2<=sizeLine;decide) (.cons ⟨_,rfl⟩ (.cons ru .nil)) ((lB.2 _ Qq).trans ht);obtain⟨o,q,_⟩:=Ab;exact⟨o,q⟩
  refine⟨.ref s.heap.objs.size,_,I2,rfl,⟨_,x,rfl,I.bZ.fresh (aN _),rfl,fun ys hy=>by rw[I.wI hy hq];exact hx⟩,⟨⟨u,KA⟩,Ab⟩,fun b hb=>?_⟩;have f0:=(hf b hb).1;rw[am]
  .exact f0
  .rcases bg.mp hb with rfl|hb
   .exact Qq.symm
   .rw[bL.mp hb];obtain⟨o,q,_⟩:=hi;exact aQ (aS q)
 done:=by
  intro X hP hw hK hc i ae s σ H E I hf st hg;subst hP hw hK;obtain⟨xs,hq,hx⟩:=hg;obtain⟨its,rv,p,hz⟩:=I.list hq;obtain⟨f0,f1,f2,f3,f4,f5⟩:=hf it (by simp);obtain⟨⟨eZ,he⟩,hi⟩:=st;have hl:=rv.length;exact wpAny_pyNext_enum_end (I.ok.hd hc) he hi p.isList (by simp;lia) fun h' eb=>⟨rfl,I.turned (t':=s.toks) (fun b o hb e=>eb b o hb e) f0 f1 f3 f4 f5⟩
 self:=fun _ _ _ _ _ st h=>by
  obtain⟨⟨eZ,he⟩,_⟩:=st;exact uP he h
section
variable {X:Cx}
def Qr(K:PySem.W.Frag)(ta:TA):TI:=fun σ H R=>ta σ H fun vs H1=>∃a xs,vs=[.ref a]/\H1 a=some (.lst xs)/\R (Qp K a) H1
theorem Im(hg:Gl X "enumerate")(hm:X.mg "enumerate"=none)(ha:PA X [a] ta)(hs:starEach [a] X.env=[(false,eval a X.env)]:=by rfl):
  PI X (.Tuple es x1 LK) (.Call (.Name "enumerate" p) [a] [] pos) (Qr X.K ta):=by
 intro ae s σ H R I h;refine Call_ (iE I hg hm (by decide +kernel:bootBuiltins "enumerate"=some (.type "enumerate")) (tm (dq (ha pos ae s σ H _ I h) fun us s1 ⟨vs,H1,I1,r1,q1⟩=>?_) hs rfl));obtain⟨l,xs,rfl,hl,q⟩:=q1;obtain⟨u1,rfl,Qs⟩:=r1.one;obtain rfl:u1=Value.ref l:=Qs;obtain⟨z,its,n,r,_,e⟩:=I1.qQ hl;refine call_enumerate_1 e fun h' he hi gJ k=>?_;have lF:s1.heap.objs.size+1≠s1.heap.objs.size:=Nat.succ_ne_self _;refine uP he ?_;have I2:aO X ae σ H1 { s1 with heap:=h' }:=I1.kept (t':=s1.toks) k;refine⟨s1.heap.objs.size+1,[s1.heap.objs.size+1,s1.heap.objs.size],_,_,H1,rfl,I2,Dr l _ _ lF,⟨⟨_,he⟩,hi⟩,fun b hb=>?_,q⟩;have sM:s1.heap.objs.size<=b:=by
  rcases bg.mp hb with rfl|hb
  .exact qD _
  .rw[bL.mp hb];exact aN _
 exact I1.wK sM (I1.bZ.fresh sM)
theorem Fs{K:PySem.W.Frag}{a:Addr}{xs:List V}{g:TG}{tb:TS}{D:wG}{σ:St}{H:Hp}(Pv:Nat->St->Hp->Prop)(h0:Pv 0 σ H)(hl:∀i σ H,i<=xs.length->Pv i σ H->aZ K H a xs)(hs:∀i x p σ H,xs[i]?=some x->Pv i σ H->H p=none->g (.ref p) σ (upd H p (.tup [.int i,x])) fun σ2 H2=>tb { D with nx:=Pv (i+1),ct:=Pv (i+1),bk:=D.nx } σ2 H2)(hd:∀σ H,Pv xs.length σ H->D.nx σ H):
  ∃W:Nat->Nat->St->Hp->Prop,(∃m,W 0 m σ H)/\∀i m σ H,W i m σ H->
   ((Qp K a).stop i H/\D.nx σ H)\/((Qp K a).go i H/\∃N:St->Hp->Prop,(∀σ' H',N σ' H'->∃m',m'<m/\W (i+1) m' σ' H')/\∀x H',(Qp K a).LB i H x H'->g x σ H' fun σ2 H2=>tb { D with nx:=N,ct:=N,bk:=D.nx } σ2 H2):=by
 refine⟨fun i m σ H=>m=xs.length-i/\i<=xs.length/\Pv i σ H,⟨xs.length,by simp,bT _,h0⟩,?_⟩;rintro i m σ H ⟨rfl,hi,p⟩;have q:=hl i σ H hi p;by_cases dG:i<xs.length
 .refine .inr ⟨⟨xs,xs[i],q,by simp[dG]⟩,Pv (i+1),fun σ' H' p'=>⟨xs.length-(i+1),by lia,rfl,dG,p'⟩,fun x H' y=>?_⟩;obtain⟨pp,v,rfl,hn,rfl,hv⟩:=y;exact hs i v pp σ _ (hv xs q) p hn
 .have e:i=xs.length:=by lia
  subst e;exact .inl ⟨⟨xs,q,aN _⟩,hd σ H p⟩
end
section
variable {prog:Program} {w:World} {A:Around} {E:Value->Shared->Prop} {s:Shared}
theorem An(wu:s.heap.IsTupleIter it t i)(ht:s.heap.IsTuple t xs)(hx:xs[i]?=some x)(q:∀h',h'.IsTupleIter it t (i+1)->Heap.SameBut it s.heap h'->Q x { s with heap:=h' }):wpAny (model prog w) A (Builtin.SmallTypes.nextOf (.ref it)) Q E s:=by
 obtain⟨o,h1,h2,h3⟩:=id wu;obtain⟨p,k1,_,n,k3⟩:=ht;unfold Builtin.SmallTypes.nextOf;refine aA (qd (name:=Str.ofString "__next__") wu.typeIs F.slot_tuple_iterator_next (nr F.slot_tuple_iterator_next wu.typeIs F.entry_tuple_iterator_next ?_ (F.args_tuple_iterator_next_1 _)));change wpAny _ _ (field (.ref it) 0 >>= _) _ _ s;refine aA (g8 h1 h3 (x:=.ref t) rfl ?_);change wpAny _ _ (if (Value.ref t==Value.none)=true then _ else _) _ _ s;rw[au (by exact cr)];change wpAny _ _ (field (.ref it) 1 >>= _) _ _ s;refine aA (g8 h1 h3 (x:=.int i 0) rfl ?_);change wpAny _ _ (seqItems? (.ref t) >>= _) _ _ s;refine aA (lq k1 k3 ?_);simp only[f_,hx];refine aA (wpAny_setField h1 h3 (by simp) (wpAny_pure ⟨x,rfl,wpAny_pure (q _ ?_ (m9 ..))⟩));refine⟨_,k8 _ h1 (Obj.isFreed_of_fields (Obj.data_mapFields h3 _)),(Obj.cls_mapFields ..).trans h2,?_⟩;rw[Obj.data_mapFields h3];simp[rawInt]
theorem t_(hh:A.handled=none)(wu:s.heap.IsTupleIter it t i)(ht:s.heap.IsTuple t xs)(hx:xs[i]?=none)(q:∀h' e,Heap.ExtBut it s.heap h'->(∃o,h'.get? e=some o/\o.cls=.type "StopIteration")->E (.ref e) { s with heap:=h' }):wpAny (model prog w) A (Builtin.SmallTypes.nextOf (.ref it)) Q E s:=by
 obtain⟨o,h1,h2,h3⟩:=id wu;obtain⟨p,k1,_,n,k3⟩:=ht;unfold Builtin.SmallTypes.nextOf;refine aA (qd (name:=Str.ofString "__next__") wu.typeIs F.slot_tuple_iterator_next (nr F.slot_tuple_iterator_next wu.typeIs F.entry_tuple_iterator_next ?_ (F.args_tuple_iterator_next_1 _)));change wpAny _ _ (field (.ref it) 0 >>= _) _ _ s;refine aA (g8 h1 h3 (x:=.ref t) rfl ?_);change wpAny _ _ (if (Value.ref t==Value.none)=true then _ else _) _ _ s;rw[au (by exact cr)];change wpAny _ _ (field (.ref it) 1 >>= _) _ _ s;refine aA (g8 h1 h3 (x:=.int i 0) rfl ?_);change wpAny _ _ (seqItems? (.ref t) >>= _) _ _ s;refine aA (lq k1 k3 ?_);simp only[f_,hx];refine aA (fN (aA (wpAny_setField h1 h3 (by simp) ?stop)));case stop=>
  change wpAny _ _ (newExc (.type "StopIteration") [] >>= _) _ _ _;refine aA ?_;simp only[newExc,newTuple];refine aA (uQ (aA (m:=firstArgMember _ _) (wpAny_of_eq (a:=Value.none) (by simp only[firstArgMember];rfl) (uQ ?_ (by size_fits)))) (by size_fits));simp only[raiseNew];refine aA (wpAny_handled ?_);rw[show A.in1.handled=none from hh];exact aA (wpAny_pure (wpAny_throw (q _ _ (fun b u hb z=>cB _ (cB _ ((k4 _ _ (cZ hb)).trans z))) ⟨_,cX _ rfl,rfl⟩)))
theorem xr(hh:A.handled=none)(it t:Addr)(lF:t≠it)(xs:Array Value):Draws prog w A it [it,t] xs.size (fun i v=>xs[i]?=some v) (fun i h=>h.IsTupleIter it t i/\h.IsTuple t xs) where
 live:=fun _ _ st=>let ⟨o,ho,_⟩:=st.1;⟨o,ho⟩
 frame:=fun _ _ _ st hk=>⟨st.1.at fun o e=>hk it (by simp) o e,let ⟨o,e,r⟩:=st.2;⟨o,hk t (by simp) o e,r⟩⟩
 item:=fun i s Q E hi st q=>by
  refine An st.1 st.2 (x:=xs[i]) (by simp[hi]) fun h' a b=>?_;obtain⟨o,e,r⟩:=st.2;exact q _ h' s.toks (by simp[hi]) ⟨a,o,(b.2 t lF).trans e,r⟩ b
 done:=fun s Q E st q=>t_ hh st.1 st.2 (by simp) q
end
theorem Ds(t:Addr)(xs:Array Value):
  Meets (Builtin.«enumerate.__new__» ⟨[.type "enumerate",.ref t],[]⟩) (fun _ R s=>s.heap.IsTuple t xs/\
   R (.ok (.ret (.ref (s.heap.push { cls:=.type "tuple_iterator",data:=.fields #[.ref t,.int 0 0] }).objs.size)))
    { s with heap:=(s.heap.push { cls:=.type "tuple_iterator",data:=.fields #[.ref t,.int 0 0] }).push { cls:=.type "enumerate",data:=.fields #[.none,.bool false,.ref s.heap.objs.size,rawInt 0,.none,.none] } }):=
 .of_wp fun prog w A R s h=>by
  obtain⟨hp,g,d,tk,os⟩:=s;obtain⟨hT,h⟩:=h;have hs:=sub_enumerate
  wp_walk
  refine wpAny_stack_any fun st=>wpAny_pure ?_;split
  .rename_i c _ _ _ _ _;cases (c==Value.type "enumerate") <;> (wp_walk using zx hT;exact⟨_,rfl,h⟩)
  .wp_walk using zx hT
   exact⟨_,rfl,h⟩
theorem Ao(ht:s.heap.IsTuple t xs)(h:∀h',IsEnum h' (s.heap.objs.size+1) s.heap.objs.size 0 .none->h'.IsTupleIter s.heap.objs.size t 0->(∀b o,s.heap.get? b=some o->h'.get? b=some o)->Q (.ref (s.heap.objs.size+1)) { s with heap:=h' }):
  wpAny (model prog w) A (call (.type "enumerate") [.ref t]) Q E s:=by
 refine callType_new F.called_enumerate (by decide) (F.typeCall_enumerate_1 _) (F.newCall_enumerate_1 _) (fun obj=>F.args_object_init_2 obj _) F.entry_enumerate_new (Ds t xs) ⟨ht,?_⟩;have hz:(s.heap.push { cls:=.type "tuple_iterator",data:=.fields #[.ref t,.int 0 0] }).objs.size=s.heap.objs.size+1:=gY ..;have he:IsEnum ((s.heap.push { cls:=.type "tuple_iterator",data:=.fields #[.ref t,.int 0 0] }).push
   { cls:=.type "enumerate",data:=.fields #[.none,.bool false,.ref s.heap.objs.size,rawInt 0,.none,.none] }) (s.heap.objs.size+1) s.heap.objs.size 0 .none:=by
  have q:=cX (s.heap.push { cls:=.type "tuple_iterator",data:=.fields #[.ref t,.int 0 0] }) (o:={ cls:=.type "enumerate",data:=.fields #[.none,.bool false,.ref s.heap.objs.size,rawInt 0,.none,.none] }) rfl;rw[hz] at q;exact q
 show _/\_;rw[hz];exact⟨⟨_,he,rfl⟩,h _ he ⟨_,cB _ (cX _ rfl),rfl,rfl⟩ fun b o x=>cB _ (cB _ x)⟩
def Dt(K:PySem.W.Frag)(a:Addr):It:=
 ⟨fun i H=>∃xs x,c_ K H a xs/\xs[i]?=some x,fun i H x H'=>∃p v,x=.ref p/\H p=none/\H'=upd H p (.tup [.int i,v])/\∀xs,c_ K H a xs->xs[i]?=some v,fun i H=>∃xs,c_ K H a xs/\xs.length<=i⟩
theorem Ap{P:Program}{w:World}{K:PySem.W.Frag}{es:List Expr}{x1:Nat}{pos:Pos}(a e it:Addr)(lF:e≠it)(hae:a≠e)(hai:a≠it):
  wL P w K (.Tuple es x1 pos) (Dt K a) [e,it] e (fun i h=>(∃eZ,IsEnum h e it (i:Int) eZ)/\h.IsTupleIter it a i) where
 mem:=by simp
 obj:=fun i h st b hb=>by
  obtain⟨⟨eZ,he⟩,⟨o,q,c,d⟩⟩:=st;rcases bg.mp hb with rfl|hb
  .exact⟨_,he,fun v z=>by
    have z':Data.fields _=Data.cell v:=z;cases z'⟩
  .rw[bL.mp hb];exact⟨o,q,fun v z=>by rw[d] at z;cases z⟩
 keep:=fun i h h' st k=>by
  obtain⟨⟨eZ,he⟩,hi⟩:=st;exact⟨⟨eZ,k e (by simp) _ he⟩,hi.at fun o q=>k it (by simp) o q⟩
 item:=by
  intro X hP hw hK hc i ae s σ H E I hf st hg;subst hP hw hK;obtain⟨xs,x,hq,hx⟩:=hg;obtain⟨its,rv,p,hz⟩:=I.tuple hq;obtain⟨u,hu,ru⟩:=rv.get hx;obtain⟨⟨eZ,he⟩,hi⟩:=st;have dG:i<its.toArray.size:=by
   have:=(cJ.mp hu).1;simpa using this
  have D:=xr (prog:=X.prog) (w:=X.w) (A:=X.A.in1) (I.ok.hd hc) it a hai its.toArray;refine wpAny_pyNext_enum_itemD D he ⟨hi,p⟩ dG lF (by simp[lF,hae.symm]) fun u' h' tk pc ho mQ ht gJ k=>?_;have eu:u'=u:=by
   have h1:its.toArray[i]?=some u:=by simpa using hu
   rw[h1] at pc;exact(bN pc).symm
  subst eu;refine⟨_,rfl,wpAny_letOwnedTupleGo_enum ho fun h2 KA lB=>?_⟩;have Qq:s.heap.objs.size≠e:=fG (aS he);have Ab:h2.IsTupleIter it a (i+1):=mQ.1.at fun o q=>(lB.2 it lF.symm).trans q;have fe:=hf e (by simp);have fi:=hf it (by simp);have I2:aO X ae σ (upd H s.heap.objs.size (.tup [.int i,x])) { s with heap:=h2,toks:=tk+1 }:=by
   refine I.BQ (its:=[.int i tk,u']) fe fi (fun b o h1 h3 q=>(lB.2 b h1).trans (k b o h1 h3 q)) ⟨_,KA⟩ ?_ (aN _) (by show 2<=sizeLine;decide) (.cons ⟨_,rfl⟩ (.cons ru .nil)) ((lB.2 _ Qq).trans ht);obtain⟨o,q,_⟩:=Ab;exact⟨o,q⟩
  refine⟨.ref s.heap.objs.size,_,I2,rfl,⟨_,x,rfl,I.bZ.fresh (aN _),rfl,fun ys hy=>by rw[I.iS hy hq];exact hx⟩,⟨⟨u',KA⟩,Ab⟩,fun b hb=>?_⟩;have f0:=(hf b hb).1;rw[am]
  .exact f0
  .rcases bg.mp hb with rfl|hb
   .exact Qq.symm
   .rw[bL.mp hb];obtain⟨o,q,_⟩:=hi;exact aQ (aS q)
 done:=by
  intro X hP hw hK hc i ae s σ H E I hf st hg;subst hP hw hK;obtain⟨xs,hq,hx⟩:=hg;obtain⟨its,rv,p,hz⟩:=I.tuple hq;obtain⟨f0,f1,f2,f3,f4,f5⟩:=hf it (by simp);obtain⟨⟨eZ,he⟩,hi⟩:=st;have hl:=rv.length;unfold pyNext;have hT:s.TypeIs (.ref e) "enumerate":=⟨_,he,rfl⟩
  refine aA (nA (qd (name:=Str.ofString "__next__") hT F.slot_enumerate_next (nr F.slot_enumerate_next hT F.entry_enumerate_next ?_ (F.args_enumerate_next_1 _))));change wpAny _ _ (field (.ref e) 2 >>= _) _ _ _;refine aA (g8 he rfl (x:=.ref it) rfl (aA (t_ (I.ok.hd hc) hi p (by simp;lia) fun h' x eb o5=>?_)));obtain⟨o,ho,Eg⟩:=o5;exact aA (wpAny_isInstance (T:="StopIteration") (b:=true) ⟨o,ho,Eg⟩ isSubtype_stop (wpAny_pure ⟨rfl,I.turned (t':=s.toks) (fun b o hb e=>eb b o hb e) f0 f1 f3 f4 f5⟩))
 self:=fun _ _ _ _ _ st h=>by
  obtain⟨⟨eZ,he⟩,_⟩:=st;exact uP he h
section
variable {X:Cx}
def Me(K:PySem.W.Frag)(ta:TA):TI:=fun σ H R=>ta σ H fun vs H1=>∃a xs,vs=[.ref a]/\c_ K H1 a xs/\R (Dt K a) H1
theorem xt(hg:Gl X "enumerate")(hm:X.mg "enumerate"=none)(ha:PA X [a] ta)(hs:starEach [a] X.env=[(false,eval a X.env)]:=by rfl):
  PI X (.Tuple es x1 LK) (.Call (.Name "enumerate" p) [a] [] pos) (Me X.K ta):=by
 intro ae s σ H R I h;refine Call_ (iE I hg hm (by decide +kernel:bootBuiltins "enumerate"=some (.type "enumerate")) (tm (dq (ha pos ae s σ H _ I h) fun us s1 ⟨vs,H1,I1,r1,q1⟩=>?_) hs rfl));obtain⟨l,xs,rfl,hl,q⟩:=q1;obtain⟨u1,rfl,Qs⟩:=r1.one;obtain rfl:u1=Value.ref l:=Qs;obtain⟨its,rv,pt,hz⟩:=I1.tuple hl;have dG:l<s1.heap.objs.size:=by obtain⟨o,e,_⟩:=pt;exact aS e
 refine Ao (show s1.heap.IsTuple l its.toArray from pt) fun h' he hi k=>?_;have lF:s1.heap.objs.size+1≠s1.heap.objs.size:=Nat.succ_ne_self _;refine uP he ?_;have I2:aO X ae σ H1 { s1 with heap:=h' }:=I1.kept (t':=s1.toks) k;refine⟨s1.heap.objs.size+1,[s1.heap.objs.size+1,s1.heap.objs.size],_,_,H1,rfl,I2,Ap l _ _ lF (aQ (eI dG)) (aQ dG),⟨⟨_,he⟩,hi⟩,fun b hb=>?_,q⟩;have sM:s1.heap.objs.size<=b:=by
  rcases bg.mp hb with rfl|hb
  .exact qD _
  .rw[bL.mp hb];exact aN _
 exact I1.wK sM (I1.bZ.fresh sM)
theorem Du{K:PySem.W.Frag}{a:Addr}{xs:List V}{g:TG}{tb:TS}{D:wG}{σ:St}{H:Hp}(Pv:Nat->St->Hp->Prop)(h0:Pv 0 σ H)(hl:∀i σ H,i<=xs.length->Pv i σ H->c_ K H a xs)(hs:∀i x p σ H,xs[i]?=some x->Pv i σ H->H p=none->g (.ref p) σ (upd H p (.tup [.int i,x])) fun σ2 H2=>tb { D with nx:=Pv (i+1),ct:=Pv (i+1),bk:=D.nx } σ2 H2)(hd:∀σ H,Pv xs.length σ H->D.nx σ H):
  ∃W:Nat->Nat->St->Hp->Prop,(∃m,W 0 m σ H)/\∀i m σ H,W i m σ H->
   ((Dt K a).stop i H/\D.nx σ H)\/((Dt K a).go i H/\∃N:St->Hp->Prop,(∀σ' H',N σ' H'->∃m',m'<m/\W (i+1) m' σ' H')/\∀x H',(Dt K a).LB i H x H'->g x σ H' fun σ2 H2=>tb { D with nx:=N,ct:=N,bk:=D.nx } σ2 H2):=by
 refine⟨fun i m σ H=>m=xs.length-i/\i<=xs.length/\Pv i σ H,⟨xs.length,by simp,bT _,h0⟩,?_⟩;rintro i m σ H ⟨rfl,hi,p⟩;have q:=hl i σ H hi p;by_cases dG:i<xs.length
 .refine .inr ⟨⟨xs,xs[i],q,by simp[dG]⟩,Pv (i+1),fun σ' H' p'=>⟨xs.length-(i+1),by lia,rfl,dG,p'⟩,fun x H' y=>?_⟩;obtain⟨pp,v,rfl,hn,rfl,hv⟩:=y;exact hs i v pp σ _ (hv xs q) p hn
 .have e:i=xs.length:=by lia
  subst e;exact .inl ⟨⟨xs,q,aN _⟩,hd σ H p⟩
theorem Aq{K:PySem.W.Frag}{a D:Addr}{xs:List V}{g:TG}{tt:TT}{te:TE}{fin:Hp->Prop}{σB:St}{H0:Hp}(Pv:Nat->List V->St->Hp->Prop)(h0:Pv 0 [] σB H0)(hl:∀i ys σ H,i<=xs.length->Pv i ys σ H->c_ K H a xs)(hs:∀i x p ys σ H (Kt:V->St->Hp->Prop) (Kf:St->Hp->Prop),xs[i]?=some x->Pv i ys σ H->H p=none->
   (∀v σ2 H4,H4 D=some (.lst ys)->ys.length<sizeLine->Pv (i+1) (ys++[v]) σ2 (upd H4 D (.lst (ys++[v])))->Kt v σ2 H4)->(∀σ2 H3,Pv (i+1) ys σ2 H3->Kf σ2 H3)->
   g (.ref p) σ (upd H p (.tup [.int i,x])) fun σ2 H2=>tt σ2 H2 fun b H3=>if b=true then te σ2 H3 fun v H4=>Kt v σ2 H4 else Kf σ2 H3)(hd:∀ys σ H,Pv xs.length ys σ H->fin H):gC (Dt K a) g tt te D fin σB H0:=by
 refine⟨fun i m σ H=>m=xs.length-i/\i<=xs.length/\∃ys,Pv i ys σ H,⟨xs.length,by simp,bT _,[],h0⟩,?_⟩;rintro i m σ H ⟨rfl,hi,ys,p⟩;have q:=hl i ys σ H hi p;by_cases dG:i<xs.length
 .refine .inr ⟨⟨xs,xs[i],q,by simp[dG]⟩,?_⟩;rintro x H' ⟨pp,v,rfl,hn,rfl,hv⟩;exact hs i v pp ys σ _ (fun v σ2 H4=>∃ys,H4 D=some (.lst ys)/\ys.length<sizeLine/\∃m',m'<xs.length-i/\m'=xs.length-(i+1)/\i+1<=xs.length/\∃sO,Pv (i+1) sO σ2 (upd H4 D (.lst (ys++[v]))))
   (fun σ2 H3=>∃m',m'<xs.length-i/\m'=xs.length-(i+1)/\i+1<=xs.length/\∃sO,Pv (i+1) sO σ2 H3) (hv xs q) p hn
   (fun v σ2 H4 z1 z2 z3=>⟨ys,z1,z2,_,by lia,rfl,dG,_,z3⟩) (fun σ2 H3 z=>⟨_,by lia,rfl,dG,_,z⟩)
 .have e:i=xs.length:=by lia
  subst e;exact .inl ⟨⟨xs,q,aN _⟩,hd ys σ H p⟩
end
section
variable {X:Cx} {tg:Expr}
end
theorem vE:typeLookup (.type "list") "keys"=pure none:=by rw[uW,uH];kernel_rfl
theorem pf:typeLookup (.type "list") "__getattr__"=pure none:=by rw[uW,uH];kernel_rfl
theorem q8(l:Addr)(u:Tok)(items:Array Value)(n:Nat):
  Meets (Builtin.«object.__getattribute__» ⟨[.ref l,.str "keys" u],[]⟩) (fun A R s=>s.heap.get? l=some { cls:=.type "list",data:=.seq items n }/\raisesAttr (.ref l) "keys" A R s):=
 Meets.of_wp fun prog w A R s hs=>by
  obtain⟨hp,g,d,tk,os⟩:=s;obtain⟨hl,hs⟩:=hs;have hT:(⟨hp,g,d,tk,os⟩:Shared).TypeIs (.ref l) "list":=⟨_,hl,rfl⟩
  have f1:=vE;unfold Builtin.«object.__getattribute__»;repeat (any_goals (first|assumption|wp_step))
  exact wpAny_raiseAttrError hs.1 hs.2 (attrMsg_fits (by decide +kernel) (by decide +kernel))
theorem Mf(hA:A.handled=none)(hl:s.heap.get? l=some { cls:=.type "list",data:=.seq items n })(h:∀h' tk,(∀b o,s.heap.get? b=some o->h'.get? b=some o)->Q none { s with heap:=h',toks:=tk }):wpAny (model prog w) A (getAttr? (.ref l) "keys") Q E s:=by
 obtain⟨hp,g,d,tk,os⟩:=s;have hT:∀tk,(⟨hp,g,d,tk,os⟩:Shared).TypeIs (.ref l) "list":=fun _=>⟨_,hl,rfl⟩
 have f1:=sub_AttributeError;have f3:=F.slot_list_getattribute.lookup;have f4:=F.slot_list_getattribute.bind (.ref l);have f5:=pf;unfold getAttr? getAttrBy?;refine aA (wpAny_mkText ?_);refine aA (nA ?_);unfold getAttrBy;repeat (any_goals (first|assumption|((with_reducible show wpAny _ _ (call (Value.builtin "list.__getattribute__") _ _) _ _ _);refine jP F.slot_list_getattribute (hT _) F.entry_list_ga (F.args_list_getattribute_2 _ _) (q8 l _ items n) ⟨hl,hA,fun h' tk' e hx=>?_⟩)|wp_step))
 obtain⟨t',u',he⟩:=hx.there;show wpAny _ _ (getattributeRaised _ _ _ _ _ _ _) _ _ _;unfold getattributeRaised;repeat (any_goals (first|assumption|wp_step))
 exact h _ _ hx.keeps
theorem oJ:entryFor table "dict.update.loop"=some Builtin.«dict.update.loop»:=entryFor_of_tree (by kernel_rfl)
theorem iw:plainId "dict.update.loop"=true:=by decide +kernel
section
variable {prog:Program} {w:World} {A:Around} {E:Value->Shared->Prop} {s:Shared} {R:Result->Shared->Prop} {l d Ia:Addr}
end
section
variable {prog:Program} {w:World} {A:Around} {E:Value->Shared->Prop} {s:Shared} {l:Addr}
end
section
variable {X:Cx}
theorem Dv(hc:X.calm=true):eK X (.builtin "all") (fun xs H Q=>∃ (p:Addr) (bs:List Bool),xs=[.ref p]/\aZ X.K H p (bs.map V.bl)/\Q (.bl (bs.all id)) H):=by
 intro ae s σ H xs us Q I r h;obtain⟨p,bs,rfl,hp,q⟩:=h;obtain⟨u1,rfl,r1⟩:=r.one;obtain rfl:u1=Value.ref p:=r1;obtain⟨its,rv,pl,hz⟩:=I.list hp;have Aj:its=bs.map Value.bool:=by
  have go:∀ (bs:List Bool) (its:List Value),aT (bs.map V.bl) its->its=bs.map Value.bool:=by
   intro bs;induction bs with
   |nil=>intro its r;cases r;rfl
   |cons b bs ih=>
    intro its r;cases r with
    |cons r rr=>
     obtain rfl:=(show _=Value.bool b from r)
     rw[ih _ rr];rfl
  exact go bs its rv
 subst Aj;obtain⟨ob,Vi,_⟩:=id pl.isList;have dG:p<s.heap.objs.size:=aS Vi;refine call_all_walk (qp pl.isList ⟨s.heap.objs.size,_,_,_,_,_,fun i=>bs.getD i true,rfl,Walks.list (show X.A.in1.handled=none from I.ok.hd hc) _ p (aQ dG) _,⟨⟨_,cX _ rfl,rfl,rfl⟩,pl.isList.push _⟩,fun i v s1 Q' E' hv hq=>?_,fun h' tk k=>?_⟩)
 .have CZ:(bs.map Value.bool)[i]?=some v:=by simpa using hv
  rw[bV] at CZ;cases eb:bs[i]? with
  |none=>rw[eb] at CZ;cases CZ
  |some b=>
   rw[eb] at CZ;obtain rfl:Value.bool b=v:=bN CZ;have:bs.getD i true=b:=by rw[b_,eb];rfl
   have ER:Q' b s1:=by rw[<-this];exact hq
   exact wpAny_pure ER
 .have keep:∀b o,s.heap.get? b=some o->h'.get? b=some o:=fun b o e=>k b o (by simpa using aQ (aS e)) (cB _ e);refine⟨.bl (bs.all id),H,I.kept (t':=tk) keep,?_,q⟩;show Value.bool _=Value.bool _;congr 1;have go:∀ (bs:List Bool),((List.range bs.length).all fun i=>bs.getD i true)=bs.all id:=by
   intro bs;induction bs with
   |nil=>rfl
   |cons b bs ih=>
    rw[dS,mU,jM,List.all_map,jM,<-ih];rfl
  rw[<-go bs];simp
end
structure dI(P:Program)(w:World)(K:PySem.W.Frag)(mg:Str->Option Value)(base:Heap)(CX:yx)(k:Nat)(x:Str)(ps:List Str)(sp:Sp):Prop where
 ex:∃f fd,mg x=some (.ref f)/\PySem.W.keepIn K (.ref f)=true/\jv K fd ps []/\bD P w K mg base CX k f fd ps sp
theorem aI(C:dI X.prog X.w X.K X.mg X.base CX k x ps sp)(hr:cj k X.A)(hx:lC CX X E)(ha:PA X (e::es) t)(hg:Gl X x:=by rfl)(C2:(x==("__debug__":Str))=false:=by decide)(he:starEach (e::es) X.env=(false,eval e X.env)::starEach es X.env:=by rfl)(Ed:(backTo pos (starEach es X.env)).any (·.1)=false:=by rfl):
  PE X (.Call (.Name x p) (e::es) [] pos) (oz sp [] E t):=by
 obtain⟨f,fd,a,b,c,d⟩:=C.ex;exact HS d hr hg a b c .nil hx ha C2 he Ed
theorem ai(h:H D=none):aK H (upd H D o):=fun b u e=>by rw[am (ak e h)];exact e
def aL(p:Addr)(H H':Hp):Prop:=∀b o,H b=some o->b≠p->H' b=some o
theorem aL.trans(a:aL p H H1)(b:aL p H1 H2):aL p H H2:=fun c o h n=>b c o (a c o h n) n
theorem aL.upd:aL p H (upd H p o):=fun b u h n=>by rw[am n];exact h
theorem aL.of(s:aK H H'):aL p H H':=fun b o h _=>s b o h
theorem aL.free(s:aL p H H')(hp:H' p≠none)(h:H' q=none):H q=none:=by
 cases z:H q with
 |none=>rfl
 |some o=>
  by_cases e:q=p
  .subst e;exact absurd h hp
  .rw[s q o z e] at h;cases h
theorem eQ(h:j<n):ET n (j:Int)=some j:=by
 unfold ET;rw[av (by lia),av (by lia)];simp
theorem Dw(h:as.length=n):(as++[t]).getD j 0=if j=n then t else as.getD j 0:=by
 rw[b_,b_];by_cases hj:j=n
 .subst hj;subst h;rw[av rfl,kO (aN _),qy];rfl
 .rw[au hj];by_cases dG:j<as.length
  .rw[gW dG]
  .rw[kO (by lia),fX (by simp;lia),fX (by lia)]
def Holds(H:Hp)(as:List Addr)(n:Nat)(o:Nat->HO):Prop:=as.length=n/\∀j,j<n->H (as.getD j 0)=some (o j)
theorem Holds.nil:Holds H [] 0 o:=⟨rfl,fun j hj=>absurd hj (by lia)⟩
theorem Holds.snoc(h:Holds H as n o)(ht:H t=some (o n)):Holds H (as++[t]) (n+1) o:=by
 refine⟨by rw[cp,h.1];rfl,fun j hj=>?_⟩;rw[Dw h.1];by_cases e:j=n
 .rw[av e,e];exact ht
 .rw[au e];exact h.2 j (by lia)
theorem Holds.mono(h:Holds H as n o)(e:∀j,j<n->H (as.getD j 0)=some (o j)->H' (as.getD j 0)=some (o j)):Holds H' as n o:=⟨h.1,fun j hj=>e j hj (h.2 j hj)⟩
end L2
namespace PyProof.Rows
open PySem
def eR:Bool->Keyed->Array Keyed->Nat->Nat->Nat->StateT SortSt Sem (Option Nat):=sortPriv% PySem.Builtin.gallop
def q9:Array Keyed->Array Keyed->StateT SortSt Sem (Array Keyed):=sortPriv% PySem.Builtin.mergeLo
def q_:Array Keyed->Array Keyed->StateT SortSt Sem (Array Keyed):=sortPriv% PySem.Builtin.mergeHi
def dw:Nat->StateT SortSt Sem Unit:=sortPriv% PySem.Builtin.setMinGallop
def oM(prog:Program)(w:World)(A:Around)(s:Shared)(κ:SortKind)(a₀:Array Keyed)(key:Keyed->Int):Prop:=
 ∀x y,x∈a₀.toList->y∈a₀.toList->∀ (Q:Bool->Shared->Prop) (E:Value->Shared->Prop),Q (decide (key x<key y)) s->wpAny (model prog w) A (keyLt' κ x.1 y.1) Q E s
structure SQ(κ:SortKind)(a₀:Array Keyed)(pd:Array (Nat×Nat×Nat))(st:SortSt):Prop where
 perm:(arrOf st).Perm a₀
 kind:kindOf st=κ
 failed:failedOf st=none
 pend:pendingOf st=pd
def kk(key:Keyed->Int)(a:Array Keyed)(i:Nat):Int:=(a[i]?.map key).getD 0
def So(key:Keyed->Int)(a:Array Keyed)(lo hi:Nat):Prop:=∀i j,lo<=i->i<=j->j<hi->kk key a i<=kk key a j
def lS(a b:Array Keyed)(lo hi:Nat):Prop:=∀k,k<lo\/hi<=k->b[k]?=a[k]?
theorem lS.refl{a:Array Keyed}{lo hi:Nat}:lS a a lo hi:=fun _ _=>rfl
theorem lS.trans{a b c:Array Keyed}{lo hi:Nat}(x:lS a b lo hi)(y:lS b c lo hi):lS a c lo hi:=fun k h=>(y k h).trans (x k h)
theorem lS.wide{a b:Array Keyed}{lo hi Zb kC:Nat}(x:lS a b lo hi)(h1:Zb<=lo)(h2:hi<=kC):lS a b Zb kC:=fun k h=>x k (by lia)
theorem cg(h:i<a.size):kk key a i=key a[i]:=by unfold kk;rw[dB a i h];rfl
theorem eM(h:a[i]?=b[j]?):kk key a i=kk key b j:=by unfold kk;rw[h]
section
variable {prog:Program} {w:World} {A:Around} {E:Value->Shared->Prop} {s:Shared} {κ:SortKind} {a₀:Array Keyed} {pd:Array (Nat×Nat×Nat)} {key:Keyed->Int}
theorem SQ.size{st:SortSt}(h:SQ κ a₀ pd st):(arrOf st).size=a₀.size:=h.perm.size_eq
theorem SQ.setArr{st:SortSt}(h:SQ κ a₀ pd st){xs:Array Keyed}(hp:xs.Perm (arrOf st)):SQ κ a₀ pd (setArr st xs):=⟨hp.trans h.perm,h.kind,h.failed,h.pend⟩
theorem SQ.at{st:SortSt}(h:SQ κ a₀ pd st){i:Nat}(hi:i<a₀.size):∃p,(arrOf st)[i]?=some p/\p∈a₀.toList:=by
 have kC:i<(arrOf st).size:=by rw[h.size];exact hi
 exact⟨(arrOf st)[i],dB _ i kC,(jC.mp h.perm).mem_iff.mp (by simp)⟩
theorem rc{st:SortSt}{x y:Keyed}{Q:Option Bool->SortSt->Prop}(hC:oM prog w A s κ a₀ key)(hk:kindOf st=κ)(hx:x∈a₀.toList)(hy:y∈a₀.toList)(h:Q (some (decide (key x<key y))) st):wpS (model prog w) A E s (lt' x y) Q st:=by
 rw[lt'_eq];refine aJ (eG ?_);rw[hk];refine aJ (jc (nA (hC x y hx hy _ _ ⟨rfl,?_⟩)));exact aF h
theorem bo{st:SortSt}{arr:Array Keyed}{i:Nat}{p:Keyed}{Q:Keyed->SortSt->Prop}(hi:arr[i]?=some p)(h:Q p st):wpS (model prog w) A E s (elem' arr i) Q st:=by
 rw[elem'_eq,hi];exact aF h
theorem fV{st:SortSt}{i j:Nat}{Q:Option Bool->SortSt->Prop}(hC:oM prog w A s κ a₀ key)(hB:SQ κ a₀ pd st)(hi:i<a₀.size)(hj:j<a₀.size)(h:∀b,b=decide (kk key (arrOf st) i<kk key (arrOf st) j)->Q (some b) st):wpS (model prog w) A E s (ltAt' i j) Q st:=by
 obtain⟨p,e1,m1⟩:=hB.at hi;obtain⟨q,e2,m2⟩:=hB.at hj;rw[ltAt'_eq];refine aJ (eG ?_);refine aJ (bo e1 (aJ (bo e2 (rc hC hB.kind m1 m2 (h _ ?_)))));unfold kk;rw[e1,e2];rfl
theorem ix{st:SortSt}{i j:Nat}{Q:Unit->SortSt->Prop}(hB:SQ κ a₀ pd st)(hj:j<=a₀.size)(h:∀aD,SQ κ a₀ pd aD->(∀k,(arrOf aD)[k]?=if i<=k/\k<j then (arrOf st)[i+j-1-k]? else (arrOf st)[k]?)->Q () aD):wpS (model prog w) A E s (reverseSlice' i j) Q st:=by
 rw[reverseSlice'_eq];exact eS (h _ (hB.setArr (mirror_perm _ _ _ _)) (getElem?_mirror_all (by rw[hB.size];exact hj)))
theorem xu{st:SortSt}{i j:Nat}{Q:Unit->SortSt->Prop}(hB:SQ κ a₀ pd st)(hi:i<a₀.size)(hj:j<=i)(h:∀aD,SQ κ a₀ pd aD->(∀k,(arrOf aD)[k]?=if k=j then (arrOf st)[i]? else if j<k/\k<=i then (arrOf st)[k-1]? else (arrOf st)[k]?)->Q () aD):wpS (model prog w) A E s (moveDown' i j) Q st:=by
 rw[moveDown'_eq];refine eS (h _ (hB.setArr (bubble_perm _ _ _)) fun k=>?_);have:=getElem?_bubble (xs:=arrOf st) (src:=i) (by rw[hB.size];exact hi) (i-j) (by lia) k;rw[show i-(i-j)=j by lia] at this;exact this
theorem Io{st:SortSt}{lo n ok:Nat}{Q:Bool->SortSt->Prop}(hC:oM prog w A s κ a₀ key)(hn:lo+n<=a₀.size)(bZ:ok<=n)(hB:SQ κ a₀ pd st)(hs:So key (arrOf st) lo (lo+ok))(h:∀aD,SQ κ a₀ pd aD->So key (arrOf aD) lo (lo+n)->lS (arrOf st) (arrOf aD) lo (lo+n)->Q true aD):wpS (model prog w) A E s (binarySort' lo n ok) Q st:=by
 rw[binarySort'_eq];refine aJ (dO (dW (I:=fun k c aD=>c=(none,())/\SQ κ a₀ pd aD/\So key (arrOf aD) lo (lo+k)/\lS (arrOf st) (arrOf aD) lo (lo+n)) (Q:=fun c aD=>c=(none,())/\SQ κ a₀ pd aD/\So key (arrOf aD) lo (lo+n)/\lS (arrOf st) (arrOf aD) lo (lo+n)) ?_ (fun c aD hh=>⟨hh.1,hh.2.1,fun i j h1 h2 h3=>hh.2.2.1 i j h1 h2 (by lia),hh.2.2.2⟩) ⟨rfl,hB,fun i j h1 h2 h3=>?_,lS.refl⟩) ?_)
 .rintro k c aD KB BS ⟨rfl,wv,so,ou⟩;dsimp only;refine aJ (dO (dW (I:=fun x c n0=>(∃l r,c=(none,l,r)/\l<=r/\r<=k/\r<=l+(k-x)/\(∀i,i<l->kk key (arrOf aD) (lo+i)<=kk key (arrOf aD) (lo+k))/\(∀i,r<=i->i<k->kk key (arrOf aD) (lo+k)<=kk key (arrOf aD) (lo+i)))/\n0=aD) (Q:=fun c n0=>(∃l r,c=(none,l,r)/\l<=k/\(∀i,i<l->kk key (arrOf aD) (lo+i)<=kk key (arrOf aD) (lo+k))/\(∀i,l<=i->i<k->kk key (arrOf aD) (lo+k)<=kk key (arrOf aD) (lo+i)))/\n0=aD) ?_ ?_ ⟨⟨_,_,rfl,bT _,aN _,by lia,fun i h=>by lia,fun i h h'=>by lia⟩,rfl⟩) ?_)
  .rintro x c e8 _ hx ⟨⟨l,r,rfl,Mg,hr,Hv,f1,f2⟩,rfl⟩;dsimp only;by_cases xv:l>=r
   .rw[av xv];exact aF ⟨⟨_,_,rfl,by lia,f1,fun i hi kC=>f2 i (by lia) kC⟩,rfl⟩
   .rw[au xv];refine aJ (fV hC wv (by lia) (by lia) fun b eb=>?_);cases b
    .have e:=iq eb.symm;refine aF ⟨⟨_,_,rfl,by lia,hr,by lia,fun i hi=>?_,f2⟩,rfl⟩;have:=so (lo+i) (lo+(l+r) / 2) (by lia) (by lia) (by lia);lia
    .have e:=dE eb.symm;refine aF ⟨⟨_,_,rfl,by lia,by lia,by lia,f1,fun i hi kC=>?_⟩,rfl⟩;have:=so (lo+(l+r) / 2) (lo+i) (by lia) (by lia) (by lia);lia
  .rintro c e8 ⟨⟨l,r,rfl,Mg,hr,Hv,f1,f2⟩,rfl⟩;exact⟨⟨_,_,rfl,by lia,f1,fun i hi kC=>f2 i (by lia) kC⟩,rfl⟩
  .rintro c e8 ⟨⟨l,r,rfl,hl,f1,f2⟩,rfl⟩;dsimp only;refine aJ (xu wv (by lia) (by lia) fun gI jB hg=>aF ⟨rfl,jB,fun i j h1 h2 h3=>?_,fun q hq=>?_⟩)
   .have gi:=hg i;have gj:=hg j;have ei:kk key (arrOf gI) i=if i=lo+l then kk key (arrOf e8) (lo+k) else if lo+l<i/\i<=lo+k then kk key (arrOf e8) (i-1) else kk key (arrOf e8) i:=by
     unfold kk;rw[gi];split
     .rfl
     .split <;> rfl
    have ej:kk key (arrOf gI) j=if j=lo+l then kk key (arrOf e8) (lo+k) else if lo+l<j/\j<=lo+k then kk key (arrOf e8) (j-1) else kk key (arrOf e8) j:=by
     unfold kk;rw[gj];split
     .rfl
     .split <;> rfl
    rw[ei,ej];by_cases c1:i=lo+l
    .rw[av c1];by_cases c2:j=lo+l
     .rw[av c2];lia
     .rw[au c2,av (by lia)];have:=f2 (j-1-lo) (by lia) (by lia);rw[show lo+(j-1-lo)=j-1 by lia] at this;exact this
    .rw[au c1];by_cases c3:lo+l<i/\i<=lo+k
     .rw[av c3,au (by lia),av (by lia)];exact so _ _ (by lia) (by lia) (by lia)
     .rw[au c3];by_cases c2:j=lo+l
      .rw[av c2];have:=f1 (i-lo) (by lia);rw[show lo+(i-lo)=i by lia] at this;exact this
      .rw[au c2];by_cases c4:lo+l<j/\j<=lo+k
       .rw[av c4];exact so _ _ (by lia) (by lia) (by lia)
       .rw[au c4];exact so _ _ (by lia) (by lia) (by lia)
   .rw[hg q,au (by lia),au (by lia)];exact ou q hq
 .by_cases ho:ok=0
  .have:i=j:=by subst ho;have:max 0 1=1:=rfl;lia
   rw[this];exact fL _
  .exact hs i j h1 h2 (by (have:max ok 1=ok:=by lia);lia)
 .rintro c aD ⟨rfl,wv,so,ou⟩;exact aF (h aD wv so ou)
end
def Ft(lo bf n:Nat):StateT SortSt Sem (Option Nat):=do
 reverseSlice' lo (lo+n)
 let mut n:=n
 for _ in [n:bf] do
  let some gO <- ltAt' (lo+n) (lo+n-1)|return none
  if gO then break
  n:=n+1
 return some n
def Fu(lo bf n:Nat):StateT SortSt Sem (Option Nat):=do
 rule "list.sort.descending-run"
 let mut n:=n+1
 let mut neq:=0
 for _ in [n:bf] do
  let some gO <- ltAt' (lo+n) (lo+n-1)|return none
  if gO then
   if neq > 0 then reverseSlice' (lo+n-(neq+1)) (lo+n)
   neq:=0
  else
   let some Mh <- ltAt' (lo+n-1) (lo+n)|return none
   if Mh then break
   neq:=neq+1
  n:=n+1
 if neq > 0 then reverseSlice' (lo+n-(neq+1)) (lo+n)
 Ft lo bf n
theorem kW(lo bf:Nat):countRun' lo bf=(do
 let mut n:=1
 for _ in [1:bf] do
  let some gO <- ltAt' (lo+n) (lo+n-1)|return none
  if gO then break
  n:=n+1
 if n==bf then return some n
 if n > 1 then
  let some VB <- ltAt' lo (lo+n-1)|return none
  if VB then return some n
  reverseSlice' lo (lo+n)
 Fu lo bf n):=rfl
section
variable {prog:Program} {w:World} {A:Around} {E:Value->Shared->Prop} {s:Shared} {κ:SortKind} {a₀:Array Keyed} {pd:Array (Nat×Nat×Nat)} {key:Keyed->Int} {ar:Array Keyed}
def De(key:Keyed->Int)(a:Array Keyed)(lo hi:Nat):Prop:=∀i j,lo<=i->i<=j->j<hi->kk key a j<=kk key a i
theorem dJ(h:∀k,b[k]?=if i<=k/\k<j then a[i+j-1-k]? else a[k]?)(k:Nat):kk key b k=if i<=k/\k<j then kk key a (i+j-1-k) else kk key a k:=by
 unfold kk;rw[h k];split <;> rfl
theorem re(h:∀k,b[k]?=if i<=k/\k<j then a[i+j-1-k]? else a[k]?)(e:∀k,i<=k->k<j->kk key a k=kk key a (j-1))(k:Nat):kk key b k=kk key a k:=by
 rw[dJ h];split
 .rename_i c;rw[e _ (by lia) (by lia),e k c.1 c.2]
 .rfl
theorem pU{a b:Array Keyed}{i j lo hi:Nat}(h:∀k,b[k]?=if i<=k/\k<j then a[i+j-1-k]? else a[k]?)(h1:lo<=i)(h2:j<=hi):lS a b lo hi:=fun k hk=>by rw[h k,au (by lia)]
theorem BU{st:SortSt}{lo bf n:Nat}{Q:Option (Option Nat)×Nat->SortSt->Prop}(hC:oM prog w A s κ a₀ key)(hn:lo+bf<=a₀.size)(h1:1<=n)(h2:n<=bf)(hB:SQ κ a₀ pd st)(so:So key (arrOf st) lo (lo+n))(h:∀m,n<=m->m<=bf->So key (arrOf st) lo (lo+m)->(m=bf\/kk key (arrOf st) (lo+m)<kk key (arrOf st) (lo+m-1))->Q (none,m) st):
  wpS (model prog w) A E s (forIn [n:bf] ((none:Option (Option Nat)),n) fun _ r=>do
   let some gO <- ltAt' (lo+r.2) (lo+r.2-1)|pure (ForInStep.done (some none,r.2))
   if gO then pure (ForInStep.done (none,r.2)) else pure (ForInStep.yield (none,r.2+1))) Q st:=by
 refine dO (dW (I:=fun i c aD=>aD=st/\c=(none,i)/\So key (arrOf st) lo (lo+i)) (Q:=fun c aD=>aD=st/\∃m,c=(none,m)/\n<=m/\m<=bf/\So key (arrOf st) lo (lo+m)/\(m=bf\/kk key (arrOf st) (lo+m)<kk key (arrOf st) (lo+m-1))) ?_ ?_ ⟨rfl,rfl,so⟩) ?_
 .rintro i c rZ VC Ab ⟨rfl,rfl,xw⟩;dsimp only;refine aJ (fV hC hB (by lia) (by lia) fun b eb=>?_);cases b
  .have e:=iq eb.symm;refine aF ⟨rfl,rfl,fun x y hx r6 hy=>?_⟩;by_cases c1:y<lo+i
   .exact xw x y hx r6 c1
   .have:y=lo+i:=by lia
    subst this;by_cases c2:x=lo+i
    .rw[c2];lia
    .have:=xw x (lo+i-1) hx (by lia) (by lia);lia
  .exact aF ⟨rfl,_,rfl,by lia,by lia,xw,.inr (dE eb.symm)⟩
 .rintro c rZ ⟨rfl,rfl,xw⟩;have:max n bf=bf:=by lia
  rw[this] at xw |-;exact⟨rfl,_,rfl,by lia,by lia,xw,.inl rfl⟩
 .rintro c rZ ⟨rfl,m,rfl,m1,m2,xw,e⟩;exact h m m1 m2 xw e
theorem BV{st:SortSt}{lo bf n:Nat}{Q:Option Nat->SortSt->Prop}(hC:oM prog w A s κ a₀ key)(hn:lo+bf<=a₀.size)(h1:1<=n)(h2:n<=bf)(hB:SQ κ a₀ pd st)(de:De key (arrOf st) lo (lo+n))(ou:lS ar (arrOf st) lo (lo+bf))(h:∀n aD,SQ κ a₀ pd aD->1<=n->n<=bf->So key (arrOf aD) lo (lo+n)->lS ar (arrOf aD) lo (lo+bf)->Q (some n) aD):wpS (model prog w) A E s (Ft lo bf n) Q st:=by
 unfold Ft;refine aJ (ix hB (by lia) fun e8 r9 hg=>?_);refine aJ (BU hC hn h1 h2 r9 (fun i j hi tG hj=>?_) fun m m1 m2 so _=>?_)
 .rw[dJ hg,dJ hg,av (by lia),av (by lia)];exact de _ _ (by lia) (by lia) (by lia)
 .exact aF (h m e8 r9 (by lia) m2 so (ou.trans (pU hg (by lia) (by lia))))
theorem BW{st:SortSt}{lo bf n:Nat}{Q:Option Nat->SortSt->Prop}(hC:oM prog w A s κ a₀ key)(hn:lo+bf<=a₀.size)(h1:1<=n)(h2:n<bf)(hB:SQ κ a₀ pd st)(de:De key (arrOf st) lo (lo+(n+1)))(ou:lS ar (arrOf st) lo (lo+bf))(h:∀n aD,SQ κ a₀ pd aD->1<=n->n<=bf->So key (arrOf aD) lo (lo+n)->lS ar (arrOf aD) lo (lo+bf)->Q (some n) aD):wpS (model prog w) A E s (Fu lo bf n) Q st:=by
 unfold Fu;refine aJ (jc (fN ⟨rfl,?_⟩));dsimp only;refine aJ (dO (dW (I:=fun i c aD=>SQ κ a₀ pd aD/\De key (arrOf aD) lo (lo+i)/\lS ar (arrOf aD) lo (lo+bf)/\∃q,c=(none,i,q)/\q+1<=i/\∀k,lo+i-(q+1)<=k->k<lo+i->kk key (arrOf aD) k=kk key (arrOf aD) (lo+i-1)) (Q:=fun c aD=>SQ κ a₀ pd aD/\lS ar (arrOf aD) lo (lo+bf)/\∃i q,c=(none,i,q)/\De key (arrOf aD) lo (lo+i)/\1<=i/\i<=bf/\q+1<=i/\∀k,lo+i-(q+1)<=k->k<lo+i->kk key (arrOf aD) k=kk key (arrOf aD) (lo+i-1)) ?_ ?_ ⟨hB,de,ou,_,rfl,by lia,fun k KB BS=>by rw[show k=lo+(n+1)-1 by lia]⟩) ?_)
 .rintro i c gI VC Ab ⟨jB,ww,Fv,q,rfl,hq,eq⟩;dsimp only;have step:∀aD,(∀k,kk key (arrOf aD) k=kk key (arrOf gI) k)->kk key (arrOf gI) (lo+i)<=kk key (arrOf gI) (lo+i-1)->De key (arrOf aD) lo (lo+(i+1)):=by
   intro aD e dG x y hx r6 hy;rw[e,e];by_cases c1:y<lo+i
   .exact ww x y hx r6 c1
   .have:y=lo+i:=by lia
    subst this;by_cases c2:x=lo+i
    .rw[c2];lia
    .have:=ww x (lo+i-1) hx (by lia) (by lia);lia
  refine aJ (fV hC jB (by lia) (by lia) fun b3 e3=>?_);cases b3
  .have Qt:=iq e3.symm;dsimp only;rw[au (by decide)];refine aJ (fV hC jB (by lia) (by lia) fun b4 e4=>?_);cases b4
   .have e4':=iq e4.symm;refine aF ⟨jB,step gI (fun _=>rfl) (by lia),Fv,_,rfl,by lia,fun k KB BS=>?_⟩;rw[show lo+(i+1)-1=lo+i by lia];by_cases c1:k=lo+i
    .rw[c1]
    .have:=eq k (by lia) (by lia);lia
   .exact aF ⟨jB,Fv,_,_,rfl,ww,by lia,by lia,hq,eq⟩
  .have Qt:=dE e3.symm;dsimp only;rw[av rfl];split
   .refine aJ (ix jB (by lia) fun ph VD hg=>aF ⟨VD,step ph (re hg eq) (by lia),Fv.trans (pU hg (by lia) (by lia)),_,rfl,by lia,fun k KB BS=>by rw[show k=lo+(i+1)-1 by lia]⟩)
   .exact aF ⟨jB,step gI (fun _=>rfl) (by lia),Fv,_,rfl,by lia,fun k KB BS=>by rw[show k=lo+(i+1)-1 by lia]⟩
 .rintro c gI ⟨jB,ww,Fv,q,rfl,hq,eq⟩;have:max (n+1) bf=bf:=by lia
  rw[this] at ww hq eq |-;exact⟨jB,Fv,_,_,rfl,ww,by lia,by lia,hq,eq⟩
 .rintro c gI ⟨jB,Fv,i,q,rfl,ww,i1,i2,hq,eq⟩;dsimp only;split
  .refine aJ (ix jB (by lia) fun ph VD hg=>?_);refine BV hC hn i1 i2 VD (fun x y hx r6 hy=>?_) (Fv.trans (pU hg (by lia) (by lia))) h;rw[re hg eq,re hg eq];exact ww x y hx r6 hy
  .exact BV hC hn i1 i2 jB ww Fv h
theorem Dx{st:SortSt}{lo bf:Nat}{Q:Option Nat->SortSt->Prop}(hC:oM prog w A s κ a₀ key)(hn:lo+bf<=a₀.size)(h1:1<=bf)(hB:SQ κ a₀ pd st)(h:∀n aD,SQ κ a₀ pd aD->1<=n->n<=bf->So key (arrOf aD) lo (lo+n)->lS (arrOf st) (arrOf aD) lo (lo+bf)->Q (some n) aD):wpS (model prog w) A E s (countRun' lo bf) Q st:=by
 rw[kW];refine aJ (BU hC hn (aN 1) h1 hB (fun i j hi tG hj=>by rw[show i=j by lia];exact fL _) fun n n1 n2 so e=>?_);dsimp only;by_cases e1:(n==bf)=true
 .rw[av e1];exact aF (h n st hB n1 n2 so lS.refl)
 rw[au e1];have g1:¬ (n=bf):=by simpa using e1
 have dG:kk key (arrOf st) (lo+n)<kk key (arrOf st) (lo+n-1):=e.resolve_left g1;by_cases e2:n > 1
 .rw[av e2];refine aJ (fV hC hB (by lia) (by lia) fun b2 eb=>?_);cases b2
  .have e3:=iq eb.symm;dsimp only;rw[au (by decide)];have eq:∀k,lo<=k->k<lo+n->kk key (arrOf st) k=kk key (arrOf st) (lo+n-1):=fun k KB BS=>by
    have a1:=so lo k (by lia) KB BS;have a2:=so k (lo+n-1) KB (by lia) (by lia);lia
   refine aJ (ix hB (by lia) fun e8 r9 hg=>?_);refine BW hC hn n1 (by lia) r9 (fun i j hi tG hj=>?_) (pU hg (by lia) (by lia)) h;rw[re hg eq,re hg eq];by_cases c1:j<lo+n
   .rw[eq j (by lia) c1,eq i hi (by lia)];exact fL _
   .have:j=lo+n:=by lia
    subst this;by_cases c2:i=lo+n
    .rw[c2];exact fL _
    .rw[eq i hi (by lia)];lia
  .exact aF (h n st hB n1 n2 so lS.refl)
 .rw[au e2];have:n=1:=by lia
  subst this;refine BW hC hn n1 (by lia) hB (fun i j hi tG hj=>?_) lS.refl h;by_cases c1:i=j
  .rw[c1];exact fL _
  .have:i=lo:=by lia
   have:j=lo+1:=by lia
   subst i;subst j;rw[show lo+1-1=lo by lia] at dG;lia
end
theorem Ar(left:Bool)(key:Keyed)(arr:Array Keyed)(base n eH:Nat):eR left key arr base n eH=(do
 let vF (i:Nat):StateT SortSt Sem (Option Bool):=do
  let x <- elem' arr (base+i)
  if left then lt' x key else return (<-lt' key x).map (!·)
 let mut lastofs:=0
 let mut ofs:=1
 let mut lo:=0
 let mut hi:=0
 let some right <- vF eH|return none
 if right then
  let rf:=n-eH
  for _ in [0:n] do
   if ofs>=rf then break
   let some more <- vF (eH+ofs)|return none
   if !more then break
   lastofs:=ofs
   ofs:=2*ofs+1
  lo:=eH+lastofs+1
  hi:=eH+min ofs rf
 else
  let rf:=eH+1
  for _ in [0:n] do
   if ofs>=rf then break
   let some Fw <- vF (eH-ofs)|return none
   if Fw then break
   lastofs:=ofs
   ofs:=2*ofs+1
  lo:=eH+1-min ofs rf
  hi:=eH-lastofs
 for _ in [0:n] do
  if lo>=hi then break
  let m:=lo+(hi-lo) / 2
  let some more <- vF m|return none
  if more then lo:=m+1 else hi:=m
 return some hi):=rfl
def rh(left:Bool)(k:Int):Int:=if left then k else k+1
section
variable {prog:Program} {w:World} {A:Around} {E:Value->Shared->Prop} {s:Shared} {κ:SortKind} {a₀:Array Keyed} {pd:Array (Nat×Nat×Nat)} {key:Keyed->Int}
theorem jl{st:SortSt}{left:Bool}{x:Keyed}{arr:Array Keyed}{j:Nat}{Q:Option Bool->SortSt->Prop}(hC:oM prog w A s κ a₀ key)(hk:kindOf st=κ)(o_:x∈a₀.toList)(r_:∀x∈arr.toList,x∈a₀.toList)(hj:j<arr.size)(h:∀b,b=decide (kk key arr j<rh left (key x))->Q (some b) st):
  wpS (model prog w) A E s (do
  let y <- elem' arr j
  if left then lt' y x else return (<-lt' x y).map (!·)) Q st:=by
 have hm:arr[j]∈a₀.toList:=r_ _ (by simp);refine aJ (bo (dB arr j hj) ?_);cases left
 .rw[au (by decide)];refine aJ (rc hC hk o_ hm (aF (h _ ?_)));rw[cg hj];show (!decide (key x<key arr[j]))=decide (key arr[j]<key x+1);by_cases c:key x<key arr[j]
  .rw[iu c,fc (by lia)];rfl
  .rw[fc c,iu (by lia)];rfl
 .rw[av rfl];refine rc hC hk hm o_ (h _ ?_);rw[cg hj];rfl
theorem xx{st:SortSt}{left:Bool}{x:Keyed}{arr:Array Keyed}{base n l u:Nat}{Q:Option Nat->SortSt->Prop}(hC:oM prog w A s κ a₀ key)(hk:kindOf st=κ)(o_:x∈a₀.toList)(r_:∀x∈arr.toList,x∈a₀.toList)(hn:base+n<=arr.size)(so:So key arr base (base+n))(hl:l<=u)(hu:u<=n)(f1:∀i,i<l->kk key arr (base+i)<rh left (key x))(f2:∀i,u<=i->i<n->rh left (key x)<=kk key arr (base+i))(h:∀k,k<=n->(∀i,i<k->kk key arr (base+i)<rh left (key x))->(∀i,k<=i->i<n->rh left (key x)<=kk key arr (base+i))->Q (some k) st):wpS (model prog w) A E s (do
   let mut lo:=l
   let mut hi:=u
   for _ in [0:n] do
    if lo>=hi then break
    let m:=lo+(hi-lo) / 2
    let some more <- (do
     let y <- elem' arr (base+m)
     if left then lt' y x else return (<-lt' x y).map (!·))|return none
    if more then lo:=m+1 else hi:=m
   return some hi) Q st:=by
 refine aJ (dO (dW (I:=fun j c aD=>(∃l u,c=(none,l,u)/\l<=u/\u<=n/\u<=l+(n-j)/\(∀i,i<l->kk key arr (base+i)<rh left (key x))/\(∀i,u<=i->i<n->rh left (key x)<=kk key arr (base+i)))/\st=aD) (Q:=fun c aD=>(∃l u,c=(none,l,u)/\u<=l/\u<=n/\(∀i,i<l->kk key arr (base+i)<rh left (key x))/\(∀i,u<=i->i<n->rh left (key x)<=kk key arr (base+i)))/\st=aD) ?_ ?_ ⟨⟨_,_,rfl,hl,hu,by lia,f1,f2⟩,rfl⟩) ?_)
 .rintro j c aD _ hj ⟨⟨l,u,rfl,Zc,hu,hd,f1,f2⟩,rfl⟩;dsimp only;by_cases xv:l>=u
  .rw[av xv];exact aF ⟨⟨_,_,rfl,xv,hu,f1,f2⟩,rfl⟩
  .rw[au xv];refine aJ (jl hC hk o_ r_ (by lia) fun more e=>?_);cases more
   .have e':=iq e.symm;refine aF ⟨⟨_,_,rfl,by lia,by lia,by lia,f1,fun i hi kC=>?_⟩,rfl⟩;have:=so (base+(l+(u-l) / 2)) (base+i) (by lia) (by lia) (by lia);lia
   .have e':=dE e.symm;refine aF ⟨⟨_,_,rfl,by lia,by lia,by lia,fun i hi=>?_,f2⟩,rfl⟩;have:=so (base+i) (base+(l+(u-l) / 2)) (by lia) (by lia) (by lia);lia
 .rintro c aD ⟨⟨l,u,rfl,Zc,hu,hd,f1,f2⟩,rfl⟩;exact⟨⟨_,_,rfl,by lia,hu,f1,f2⟩,rfl⟩
 .rintro c aD ⟨⟨l,u,rfl,Zc,hu,f1,f2⟩,rfl⟩;exact aF (h u hu (fun i hi=>f1 i (by lia)) f2)
theorem fP{st:SortSt}{left:Bool}{x:Keyed}{arr:Array Keyed}{base n eH:Nat}{Q:Option Nat->SortSt->Prop}(hC:oM prog w A s κ a₀ key)(hk:kindOf st=κ)(o_:x∈a₀.toList)(r_:∀x∈arr.toList,x∈a₀.toList)(hn:base+n<=arr.size)(hh:eH<n)(so:So key arr base (base+n))(h:∀k,k<=n->(∀i,i<k->kk key arr (base+i)<rh left (key x))->(∀i,k<=i->i<n->rh left (key x)<=kk key arr (base+i))->Q (some k) st):wpS (model prog w) A E s (eR left x arr base n eH) Q st:=by
 rw[Ar];refine aJ (jl hC hk o_ r_ (by lia) fun right er=>?_);cases right
 .have Zd:=iq er.symm;dsimp only;rw[au (by decide)];refine aJ (dO (dW (I:=fun j c aD=>(∃l o,c=(none,l,o)/\l<o/\j<o/\l<=eH/\rh left (key x)<=kk key arr (base+(eH-l)))/\st=aD) (Q:=fun c aD=>(∃l o,c=(none,l,o)/\l<o/\l<=eH/\rh left (key x)<=kk key arr (base+(eH-l))/\(eH+1<=o\/kk key arr (base+(eH-o))<rh left (key x)))/\st=aD) ?_ ?_ ⟨⟨_,_,rfl,by lia,by lia,by lia,by rw[uY];lia⟩,rfl⟩) ?_)
  .rintro j c aD _ _ ⟨⟨l,o,rfl,vo,VE,hl,f⟩,rfl⟩;dsimp only;by_cases xv:o>=eH+1
   .rw[av xv];exact aF ⟨⟨_,_,rfl,vo,hl,f,.inl xv⟩,rfl⟩
   .rw[au xv];refine aJ (jl hC hk o_ r_ (by lia) fun Fw e=>?_);cases Fw
    .have e':=iq e.symm;exact aF ⟨⟨_,_,rfl,by lia,by lia,by lia,by lia⟩,rfl⟩
    .exact aF ⟨⟨_,_,rfl,vo,hl,f,.inr (dE e.symm)⟩,rfl⟩
  .rintro c aD ⟨⟨l,o,rfl,vo,VE,hl,f⟩,rfl⟩;exact⟨⟨_,_,rfl,vo,hl,f,.inl (by lia)⟩,rfl⟩
  .rintro c aD ⟨⟨l,o,rfl,vo,hl,f,e⟩,rfl⟩;dsimp only;refine xx hC hk o_ r_ hn so (by lia) (by lia) (fun i hi=>?_) (fun i hi kC=>?_) h
   .rcases e with e|e
    .lia
    .by_cases c:eH+1<=o
     .lia
     .have:=so (base+i) (base+(eH-o)) (by lia) (by lia) (by lia);lia
   .have:=so (base+(eH-l)) (base+i) (by lia) (by lia) (by lia);lia
 .have Zd:=dE er.symm;dsimp only;rw[av rfl];refine aJ (dO (dW (I:=fun j c aD=>(∃l o,c=(none,l,o)/\l<o/\j<o/\l<n-eH/\kk key arr (base+(eH+l))<rh left (key x))/\st=aD) (Q:=fun c aD=>(∃l o,c=(none,l,o)/\l<o/\l<n-eH/\kk key arr (base+(eH+l))<rh left (key x)/\(n-eH<=o\/rh left (key x)<=kk key arr (base+(eH+o))))/\st=aD) ?_ ?_ ⟨⟨_,_,rfl,by lia,by lia,by lia,by rw[lw];exact Zd⟩,rfl⟩) ?_)
  .rintro j c aD _ _ ⟨⟨l,o,rfl,vo,VE,hl,f⟩,rfl⟩;dsimp only;by_cases xv:o>=n-eH
   .rw[av xv];exact aF ⟨⟨_,_,rfl,vo,hl,f,.inl xv⟩,rfl⟩
   .rw[au xv];refine aJ (jl hC hk o_ r_ (by lia) fun more e=>?_);cases more
    .have e':=iq e.symm;exact aF ⟨⟨_,_,rfl,vo,hl,f,.inr (by lia)⟩,rfl⟩
    .exact aF ⟨⟨_,_,rfl,by lia,by lia,by lia,dE e.symm⟩,rfl⟩
  .rintro c aD ⟨⟨l,o,rfl,vo,VE,hl,f⟩,rfl⟩;exact⟨⟨_,_,rfl,vo,hl,f,.inl (by lia)⟩,rfl⟩
  .rintro c aD ⟨⟨l,o,rfl,vo,hl,f,e⟩,rfl⟩;dsimp only;refine xx hC hk o_ r_ hn so (by lia) (by lia) (fun i hi=>?_) (fun i hi kC=>?_) h
   .have:=so (base+i) (base+(eH+l)) (by lia) (by lia) (by lia);lia
   .rcases e with e|e
    .lia
    .by_cases c:n-eH<=o
     .lia
     .have:=so (base+(eH+o)) (base+i) (by lia) (by lia) (by lia);lia
end
theorem eh(g:Nat):dw g=modify fun s=>SortSt.mk' (kindOf s) (arrOf s) (pendingOf s) g (failedOf s):=rfl
structure SM(κ:SortKind)(ar:Array Keyed)(pd:Array (Nat×Nat×Nat))(st:SortSt):Prop where
 arr:arrOf st=ar
 kind:kindOf st=κ
 failed:failedOf st=none
 pend:pendingOf st=pd
abbrev Tw:=Option (Array Keyed)×Array Keyed×Nat×Nat×Nat×Nat×Nat
abbrev lH(a b out:Array Keyed)(ia ib:Nat):=out++a.extract ia a.size++b.extract ib b.size
abbrev vG(a b out:Array Keyed)(ia ib:Nat):=out++b.extract ib b.size++a.extract ia a.size
def Tx(a b out:Array Keyed)(ia ib mg ac bc:Nat):StateT SortSt Sem (ForInStep Tw):=do
 let x <- elem' a ia
 if ia+1+1==a.size then pure (.done (some (vG a b (out.push x) (ia+1) ib),out.push x,ia+1,ib,mg,ac,bc))
 else if ac<7&&bc<7 then pure (.done (none,out.push x,ia+1,ib,mg,ac,bc)) else pure (.yield (none,out.push x,ia+1,ib,mg,ac,bc))
def Tz(a b out:Array Keyed)(ia ib mg ac bc:Nat):StateT SortSt Sem (ForInStep Tw):=do
 let x <- elem' b ib
 if ib+1==b.size then pure (.done (some (lH a b (out.push x) ia (ib+1)),out.push x,ia,ib+1,mg,ac,bc))
 else do
  let some k <- eR true (<-elem' a ia) b (ib+1) (b.size-(ib+1)) 0|pure (.done (some (lH a b (out.push x) ia (ib+1)),out.push x,ia,ib+1,mg,ac,bc))
  if k > 0 then
   if ib+1+k==b.size then pure (.done (some (lH a b (out.push x++b.extract (ib+1) (ib+1+k)) ia (ib+1+k)),out.push x++b.extract (ib+1) (ib+1+k),ia,ib+1+k,mg,ac,k))
   else Tx a b (out.push x++b.extract (ib+1) (ib+1+k)) ia (ib+1+k) mg ac k
  else Tx a b (out.push x) ia (ib+1) mg ac k
def TB(a b out:Array Keyed)(ia ib mg ac bc:Nat):StateT SortSt Sem (ForInStep Tw):=do
 dw mg
 let some k <- eR false (<-elem' b ib) a ia (a.size-ia) 0|pure (.done (some (lH a b out ia ib),out,ia,ib,mg,ac,bc))
 if k > 0 then
  if ia+k+1==a.size then pure (.done (some (vG a b (out++a.extract ia (ia+k)) (ia+k) ib),out++a.extract ia (ia+k),ia+k,ib,mg,k,bc))
  else if ia+k==a.size then pure (.done (some (lH a b (out++a.extract ia (ia+k)) (ia+k) ib),out++a.extract ia (ia+k),ia+k,ib,mg,k,bc))
  else Tz a b (out++a.extract ia (ia+k)) (ia+k) ib mg k bc
 else Tz a b out ia ib mg k bc
theorem xy(a b:Array Keyed):q9 a b=(do
 rule "list.sort.merge-lo"
 let rj:=a.size+b.size
 let done (out:Array Keyed) (ia ib:Nat):=out++a.extract ia a.size++b.extract ib b.size
 let pV (out:Array Keyed) (ia ib:Nat):=out++b.extract ib b.size++a.extract ia a.size
 let mut out:Array Keyed:=#[<-elem' b 0]
 let mut ia:=0
 let mut ib:=1
 if ib==b.size then return done out ia ib
 if ia+1==a.size then return pV out ia ib
 let mut minGallop:=gallopOf (<-get)
 for _ in [0:rj] do
  let mut acount:=0
  let mut bcount:=0
  for _ in [0:rj] do
   let some Qu <- lt' (<-elem' b ib) (<-elem' a ia)|return done out ia ib
   if Qu then
    out:=out.push (<-elem' b ib);ib:=ib+1;bcount:=bcount+1;acount:=0
    if ib==b.size then return done out ia ib
    if bcount>=minGallop then break
   else
    out:=out.push (<-elem' a ia);ia:=ia+1;acount:=acount+1;bcount:=0
    if ia+1==a.size then return pV out ia ib
    if acount>=minGallop then break
  rule "list.sort.gallop"
  minGallop:=minGallop+1
  for _ in [0:rj] do
   if minGallop > 1 then minGallop:=minGallop-1
   dw minGallop
   let some k <- eR false (<-elem' b ib) a ia (a.size-ia) 0|return done out ia ib
   acount:=k
   if k > 0 then
    out:=out++a.extract ia (ia+k);ia:=ia+k
    if ia+1==a.size then return pV out ia ib
    if ia==a.size then return done out ia ib
   out:=out.push (<-elem' b ib);ib:=ib+1
   if ib==b.size then return done out ia ib
   let some k <- eR true (<-elem' a ia) b ib (b.size-ib) 0|return done out ia ib
   bcount:=k
   if k > 0 then
    out:=out++b.extract ib (ib+k);ib:=ib+k
    if ib==b.size then return done out ia ib
   out:=out.push (<-elem' a ia);ia:=ia+1
   if ia+1==a.size then return pV out ia ib
   if acount<7&&bcount<7 then break
  minGallop:=minGallop+1
  dw minGallop
 unsupported "internal:list.sort.merge-bound"):=rfl
def PI(a b out:Array Keyed)(ia ib:Nat):Prop:=out.toList.Perm (a.toList.take ia++b.toList.take ib)
theorem xz{l:List Keyed}{i:Nat}(h:i<l.length):l.take (i+1)=l.take i++[l[i]]:=by rw[iP,bH h];rfl
theorem PI.iy{a b out:Array Keyed}{ia ib:Nat}(h:PI a b out ia ib)(hi:ia<a.size):PI a b (out.push a[ia]) (ia+1) ib:=by
 unfold PI at h |-;rw[iQ,xz (by simpa using hi),gv];refine(h.append_right _).trans ?_;rw[gv];refine uE _ ?_;have:a.toList[ia]'(by simpa using hi)=a[ia]:=by simp
 rw[this];exact lV
theorem fu{a:Array Keyed}{i j:Nat}:(a.extract i j).toList=(a.toList.drop i).take (j-i):=by
 rw[yU,List.extract_eq_take_drop]
theorem Fx{a:Array Keyed}{i k:Nat}(h:i+k<a.size):a.extract i (i+(k+1))=(a.extract i (i+k)).push a[i+k]:=by
 apply Array.toList_inj.mp;rw[iQ,fu,fu,Nat.add_sub_cancel_left,Nat.add_sub_cancel_left,xz (by simp;lia)];congr 2;simp
structure MI(key:Keyed->Int)(a b out:Array Keyed)(ia ib:Nat):Prop where
 perm:PI a b out ia ib
 so:out.toList.Pairwise fun x y=>key x<=key y
 la:∀x∈out.toList,ia<a.size->key x<=kk key a ia
 lb:∀x∈out.toList,ib<b.size->key x<=kk key b ib
def Fi(key:Keyed->Int)(a b r:Array Keyed):Prop:=r.Perm (a++b)/\r.toList.Pairwise fun x y=>key x<=key y
section
variable {key:Keyed->Int} {a b out:Array Keyed} {ia ib:Nat}
theorem MI.swap(h:MI key a b out ia ib):MI key b a out ib ia:=⟨h.perm.trans lV,h.so,h.lb,h.la⟩
theorem MI.iy(h:MI key a b out ia ib)(hi:ia<a.size)(sa:So key a 0 a.size)(c:ib<b.size->kk key a ia<=kk key b ib):MI key a b (out.push a[ia]) (ia+1) ib:=by
 refine⟨h.perm.iy hi,?_,fun x hx hl=>?_,fun x hx hl=>?_⟩
 .rw[iQ];refine yT.mpr ⟨h.so,yN _ _,fun x hx y hy=>?_⟩;rw[bL.mp hy,<-cg (key:=key) hi];exact h.la x hx hi
 .rw[iQ] at hx;have:=sa ia (ia+1) (by lia) (by lia) hl;rcases bO.mp hx with z|z
  .have:=h.la x z hi;lia
  .rw[bL.mp z,<-cg (key:=key) hi];exact this
 .rw[iQ] at hx;rcases bO.mp hx with z|z
  .exact h.lb x z hl
  .rw[bL.mp z,<-cg (key:=key) hi];exact c hl
theorem MI.vH(h:MI key a b out ia ib)(sa:So key a 0 a.size):∀ (k:Nat),ia+k<=a.size->(ib<b.size->∀i,i<k->kk key a (ia+i)<=kk key b ib)->MI key a b (out++a.extract ia (ia+k)) (ia+k) ib
 |0,_,_=>by
  have e:a.extract ia (ia+0)=#[]:=by simp;lia
  rw[e,Array.append_empty];exact h
 |k+1,hk,c=>by
  have:=(MI.vH h sa k (by lia) fun hb i hi=>c hb i (by lia)).iy (by lia) sa fun hb=>c hb k (by lia);rw[Fx (by lia),<-Array.push_append];exact this
theorem MI.ua(h:MI key a b out ia ib)(hi:ib<b.size)(sb:So key b 0 b.size)(c:ia<a.size->kk key b ib<=kk key a ia):MI key a b (out.push b[ib]) ia (ib+1):=(h.swap.iy hi sb c).swap
theorem MI.Fy(h:MI key a b out ia ib)(sb:So key b 0 b.size)(k:Nat)(hk:ib+k<=b.size)(c:ia<a.size->∀i,i<k->kk key b (ib+i)<=kk key a ia):MI key a b (out++b.extract ib (ib+k)) ia (ib+k):=(h.swap.vH sb k hk c).swap
theorem MI.fin(h:MI key a b out a.size b.size):Fi key a b out:=by
 refine⟨?_,h.so⟩;have:=h.perm;unfold PI at this;rw[mT (by simp),mT (by simp)] at this;rw[jC,ow];exact this
theorem MI.done(h:MI key a b out ia ib)(sa:So key a 0 a.size)(sb:So key b 0 b.size)(ha:ia<=a.size)(hb:ib<=b.size)(c:ib<b.size->∀i,i<a.size-ia->kk key a (ia+i)<=kk key b ib):Fi key a b (lH a b out ia ib):=by
 have h1:=h.vH sa (a.size-ia) (by lia) c;rw[show ia+(a.size-ia)=a.size by lia] at h1;have h2:=h1.Fy sb (b.size-ib) (by lia) fun z=>by lia
 rw[show ib+(b.size-ib)=b.size by lia] at h2;exact h2.fin
theorem MI.last(h:MI key a b out ia ib)(sa:So key a 0 a.size)(sb:So key b 0 b.size)(ha:ia<=a.size)(hb:ib<=b.size)(c:ia<a.size->∀i,i<b.size-ib->kk key b (ib+i)<=kk key a ia):Fi key a b (vG a b out ia ib):=by
 have:=h.swap.done sb sa hb ha c;refine⟨this.1.trans ?_,this.2⟩;rw[jC,ow,ow];exact lV
end
section
variable {prog:Program} {w:World} {A:Around} {E:Value->Shared->Prop} {s:Shared} {κ:SortKind} {a₀:Array Keyed} {pd:Array (Nat×Nat×Nat)} {ar:Array Keyed} {key:Keyed->Int}
structure xA(key:Keyed->Int)(a₀ a b:Array Keyed):Prop where
 ha:∀x∈a.toList,x∈a₀.toList
 hb:∀x∈b.toList,x∈a₀.toList
 a1:1<=a.size
 b1:1<=b.size
 sa:So key a 0 a.size
 sb:So key b 0 b.size
 c0:kk key b 0<=kk key a 0
 c1:∀i,i<b.size->kk key b i<=kk key a (a.size-1)
theorem xA.last(T:xA key a₀ a b)(h:MI key a b out ia ib)(ha:ia+1=a.size)(hb:ib<=b.size):Fi key a b (vG a b out ia ib):=
 h.last T.sa T.sb (by lia) hb fun _ i hi=>by
  have:=T.c1 (ib+i) (by lia);rw[show a.size-1=ia by lia] at this;exact this
theorem xA.done(T:xA key a₀ a b)(h:MI key a b out ia ib)(ha:ia<=a.size)(hb:ib=b.size):Fi key a b (lH a b out ia ib):=
 h.done T.sa T.sb ha (by lia) fun z=>by lia
def GP(κ:SortKind)(ar:Array Keyed)(pd:Array (Nat×Nat×Nat))(key:Keyed->Int)(a b:Array Keyed)(n:Nat)(r:ForInStep Tw)(st:SortSt):Prop:=SM κ ar pd st/\
 ((∃x c,r=.done (some x,c)/\Fi key a b x)\/∃out ia ib mg ac bc,(r=.done (none,out,ia,ib,mg,ac,bc)\/r=.yield (none,out,ia,ib,mg,ac,bc))/\MI key a b out ia ib/\ia+1<a.size/\ib<b.size/\n<=ia+ib)
theorem BY{st:SortSt}{a b out:Array Keyed}{ia ib mg ac bc n:Nat}(T:xA key a₀ a b)(hB:SM κ ar pd st)(h:MI key a b out ia ib)(la:ia+1<a.size)(lb:ib<b.size)(li:n<=ia+ib)(c:kk key a ia<=kk key b ib):
  wpS (model prog w) A E s (Tx a b out ia ib mg ac bc) (GP κ ar pd key a b n) st:=by
 unfold Tx;refine aJ (bo (dB a ia (by lia)) ?_);have p:=h.iy (show ia<a.size by lia) T.sa fun _=>c;by_cases f:(ia+1+1==a.size)=true
 .rw[av f];exact aF ⟨hB,.inl ⟨_,_,rfl,T.last p (by simpa using f) (by lia)⟩⟩
 rw[au f];have g:¬ (ia+1+1=a.size):=by simpa using f
 split
 .exact aF ⟨hB,.inr ⟨_,_,_,_,_,_,.inl rfl,p,by lia,by lia,by lia⟩⟩
 .exact aF ⟨hB,.inr ⟨_,_,_,_,_,_,.inr rfl,p,by lia,by lia,by lia⟩⟩
theorem BZ{st:SortSt}{a b out:Array Keyed}{ia ib mg ac bc n:Nat}(hC:oM prog w A s κ a₀ key)(T:xA key a₀ a b)(hB:SM κ ar pd st)(h:MI key a b out ia ib)(la:ia+1<a.size)(lb:ib<b.size)(li:n<=ia+ib)(c:kk key b ib<=kk key a ia):
  wpS (model prog w) A E s (Tz a b out ia ib mg ac bc) (GP κ ar pd key a b n) st:=by
 unfold Tz;refine aJ (bo (dB b ib (by lia)) ?_);have p:=h.ua lb T.sb fun _=>c;by_cases f:(ib+1==b.size)=true
 .rw[av f];exact aF ⟨hB,.inl ⟨_,_,rfl,T.done p (by lia) (by simpa using f)⟩⟩
 rw[au f];have g:¬ (ib+1=b.size):=by simpa using f
 refine aJ (bo (dB a ia (by lia)) ?_);refine aJ (fP hC hB.kind (T.ha _ (by simp)) T.hb (by lia) (by lia) (fun i j h1 h2 h3=>T.sb i j (by lia) h2 (by lia)) fun k hk q1 q2=>?_);rw[<-cg (key:=key) (a:=a) (i:=ia) (by lia)] at q1 q2;simp only[rh,iD] at q1 q2;dsimp only;by_cases kp:k > 0
 .rw[av kp];have p2:=p.Fy T.sb k (by lia) fun _ i hi=>by have:=q1 i hi;lia
  by_cases f2:(ib+1+k==b.size)=true
  .rw[av f2];exact aF ⟨hB,.inl ⟨_,_,rfl,T.done p2 (by lia) (by simpa using f2)⟩⟩
  rw[au f2];have g2:¬ (ib+1+k=b.size):=by simpa using f2
  exact BY T hB p2 la (by lia) (by lia) (q2 k (by lia) (by lia))
 .rw[au kp];have e:k=0:=by lia
  subst e;exact BY T hB p la (by lia) (by lia) (q2 0 (by lia) (by lia))
theorem Ip{st:SortSt}{a b out:Array Keyed}{ia ib mg ac bc n:Nat}(hC:oM prog w A s κ a₀ key)(T:xA key a₀ a b)(hB:SM κ ar pd st)(h:MI key a b out ia ib)(la:ia+1<a.size)(lb:ib<b.size)(li:n<=ia+ib):
  wpS (model prog w) A E s (TB a b out ia ib mg ac bc) (GP κ ar pd key a b n) st:=by
 unfold TB;rw[eh];refine aJ (eS ?_);have r9:SM κ ar pd (SortSt.mk' (kindOf st) (arrOf st) (pendingOf st) mg (failedOf st)):=⟨hB.arr,hB.kind,hB.failed,hB.pend⟩
 refine aJ (bo (dB b ib (by lia)) ?_);refine aJ (fP hC r9.kind (T.hb _ (by simp)) T.ha (by lia) (by lia) (fun i j h1 h2 h3=>T.sa i j (by lia) h2 (by lia)) fun k hk q1 q2=>?_);rw[<-cg (key:=key) (a:=b) (i:=ib) (by lia)] at q1 q2;simp only[rh,f8,eJ] at q1 q2;dsimp only;by_cases kp:k > 0
 .rw[av kp];have p2:=h.vH T.sa k (by lia) fun _ i hi=>by have:=q1 i hi;lia
  by_cases f4:(ia+k+1==a.size)=true
  .rw[av f4];exact aF ⟨r9,.inl ⟨_,_,rfl,T.last p2 (by simpa using f4) (by lia)⟩⟩
  rw[au f4];have g4:¬ (ia+k+1=a.size):=by simpa using f4
  by_cases f5:(ia+k==a.size)=true
  .rw[av f5];have g5:ia+k=a.size:=by simpa using f5
   exact aF ⟨r9,.inl ⟨_,_,rfl,p2.done T.sa T.sb (by lia) (by lia) fun _ i hi=>by lia⟩⟩
  rw[au f5];have g5:¬ (ia+k=a.size):=by simpa using f5
  exact BZ hC T r9 p2 (by lia) lb (by lia) (by have:=q2 k (by lia) (by lia);lia)
 .rw[au kp];have e:k=0:=by lia
  subst e;exact BZ hC T r9 h la lb li (by have:=q2 0 (by lia) (by lia);rw[lw] at this;lia)
theorem xB{st:SortSt}{a b:Array Keyed}{Q:Array Keyed->SortSt->Prop}(hC:oM prog w A s κ a₀ key)(hB:SM κ ar pd st)(T:xA key a₀ a b)(h:∀out aD,Fi key a b out->SM κ ar pd aD->Q out aD):wpS (model prog w) A E s (q9 a b) Q st:=by
 have a1:=T.a1;have b1:=T.b1;rw[xy];refine aJ (jc (fN ⟨rfl,?_⟩));refine aJ (bo (dB b 0 (by lia)) ?_);dsimp only;have p0:MI key a b #[b[0]] 0 1:=by
  have:MI key a b #[] 0 0:=⟨by unfold PI;simp,List.Pairwise.nil,fun x hx=>by simp at hx,fun x hx=>by simp at hx⟩
  exact this.ua (by lia) T.sb fun _=>T.c0
 by_cases e1:(1==b.size)=true
 .rw[av e1];exact aF (h _ _ (T.done p0 (by lia) (by simpa using e1)) hB)
 rw[au e1];have n1:¬ (1=b.size):=by simpa using e1
 by_cases e2:(0+1==a.size)=true
 .rw[av e2];exact aF (h _ _ (T.last p0 (by simpa using e2) (by lia)) hB)
 rw[au e2];have n2:¬ (0+1=a.size):=by simpa using e2
 refine aJ (eG ?_);refine aJ (dO (dW (I:=fun i c aD=>SM κ ar pd aD/\∃out ia ib mg,c=(none,out,ia,ib,mg)/\MI key a b out ia ib/\ia+1<a.size/\ib<b.size/\i<=ia+ib) (Q:=fun c aD=>SM κ ar pd aD/\∃r c',c=(some r,c')/\Fi key a b r) ?_ ?_ ⟨hB,_,_,_,_,rfl,p0,by lia,by lia,by lia⟩) ?_)
 .rintro i c rZ _ hi ⟨Iq,out,ia,ib,mg,rfl,p1,la,lb,li⟩;dsimp only;refine aJ (dO (dW (I:=fun x c aD=>SM κ ar pd aD/\∃out ia ib ac bc,c=(none,out,ia,ib,ac,bc)/\MI key a b out ia ib/\ia+1<a.size/\ib<b.size/\i+x<=ia+ib) (Q:=fun c aD=>SM κ ar pd aD/\((∃r c',c=(some r,c')/\Fi key a b r)\/∃out ia ib ac bc,c=(none,out,ia,ib,ac,bc)/\MI key a b out ia ib/\ia+1<a.size/\ib<b.size/\i+1<=ia+ib)) ?_ ?_ ⟨Iq,_,_,_,_,_,rfl,p1,la,lb,by lia⟩) ?_)
  .rintro x c e8 _ hx ⟨im,out,ia,ib,ac,bc,rfl,p1,la,lb,li⟩;dsimp only;refine aJ (bo (dB b ib (by lia)) ?_);refine aJ (bo (dB a ia (by lia)) ?_);refine aJ (rc hC im.kind (T.hb _ (by simp)) (T.ha _ (by simp)) ?_);rw[<-cg (key:=key) (a:=b) (i:=ib) (by lia),<-cg (key:=key) (a:=a) (i:=ia) (by lia)];by_cases bw:kk key b ib<kk key a ia
   .rw[iu bw];dsimp only;rw[av rfl];refine aJ (bo (dB b ib (by lia)) ?_);have p2:=p1.ua (show ib<b.size by lia) T.sb fun _=>by lia
    by_cases f1:(ib+1==b.size)=true
    .rw[av f1];exact aF ⟨im,.inl ⟨_,_,rfl,T.done p2 (by lia) (by simpa using f1)⟩⟩
    rw[au f1];have g1:¬ (ib+1=b.size):=by simpa using f1
    split
    .exact aF ⟨im,.inr ⟨_,_,_,_,_,rfl,p2,by lia,by lia,by lia⟩⟩
    .exact aF ⟨im,_,_,_,_,_,rfl,p2,by lia,by lia,by lia⟩
   .rw[fc bw];dsimp only;rw[au (by decide)];refine aJ (bo (dB a ia (by lia)) ?_);have p2:=p1.iy (show ia<a.size by lia) T.sa fun _=>by lia
    by_cases f1:(ia+1+1==a.size)=true
    .rw[av f1];exact aF ⟨im,.inl ⟨_,_,rfl,T.last p2 (by simpa using f1) (by lia)⟩⟩
    rw[au f1];have g1:¬ (ia+1+1=a.size):=by simpa using f1
    split
    .exact aF ⟨im,.inr ⟨_,_,_,_,_,rfl,p2,by lia,by lia,by lia⟩⟩
    .exact aF ⟨im,_,_,_,_,_,rfl,p2,by lia,by lia,by lia⟩
  .rintro c e8 ⟨im,out,ia,ib,ac,bc,rfl,p1,la,lb,li⟩;exact⟨im,.inr ⟨_,_,_,_,_,rfl,p1,la,lb,by lia⟩⟩
  .rintro c e8 ⟨im,⟨r,c',rfl,hp⟩|⟨out,ia,ib,ac,bc,rfl,p1,la,lb,li⟩⟩
   .exact aF ⟨im,_,_,rfl,hp⟩
   .dsimp only;refine aJ (jc (fN ⟨rfl,?_⟩));refine aJ (dO (dW (I:=fun x c aD=>SM κ ar pd aD/\∃out ia ib mg ac bc,c=(none,out,ia,ib,mg,ac,bc)/\MI key a b out ia ib/\ia+1<a.size/\ib<b.size/\i+1<=ia+ib) (Q:=fun c aD=>SM κ ar pd aD/\((∃r c',c=(some r,c')/\Fi key a b r)\/∃out ia ib mg ac bc,c=(none,out,ia,ib,mg,ac,bc)/\MI key a b out ia ib/\ia+1<a.size/\ib<b.size/\i+1<=ia+ib)) ?_ ?_ ⟨im,_,_,_,_,_,_,rfl,p1,la,lb,li⟩) ?_)
    .rintro x c e8 _ hx ⟨im,out,ia,ib,mg,ac,bc,rfl,p1,la,lb,li⟩;change wpS (model prog w) A E s (if mg > 1 then TB a b out ia ib (mg-1) ac bc else TB a b out ia ib mg ac bc) _ e8;split <;>
     .refine dO (Ip hC T im p1 la lb li) ?_;rintro r aD ⟨m,⟨x,c,rfl,hf⟩|⟨out,ia,ib,mg,ac,bc,rfl|rfl,hh⟩⟩
      .exact⟨m,.inl ⟨_,_,rfl,hf⟩⟩
      .exact⟨m,.inr ⟨_,_,_,_,_,_,rfl,hh⟩⟩
      .exact⟨m,_,_,_,_,_,_,rfl,hh⟩
    .rintro c e8 ⟨im,hh⟩;exact⟨im,.inr hh⟩
    .rintro c e8 ⟨im,⟨r,c',rfl,hp⟩|⟨out,ia,ib,mg,ac,bc,rfl,p1,la,lb,li⟩⟩
     .exact aF ⟨im,_,_,rfl,hp⟩
     .dsimp only;rw[eh];refine aJ (eS ?_);exact aF ⟨⟨im.arr,im.kind,im.failed,im.pend⟩,_,_,_,_,rfl,p1,la,lb,li⟩
 .rintro c rZ ⟨Iq,out,ia,ib,mg,rfl,p1,la,lb,li⟩;lia
 .rintro c rZ ⟨Iq,r,c',rfl,hp⟩;exact aF (h r rZ hp Iq)
end
abbrev TC:=Option (Array Keyed)×Nat×Nat×Array Keyed×Nat×Nat×Nat
abbrev lI(a b out:Array Keyed)(na nb:Nat):=a.extract 0 na++b.extract 0 nb++out.reverse
abbrev mj(a b out:Array Keyed)(na nb:Nat):=b.extract 0 nb++a.extract 0 na++out.reverse
def TD(a b:Array Keyed)(na nb:Nat)(out:Array Keyed)(mg ac bc:Nat):StateT SortSt Sem (ForInStep TC):=do
 let x <- elem' a (na-1)
 if na-1==0 then pure (.done (some (lI a b (out.push x) (na-1) nb),na-1,nb,out.push x,mg,ac,bc))
 else if ac<7&&bc<7 then pure (.done (none,na-1,nb,out.push x,mg,ac,bc)) else pure (.yield (none,na-1,nb,out.push x,mg,ac,bc))
def TF(a b:Array Keyed)(na nb:Nat)(out:Array Keyed)(mg ac bc:Nat):StateT SortSt Sem (ForInStep TC):=do
 let x <- elem' b (nb-1)
 if nb-1==1 then pure (.done (some (mj a b (out.push x) na (nb-1)),na,nb-1,out.push x,mg,ac,bc))
 else do
  let some at_ <- eR true (<-elem' a (na-1)) b 0 (nb-1) (nb-1-1)|pure (.done (some (lI a b (out.push x) na (nb-1)),na,nb-1,out.push x,mg,ac,bc))
  if nb-1-at_ > 0 then
   if at_==1 then pure (.done (some (mj a b (out.push x++(b.extract at_ (nb-1)).reverse) na at_),na,at_,out.push x++(b.extract at_ (nb-1)).reverse,mg,ac,nb-1-at_))
   else if at_==0 then pure (.done (some (lI a b (out.push x++(b.extract at_ (nb-1)).reverse) na at_),na,at_,out.push x++(b.extract at_ (nb-1)).reverse,mg,ac,nb-1-at_))
   else TD a b na at_ (out.push x++(b.extract at_ (nb-1)).reverse) mg ac (nb-1-at_)
  else TD a b na (nb-1) (out.push x) mg ac (nb-1-at_)
def TH(a b:Array Keyed)(na nb:Nat)(out:Array Keyed)(mg ac bc:Nat):StateT SortSt Sem (ForInStep TC):=do
 dw mg
 let some at_ <- eR false (<-elem' b (nb-1)) a 0 na (na-1)|pure (.done (some (lI a b out na nb),na,nb,out,mg,ac,bc))
 if na-at_ > 0 then
  if at_==0 then pure (.done (some (lI a b (out++(a.extract at_ na).reverse) at_ nb),at_,nb,out++(a.extract at_ na).reverse,mg,na-at_,bc))
  else TF a b at_ nb (out++(a.extract at_ na).reverse) mg (na-at_) bc
 else TF a b na nb out mg (na-at_) bc
theorem xC(a b:Array Keyed):q_ a b=(do
 rule "list.sort.merge-hi"
 let rj:=a.size+b.size
 let done (out:Array Keyed) (na nb:Nat):=a.extract 0 na++b.extract 0 nb++out.reverse
 let mm (out:Array Keyed) (na nb:Nat):=b.extract 0 nb++a.extract 0 na++out.reverse
 let mut na:=a.size-1
 let mut nb:=b.size
 let mut out:Array Keyed:=#[<-elem' a na]
 if na==0 then return done out na nb
 if nb==1 then return mm out na nb
 let mut minGallop:=gallopOf (<-get)
 for _ in [0:rj] do
  let mut acount:=0
  let mut bcount:=0
  for _ in [0:rj] do
   let some Qv <- lt' (<-elem' b (nb-1)) (<-elem' a (na-1))|return done out na nb
   if Qv then
    na:=na-1;out:=out.push (<-elem' a na);acount:=acount+1;bcount:=0
    if na==0 then return done out na nb
    if acount>=minGallop then break
   else
    nb:=nb-1;out:=out.push (<-elem' b nb);bcount:=bcount+1;acount:=0
    if nb==1 then return mm out na nb
    if bcount>=minGallop then break
  rule "list.sort.gallop"
  minGallop:=minGallop+1
  for _ in [0:rj] do
   if minGallop > 1 then minGallop:=minGallop-1
   dw minGallop
   let some at_ <- eR false (<-elem' b (nb-1)) a 0 na (na-1)|return done out na nb
   let k:=na-at_
   acount:=k
   if k > 0 then
    out:=out++(a.extract at_ na).reverse;na:=at_
    if na==0 then return done out na nb
   nb:=nb-1;out:=out.push (<-elem' b nb)
   if nb==1 then return mm out na nb
   let some at_ <- eR true (<-elem' a (na-1)) b 0 nb (nb-1)|return done out na nb
   let k:=nb-at_
   bcount:=k
   if k > 0 then
    out:=out++(b.extract at_ nb).reverse;nb:=at_
    if nb==1 then return mm out na nb
    if nb==0 then return done out na nb
   na:=na-1;out:=out.push (<-elem' a na)
   if na==0 then return done out na nb
   if acount<7&&bcount<7 then break
  minGallop:=minGallop+1
  dw minGallop
 unsupported "internal:list.sort.merge-bound"):=rfl
def PH(a b out:Array Keyed)(na nb:Nat):Prop:=out.toList.Perm (a.toList.drop na++b.toList.drop nb)
theorem PH.iy(h:PH a b out na nb)(h1:1<=na)(hi:na-1<a.size):PH a b (out.push a[na-1]) (na-1) nb:=by
 unfold PH at h |-;have e:a.toList.drop (na-1)=a[na-1]::a.toList.drop na:=by
  have:=qa (l:=a.toList) (i:=na-1) (by simpa using hi);rw[this,Nat.sub_add_cancel h1];simp
 rw[iQ,e];refine(h.append_right _).trans ?_;exact lV
theorem Ir{a:Array Keyed}{k n:Nat}(h:k<n)(hn:n<=a.size):(a.extract k n).reverse=(a.extract (k+1) n).reverse.push a[k]:=by
 apply Array.toList_inj.mp;rw[iQ,uG,uG,fu,fu];have e:=qa (l:=a.toList) (i:=k) (by simp;lia);rw[e,show n-k=(n-(k+1))+1 by lia,List.take_succ_cons,zi];congr 2
theorem xD{l:List Keyed}{i j:Nat}(h:i<=j):l.drop i=(l.drop i).take (j-i)++l.drop j:=by
 have:=(yR (j-i) (l.drop i)).symm;rw[List.drop_drop,show i+(j-i)=j by lia] at this;exact this
structure HI(key:Keyed->Int)(a b out:Array Keyed)(na nb:Nat):Prop where
 perm:PH a b out na nb
 so:out.toList.Pairwise fun x y=>key y<=key x
 la:∀x∈out.toList,0<na->kk key a (na-1)<=key x
 lb:∀x∈out.toList,0<nb->kk key b (nb-1)<=key x
section
variable {key:Keyed->Int} {a b out:Array Keyed} {na nb:Nat}
theorem HI.swap(h:HI key a b out na nb):HI key b a out nb na:=⟨h.perm.trans lV,h.so,h.lb,h.la⟩
theorem HI.iy(h:HI key a b out na nb)(h1:1<=na)(hi:na-1<a.size)(sa:So key a 0 a.size)(c:0<nb->kk key b (nb-1)<=kk key a (na-1)):HI key a b (out.push a[na-1]) (na-1) nb:=by
 refine⟨h.perm.iy h1 hi,?_,fun x hx hl=>?_,fun x hx hl=>?_⟩
 .rw[iQ];refine yT.mpr ⟨h.so,yN _ _,fun x hx y hy=>?_⟩;rw[bL.mp hy,<-cg (key:=key) hi];exact h.la x hx (by lia)
 .rw[iQ] at hx;have:=sa (na-1-1) (na-1) (by lia) (by lia) hi;rcases bO.mp hx with z|z
  .have:=h.la x z (by lia);lia
  .rw[bL.mp z,<-cg (key:=key) hi];exact this
 .rw[iQ] at hx;rcases bO.mp hx with z|z
  .exact h.lb x z hl
  .rw[bL.mp z,<-cg (key:=key) hi];exact c hl
theorem HI.vH(h:HI key a b out na nb)(sa:So key a 0 a.size)(hn:na<=a.size):∀ (d k:Nat),na=k+d->(0<nb->∀i,k<=i->i<na->kk key b (nb-1)<=kk key a i)->HI key a b (out++(a.extract k na).reverse) k nb
 |0,k,e,_=>by
  have e':a.extract k na=#[]:=by simp;lia
  have e2:k=na:=by lia
  subst e2;rw[e',Array.reverse_empty,Array.append_empty];exact h
 |d+1,k,e,c=>by
  have:=(HI.vH h sa hn d (k+1) (by lia) fun hb i h1 h2=>c hb i (by lia) h2).iy (by lia) (by lia) sa fun hb=>c hb _ (by lia) (by lia);rw[Ir (by lia) hn,<-Array.push_append];exact this
theorem HI.ua(h:HI key a b out na nb)(h1:1<=nb)(hi:nb-1<b.size)(sb:So key b 0 b.size)(c:0<na->kk key a (na-1)<=kk key b (nb-1)):HI key a b (out.push b[nb-1]) na (nb-1):=(h.swap.iy h1 hi sb c).swap
theorem HI.Fy(h:HI key a b out na nb)(sb:So key b 0 b.size)(hn:nb<=b.size)(k:Nat)(hk:k<=nb)(c:0<na->∀i,k<=i->i<nb->kk key a (na-1)<=kk key b i):HI key a b (out++(b.extract k nb).reverse) na k:=(h.swap.vH sb hn (nb-k) k (by lia) c).swap
theorem HI.first(h:HI key a b out na nb)(sa:So key a 0 a.size)(sb:So key b 0 b.size)(ha:na<=a.size)(hb:nb<=b.size)(c:0<nb->∀i,i<na->kk key b (nb-1)<=kk key a i):Fi key a b (mj a b out na nb):=by
 have h1:=h.vH sa ha na 0 (by lia) fun z i _ hi=>c z i hi;have h2:=h1.Fy sb hb 0 (by lia) fun z=>by lia
 have e:mj a b out na nb=(out++(a.extract 0 na).reverse++(b.extract 0 nb).reverse).reverse:=by simp
 rw[e];refine⟨?_,?_⟩
 .have:=h2.perm;unfold PH at this;rw[zE,zE] at this;rw[jC,uG,ow (xs:=a)];exact(List.reverse_perm _).trans this
 .rw[uG,List.pairwise_reverse];exact h2.so
theorem HI.done(h:HI key a b out na nb)(sa:So key a 0 a.size)(sb:So key b 0 b.size)(ha:na<=a.size)(hb:nb<=b.size)(c:0<na->∀i,i<nb->kk key a (na-1)<=kk key b i):Fi key a b (lI a b out na nb):=by
 have:=h.swap.first sb sa hb ha c;refine⟨this.1.trans ?_,this.2⟩;rw[jC,ow,ow];exact lV
end
section
variable {prog:Program} {w:World} {A:Around} {E:Value->Shared->Prop} {s:Shared} {κ:SortKind} {a₀:Array Keyed} {pd:Array (Nat×Nat×Nat)} {ar:Array Keyed} {key:Keyed->Int}
theorem xA.first(T:xA key a₀ a b)(h:HI key a b out na nb)(ha:na<=a.size)(hb:nb=1):Fi key a b (mj a b out na nb):=
 h.first T.sa T.sb ha (by have:=T.b1;lia) fun _ i hi=>by
  have h0:=T.c0;have h1:=T.sa 0 i (by lia) (by lia) (by lia);rw[show nb-1=0 by lia];lia
theorem xA.xE(T:xA key a₀ a b)(h:HI key a b out na nb)(ha:na<=a.size)(hb:nb<=b.size)(hz:na=0\/nb=0):Fi key a b (lI a b out na nb):=
 h.done T.sa T.sb ha hb fun z i hi=>by lia
def GH(κ:SortKind)(ar:Array Keyed)(pd:Array (Nat×Nat×Nat))(key:Keyed->Int)(a b:Array Keyed)(n:Nat)(r:ForInStep TC)(st:SortSt):Prop:=SM κ ar pd st/\
 ((∃x c,r=.done (some x,c)/\Fi key a b x)\/∃na nb out mg ac bc,(r=.done (none,na,nb,out,mg,ac,bc)\/r=.yield (none,na,nb,out,mg,ac,bc))/\HI key a b out na nb/\1<=na/\2<=nb/\na<=a.size/\nb<=b.size/\n+na+nb<=a.size+b.size)
theorem B0{st:SortSt}{a b out:Array Keyed}{na nb mg ac bc n:Nat}(T:xA key a₀ a b)(hB:SM κ ar pd st)(h:HI key a b out na nb)(la:1<=na)(lb:2<=nb)(ma:na<=a.size)(mb:nb<=b.size)(li:n+na+nb<=a.size+b.size)(c:kk key b (nb-1)<=kk key a (na-1)):
  wpS (model prog w) A E s (TD a b na nb out mg ac bc) (GH κ ar pd key a b n) st:=by
 unfold TD;refine aJ (bo (dB a (na-1) (by lia)) ?_);have p:=h.iy la (show na-1<a.size by lia) T.sa fun _=>c;by_cases f:(na-1==0)=true
 .rw[av f];exact aF ⟨hB,.inl ⟨_,_,rfl,T.xE p (by lia) (by lia) (.inl (by simpa using f))⟩⟩
 rw[au f];have g:¬ (na-1=0):=by simpa using f
 split
 .exact aF ⟨hB,.inr ⟨_,_,_,_,_,_,.inl rfl,p,by lia,by lia,by lia,by lia,by lia⟩⟩
 .exact aF ⟨hB,.inr ⟨_,_,_,_,_,_,.inr rfl,p,by lia,by lia,by lia,by lia,by lia⟩⟩
theorem B1{st:SortSt}{a b out:Array Keyed}{na nb mg ac bc n:Nat}(hC:oM prog w A s κ a₀ key)(T:xA key a₀ a b)(hB:SM κ ar pd st)(h:HI key a b out na nb)(la:1<=na)(lb:2<=nb)(ma:na<=a.size)(mb:nb<=b.size)(li:n+na+nb<=a.size+b.size)(c:kk key a (na-1)<=kk key b (nb-1)):
  wpS (model prog w) A E s (TF a b na nb out mg ac bc) (GH κ ar pd key a b n) st:=by
 unfold TF;refine aJ (bo (dB b (nb-1) (by lia)) ?_);have p:=h.ua (by lia) (show nb-1<b.size by lia) T.sb fun _=>c;by_cases f:(nb-1==1)=true
 .rw[av f];exact aF ⟨hB,.inl ⟨_,_,rfl,T.first p (by lia) (by simpa using f)⟩⟩
 rw[au f];have g:¬ (nb-1=1):=by simpa using f
 refine aJ (bo (dB a (na-1) (by lia)) ?_);refine aJ (fP hC hB.kind (T.ha _ (by simp)) T.hb (by lia) (by lia) (fun i j h1 h2 h3=>T.sb i j (by lia) h2 (by lia)) fun k hk q1 q2=>?_);rw[<-cg (key:=key) (a:=a) (i:=na-1) (by lia)] at q1 q2;simp only[rh,iD,gk] at q1 q2;dsimp only;by_cases kp:nb-1-k > 0
 .rw[av kp];have p2:=p.Fy T.sb (by lia) k hk fun _ i h1 h2=>q2 i h1 h2;by_cases f2:(k==1)=true
  .rw[av f2];exact aF ⟨hB,.inl ⟨_,_,rfl,T.first p2 (by lia) (by simpa using f2)⟩⟩
  rw[au f2];have g2:¬ (k=1):=by simpa using f2
  by_cases f6:(k==0)=true
  .rw[av f6];exact aF ⟨hB,.inl ⟨_,_,rfl,T.xE p2 (by lia) (by lia) (.inr (by simpa using f6))⟩⟩
  rw[au f6];have g6:¬ (k=0):=by simpa using f6
  exact B0 T hB p2 la (by lia) ma (by lia) (by lia) (by have:=q1 (k-1) (by lia);lia)
 .rw[au kp];have e:k=nb-1:=by lia
  subst e;exact B0 T hB p la (by lia) ma (by lia) (by lia) (by have:=q1 (nb-1-1) (by lia);lia)
theorem Iu{st:SortSt}{a b out:Array Keyed}{na nb mg ac bc n:Nat}(hC:oM prog w A s κ a₀ key)(T:xA key a₀ a b)(hB:SM κ ar pd st)(h:HI key a b out na nb)(la:1<=na)(lb:2<=nb)(ma:na<=a.size)(mb:nb<=b.size)(li:n+na+nb<=a.size+b.size):
  wpS (model prog w) A E s (TH a b na nb out mg ac bc) (GH κ ar pd key a b n) st:=by
 unfold TH;rw[eh];refine aJ (eS ?_);have r9:SM κ ar pd (SortSt.mk' (kindOf st) (arrOf st) (pendingOf st) mg (failedOf st)):=⟨hB.arr,hB.kind,hB.failed,hB.pend⟩
 refine aJ (bo (dB b (nb-1) (by lia)) ?_);refine aJ (fP hC r9.kind (T.hb _ (by simp)) T.ha (by lia) (by lia) (fun i j h1 h2 h3=>T.sa i j (by lia) h2 (by lia)) fun k hk q1 q2=>?_);rw[<-cg (key:=key) (a:=b) (i:=nb-1) (by lia)] at q1 q2;simp only[rh,f8,eJ,gk] at q1 q2;dsimp only;by_cases kp:na-k > 0
 .rw[av kp];have p2:=h.vH T.sa ma (na-k) k (by lia) fun _ i h1 h2=>by have:=q2 i h1 h2;lia
  by_cases f4:(k==0)=true
  .rw[av f4];exact aF ⟨r9,.inl ⟨_,_,rfl,T.xE p2 (by lia) (by lia) (.inl (by simpa using f4))⟩⟩
  rw[au f4];have g4:¬ (k=0):=by simpa using f4
  exact B1 hC T r9 p2 (by lia) lb (by lia) mb (by lia) (by have:=q1 (k-1) (by lia);lia)
 .rw[au kp];have e:k=na:=by lia
  subst e;exact B1 hC T r9 h la lb ma mb li (by have:=q1 (k-1) (by lia);lia)
theorem xF{st:SortSt}{a b:Array Keyed}{Q:Array Keyed->SortSt->Prop}(hC:oM prog w A s κ a₀ key)(hB:SM κ ar pd st)(T:xA key a₀ a b)(h:∀out aD,Fi key a b out->SM κ ar pd aD->Q out aD):wpS (model prog w) A E s (q_ a b) Q st:=by
 have a1:=T.a1;have b1:=T.b1;rw[xC];refine aJ (jc (fN ⟨rfl,?_⟩));refine aJ (bo (dB a (a.size-1) (by lia)) ?_);dsimp only;have p0:HI key a b #[a[a.size-1]] (a.size-1) b.size:=by
  have:HI key a b #[] a.size b.size:=⟨by unfold PH;simp,List.Pairwise.nil,fun x hx=>by simp at hx,fun x hx=>by simp at hx⟩
  exact this.iy a1 (by lia) T.sa fun _=>T.c1 _ (by lia)
 by_cases e1:(a.size-1==0)=true
 .rw[av e1];exact aF (h _ _ (T.xE p0 (by lia) (by lia) (.inl (by simpa using e1))) hB)
 rw[au e1];have n1:¬ (a.size-1=0):=by simpa using e1
 by_cases e2:(b.size==1)=true
 .rw[av e2];exact aF (h _ _ (T.first p0 (by lia) (by simpa using e2)) hB)
 rw[au e2];have n2:¬ (b.size=1):=by simpa using e2
 refine aJ (eG ?_);refine aJ (dO (dW (I:=fun i c aD=>SM κ ar pd aD/\∃na nb out mg,c=(none,na,nb,out,mg)/\HI key a b out na nb/\1<=na/\2<=nb/\na<=a.size/\nb<=b.size/\i+na+nb<=a.size+b.size) (Q:=fun c aD=>SM κ ar pd aD/\∃r c',c=(some r,c')/\Fi key a b r) ?_ ?_ ⟨hB,_,_,_,_,rfl,p0,by lia,by lia,by lia,by lia,by lia⟩) ?_)
 .rintro i c rZ _ hi ⟨Iq,na,nb,out,mg,rfl,p1,la,lb,ma,mb,li⟩;dsimp only;refine aJ (dO (dW (I:=fun x c aD=>SM κ ar pd aD/\∃na nb out ac bc,c=(none,na,nb,out,ac,bc)/\HI key a b out na nb/\1<=na/\2<=nb/\na<=a.size/\nb<=b.size/\i+x+na+nb<=a.size+b.size) (Q:=fun c aD=>SM κ ar pd aD/\((∃r c',c=(some r,c')/\Fi key a b r)\/∃na nb out ac bc,c=(none,na,nb,out,ac,bc)/\HI key a b out na nb/\1<=na/\2<=nb/\na<=a.size/\nb<=b.size/\i+1+na+nb<=a.size+b.size)) ?_ ?_ ⟨Iq,_,_,_,_,_,rfl,p1,la,lb,ma,mb,by lia⟩) ?_)
  .rintro x c e8 _ hx ⟨im,na,nb,out,ac,bc,rfl,p1,la,lb,ma,mb,li⟩;dsimp only;refine aJ (bo (dB b (nb-1) (by lia)) ?_);refine aJ (bo (dB a (na-1) (by lia)) ?_);refine aJ (rc hC im.kind (T.hb _ (by simp)) (T.ha _ (by simp)) ?_);rw[<-cg (key:=key) (a:=b) (i:=nb-1) (by lia),<-cg (key:=key) (a:=a) (i:=na-1) (by lia)];by_cases aw:kk key b (nb-1)<kk key a (na-1)
   .rw[iu aw];dsimp only;rw[av rfl];refine aJ (bo (dB a (na-1) (by lia)) ?_);have p2:=p1.iy (show 1<=na by lia) (show na-1<a.size by lia) T.sa fun _=>by lia
    by_cases f1:(na-1==0)=true
    .rw[av f1];exact aF ⟨im,.inl ⟨_,_,rfl,T.xE p2 (by lia) (by lia) (.inl (by simpa using f1))⟩⟩
    rw[au f1];have g1:¬ (na-1=0):=by simpa using f1
    split
    .exact aF ⟨im,.inr ⟨_,_,_,_,_,rfl,p2,by lia,by lia,by lia,by lia,by lia⟩⟩
    .exact aF ⟨im,_,_,_,_,_,rfl,p2,by lia,by lia,by lia,by lia,by lia⟩
   .rw[fc aw];dsimp only;rw[au (by decide)];refine aJ (bo (dB b (nb-1) (by lia)) ?_);have p2:=p1.ua (show 1<=nb by lia) (show nb-1<b.size by lia) T.sb fun _=>by lia
    by_cases f1:(nb-1==1)=true
    .rw[av f1];exact aF ⟨im,.inl ⟨_,_,rfl,T.first p2 (by lia) (by simpa using f1)⟩⟩
    rw[au f1];have g1:¬ (nb-1=1):=by simpa using f1
    split
    .exact aF ⟨im,.inr ⟨_,_,_,_,_,rfl,p2,by lia,by lia,by lia,by lia,by lia⟩⟩
    .exact aF ⟨im,_,_,_,_,_,rfl,p2,by lia,by lia,by lia,by lia,by lia⟩
  .rintro c e8 ⟨im,na,nb,out,ac,bc,rfl,p1,la,lb,ma,mb,li⟩;exact⟨im,.inr ⟨_,_,_,_,_,rfl,p1,la,lb,ma,mb,by lia⟩⟩
  .rintro c e8 ⟨im,⟨r,c',rfl,hp⟩|⟨na,nb,out,ac,bc,rfl,p1,la,lb,ma,mb,li⟩⟩
   .exact aF ⟨im,_,_,rfl,hp⟩
   .dsimp only;refine aJ (jc (fN ⟨rfl,?_⟩));refine aJ (dO (dW (I:=fun x c aD=>SM κ ar pd aD/\∃na nb out mg ac bc,c=(none,na,nb,out,mg,ac,bc)/\HI key a b out na nb/\1<=na/\2<=nb/\na<=a.size/\nb<=b.size/\i+1+na+nb<=a.size+b.size) (Q:=fun c aD=>SM κ ar pd aD/\((∃r c',c=(some r,c')/\Fi key a b r)\/∃na nb out mg ac bc,c=(none,na,nb,out,mg,ac,bc)/\HI key a b out na nb/\1<=na/\2<=nb/\na<=a.size/\nb<=b.size/\i+1+na+nb<=a.size+b.size)) ?_ ?_ ⟨im,_,_,_,_,_,_,rfl,p1,la,lb,ma,mb,li⟩) ?_)
    .rintro x c e8 _ hx ⟨im,na,nb,out,mg,ac,bc,rfl,p1,la,lb,ma,mb,li⟩;change wpS (model prog w) A E s (if mg > 1 then TH a b na nb out (mg-1) ac bc else TH a b na nb out mg ac bc) _ e8;split <;>
     .refine dO (Iu hC T im p1 la lb ma mb li) ?_;rintro r aD ⟨m,⟨x,c,rfl,hf⟩|⟨na,nb,out,mg,ac,bc,rfl|rfl,hh⟩⟩
      .exact⟨m,.inl ⟨_,_,rfl,hf⟩⟩
      .exact⟨m,.inr ⟨_,_,_,_,_,_,rfl,hh⟩⟩
      .exact⟨m,_,_,_,_,_,_,rfl,hh⟩
    .rintro c e8 ⟨im,hh⟩;exact⟨im,.inr hh⟩
    .rintro c e8 ⟨im,⟨r,c',rfl,hp⟩|⟨na,nb,out,mg,ac,bc,rfl,p1,la,lb,ma,mb,li⟩⟩
     .exact aF ⟨im,_,_,rfl,hp⟩
     .dsimp only;rw[eh];refine aJ (eS ?_);exact aF ⟨⟨im.arr,im.kind,im.failed,im.pend⟩,_,_,_,_,rfl,p1,la,lb,ma,mb,li⟩
 .rintro c rZ ⟨Iq,na,nb,out,mg,rfl,p1,la,lb,ma,mb,li⟩;lia
 .rintro c rZ ⟨Iq,r,c',rfl,hp⟩;exact aF (h r rZ hp Iq)
end
abbrev Mi:=Nat×Nat×Nat
def gQ(key:Keyed->Int)(a:Array Keyed):List Mi->Nat->Nat->Prop
 |[],s,e=>s=e
 |r::rs,s,e=>r.1=s/\1<=r.2.1/\So key a s (s+r.2.1)/\gQ key a rs (s+r.2.1) e
section
variable {key:Keyed->Int} {a:Array Keyed}
theorem gQ.le:∀ {l:List Mi} {s e:Nat},gQ key a l s e->s+l.length<=e
 |[],_,_,h=>qA h
 |r::rs,s,e,⟨_,h2,_,h3⟩=>by have:=h3.le;rw[dS];lia
theorem So.keep(h:So key a s e)(k:∀i,s<=i->i<e->a'[i]?=a[i]?):So key a' s e:=fun i j h1 h2 h3=>by
 rw[eM (k i h1 (by lia)),eM (k j (by lia) h3)];exact h i j h1 h2 h3
theorem gQ.keep:∀ {l:List Mi} {s e:Nat},gQ key a l s e->(∀i,s<=i->i<e->a'[i]?=a[i]?)->gQ key a' l s e
 |[],_,_,h,_=>h
 |r::rs,s,e,⟨h1,h2,h3,h4⟩,k=>by
  have:=h4.le;exact⟨h1,h2,h3.keep fun i a b=>k i a (by lia),h4.keep fun i a b=>k i (by lia) b⟩
theorem gQ.two:∀ {l:List Mi} {s e i:Nat} {x y:Mi},gQ key a l s e->l[i]?=some x->l[i+1]?=some y->
  s<=x.1/\x.1+x.2.1=y.1/\y.1+y.2.1<=e/\1<=x.2.1/\1<=y.2.1/\So key a x.1 y.1/\So key a y.1 (y.1+y.2.1)/\∀p a',lS a a' x.1 (y.1+y.2.1)->So key a' x.1 (y.1+y.2.1)->gQ key a' ((l.set i (x.1,x.2.1+y.2.1,p)).eraseIdx (i+1)) s e
 |r::q::rs,s,e,0,x,y,⟨h1,h2,h3,h4,h5,h6,h7⟩,hx,hy=>by
  obtain rfl:=bN hx;obtain rfl:=bN hy;have:=h7.le;rw[h1,h4];refine⟨aN _,rfl,by lia,h2,h5,h3,h6,fun p a' o so=>⟨rfl,by show 1<=r.2.1+q.2.1;lia,?_,?_⟩⟩
  .show So key a' s (s+(r.2.1+q.2.1));rw[<-uX];exact so
  .show gQ key a' rs (s+(r.2.1+q.2.1)) e;rw[<-uX];exact h7.keep fun i a b=>o i (.inr a)
 |r::rs,s,e,i+1,x,y,⟨h1,h2,h3,h4⟩,hx,hy=>by
  obtain⟨a0,a1,a2,a3,a4,a5,a6,a7⟩:=gQ.two (i:=i) h4 hx hy;exact⟨by lia,a1,a2,a3,a4,a5,a6,fun p a' o so=>⟨h1,h2,h3.keep fun i a b=>o i (.inl (by lia)),a7 p a' o so⟩⟩
theorem gQ.push:∀ {l:List Mi} {s e n p:Nat},gQ key a l s e->1<=n->So key a e (e+n)->gQ key a (l++[(e,n,p)]) s (e+n)
 |[],s,e,n,p,h,hn,so=>⟨h.symm,hn,by rw[show s=e from h];exact so,by rw[show s=e from h];rfl⟩
 |r::rs,s,e,n,p,⟨h1,h2,h3,h4⟩,hn,so=>⟨h1,h2,h3,gQ.push h4 hn so⟩
theorem gQ.pw:∀ {l:List Mi} {s e:Nat} (i p:Nat),gQ key a l s e->gQ key a (l.modify i fun r=>(r.1,r.2.1,p)) s e
 |[],s,e,i,p,h=>by cases i <;> exact h
 |r::rs,s,e,0,p,⟨h1,h2,h3⟩=>⟨h1,h2,h3⟩
 |r::rs,s,e,i+1,p,⟨h1,h2,h3,h4⟩=>⟨h1,h2,h3,gQ.pw i p h4⟩
end
theorem Iv{M:Model}{A:Around}{E:Value->Shared->Prop}{s:Shared}{σ:Type}{x:σ}{Q:PUnit->σ->Prop}{st:σ}(h:Q ⟨⟩ x):wpS M A E s (set x:StateT σ Sem PUnit) Q st:=by
 unfold wpS;rw[StateT.run_set];exact wpAny_pure ⟨rfl,h⟩
theorem xG(i:Nat):mergeAt' i=(do
 let s <- get
 let (some (sa,na,Qw),some (sb,nb,_)):=((pendingOf s)[i]?,(pendingOf s)[i+1]?)|unsupported "internal:list.sort.pending"
 set (setPending s (((pendingOf s).setIfInBounds i (sa,na+nb,Qw)).eraseIdxIfInBounds (i+1)))
 let some k <- eR false (<-elem' (arrOf s) sb) (arrOf s) sa na 0|return false
 let (sa,na):=(sa+k,na-k)
 if na==0 then return true
 let some nb <- eR true (<-elem' (arrOf s) (sa+na-1)) (arrOf s) sb nb (nb-1)|return false
 if nb==0 then return true
 let x:=(arrOf s).extract sa sb
 let y:=(arrOf s).extract sb (sb+nb)
 let merged <- if na<=nb then q9 x y else q_ x y
 modify fun s=>setArr s (merged.toList.zipIdx.foldl (fun a (p,j)=>a.setIfInBounds (sa+j) p) (arrOf s))
 return (failedOf (<-get)).isNone):=rfl
theorem rm:∀ (l:List Keyed) (k:Nat) (arr:Array Keyed),sa+k+l.length<=arr.size->
  ((l.zipIdx k).foldl (fun (a:Array Keyed) (x:Keyed×Nat)=>a.setIfInBounds (sa+x.2) x.1) arr).toList=arr.toList.take (sa+k)++l++arr.toList.drop (sa+k+l.length)
 |[],k,arr,_=>by simp
 |x::l,k,arr,h=>by
  rw[dS] at h;have hs:sa+k<arr.toList.length:=by rw[fZ];lia
  rw[List.zipIdx_cons,uS,rm l (k+1) _ (by rw[Array.size_setIfInBounds];lia),yH];dsimp only;have e1:(arr.toList.set (sa+k) x).take (sa+(k+1))=arr.toList.take (sa+k)++[x]:=by
   rw[<-uX,iP,mV hs,List.take_set_of_le (aN _)];rfl
  have e2:(arr.toList.set (sa+k) x).drop (sa+(k+1)+l.length)=arr.toList.drop (sa+k+(x::l).length):=by
   rw[List.drop_set_of_lt (by lia),dS];congr 1;lia
  rw[e1,e2,gv,gv,gv];rfl
section
variable {prog:Program} {w:World} {A:Around} {E:Value->Shared->Prop} {s:Shared} {κ:SortKind} {a₀:Array Keyed} {key:Keyed->Int}
theorem vI:kk key a i=(a.toList[i]?.map key).getD 0:=by unfold kk;rw[js]
theorem iJ(h:k<j-i):kk key (a.extract i j) k=kk key a (i+k):=by
 rw[vI,vI,fu,List.getElem?_take,av h,zf]
def SR(κ:SortKind)(a₀:Array Keyed)(key:Keyed->Int)(lo:Nat)(st:SortSt):Prop:=∃pd,SQ κ a₀ pd st/\gQ key (arrOf st) pd.toList 0 lo/\lo<=a₀.size
theorem Iw(h1:sa+k<=sb)(h2:sb+k2<=e)(he:e<=a.size)(hl:out.length=sb+k2-(sa+k))(wl:a'.toList=a.toList.take (sa+k)++out++a.toList.drop (sb+k2))(s1:So key a sa sb)(s2:So key a sb e)(so:out.Pairwise fun x y=>key x<=key y)(g1:∀i,sa<=i->i<sa+k->kk key a i<=b)(g2:∀i,sb+k2<=i->i<e->t<=kk key a i)(go:∀x∈out,b<=key x/\key x<=t)(gb:∀i,sb+k2<=i->i<e->b<=kk key a i):
  So key a' sa e/\lS a a' sa e:=by
 have tl:(a.toList.take (sa+k)).length=sa+k:=by rw[jH,fZ];lia
 have p1:∀i,i<sa+k->a'[i]?=a[i]?:=fun i hi=>by
  rw[<-js,wl,gv,gW (by rw[tl];exact hi),List.getElem?_take,av hi,js]
 have p3:∀i,sb+k2<=i->a'[i]?=a[i]?:=fun i hi=>by
  rw[<-js,wl,kO (by rw[cp,tl,hl];lia),cp,tl,hl,zf,js];congr 1;lia
 have p2:∀i,sa+k<=i->i<sb+k2->∃h:i-(sa+k)<out.length,kk key a' i=key out[i-(sa+k)]:=fun i hi kC=>by
  have hh:i-(sa+k)<out.length:=by lia
  refine⟨hh,?_⟩;rw[vI,wl,gv,kO (by rw[tl];exact hi),tl,gW hh,bH hh];rfl
 refine⟨fun i j hi tG hj=>?_,fun i hi=>?_⟩
 .by_cases c1:i<sa+k
  .rw[eM (p1 i c1)];by_cases c2:j<sa+k
   .rw[eM (p1 j c2)];exact s1 i j hi tG (by lia)
   .have:=g1 i hi c1;by_cases c3:j<sb+k2
    .obtain⟨hh,e⟩:=p2 j (by lia) c3;have:=(go _ (eX hh)).1;rw[e];lia
    .rw[eM (p3 j (by lia))];have:=gb j (by lia) hj;lia
  .by_cases c2:i<sb+k2
   .obtain⟨hh,ei⟩:=p2 i (by lia) c2;rw[ei];by_cases c3:j<sb+k2
    .obtain⟨hh',ej⟩:=p2 j (by lia) c3;rw[ej];by_cases c4:i=j
     .subst c4;exact fL _
     .exact tq.mp so _ _ hh hh' (by lia)
    .rw[eM (p3 j (by lia))];have:=(go _ (eX hh)).2;have:=g2 j (by lia) hj;lia
   .rw[eM (p3 i (by lia)),eM (p3 j (by lia))];exact s2 i j (by lia) tG hj
 .rcases hi with hi|hi
  .exact p1 i (by lia)
  .exact p3 i (by lia)
theorem j3{st:SortSt}{i lo:Nat}{Q:Bool->SortSt->Prop}(hC:oM prog w A s κ a₀ key)(hB:SR κ a₀ key lo st)(hi:i+1<(pendingOf st).size)(h:∀aD,SR κ a₀ key lo aD->lS (arrOf st) (arrOf aD) 0 lo->(pendingOf aD).size+1=(pendingOf st).size->Q true aD):wpS (model prog w) A E s (mergeAt' i) Q st:=by
 obtain⟨pd,hq,hr,vo⟩:=hB;rw[hq.pend] at hi h;rw[xG];refine aJ (eG ?_);have e1:pd[i]?=some pd[i]:=dB pd i (by lia);have e2:pd[i+1]?=some pd[i+1]:=dB pd (i+1) hi;obtain⟨_,a1,a2,a3,a4,b1,b2,a5⟩:=hr.two (i:=i) (x:=pd[i]) (y:=pd[i+1]) (by simpa using e1) (by simpa using e2);rw[hq.pend,e1,e2];revert a1 a2 a3 a4 a5 b1 b2;generalize pd[i]=x;generalize pd[i+1]=y;obtain⟨sa,na,pw⟩:=x;obtain⟨sb,nb,pw2⟩:=y;intro a1 a2 a3 a4 b1 b2 a5;dsimp only at a1 a2 a3 a4 a5 b1 b2 |-;obtain⟨Hw,Mj⟩:∃Hw,Hw=(pd.setIfInBounds i (sa,na+nb,pw)).eraseIdxIfInBounds (i+1):=⟨_,rfl⟩
 have Qx:Hw.size+1=pd.size:=by
  rw[Mj,<-fZ,En,yH,List.length_eraseIdx,kQ,av (by simpa using hi),fZ];lia
 have w_:∀a',lS (arrOf st) a' sa (sb+nb)->So key a' sa (sb+nb)->gQ key a' Hw.toList 0 lo:=by
  intro a' o so;rw[Mj,En,yH];exact a5 pw a' o so
 refine aJ (Iv ?_);rw[<-Mj];have Kr:SM κ (arrOf st) Hw (setPending st Hw):=⟨rfl,hq.kind,hq.failed,rfl⟩
 have gJ:=hq.size;have r_:∀x∈(arrOf st).toList,x∈a₀.toList:=fun x hx=>(jC.mp hq.perm).mem_iff.mp hx;have fin:∀aD,SM κ (arrOf st) Hw aD->So key (arrOf st) sa (sb+nb)->Q true aD:=fun aD m so=>h aD ⟨Hw,⟨by rw[m.arr];exact hq.perm,m.kind,m.failed,m.pend⟩,by rw[m.arr];exact w_ _ lS.refl so,vo⟩ (by rw[m.arr];exact lS.refl) (by rw[m.pend];exact Qx);refine aJ (bo (dB (arrOf st) sb (by lia)) ?_);refine aJ (fP hC Kr.kind (r_ _ (by simp)) r_ (by lia) (by lia) (by rw[a1];exact b1) fun k hk q1 q2=>?_);rw[<-cg (key:=key) (a:=arrOf st) (i:=sb) (by lia)] at q1 q2;simp only[rh,f8,eJ] at q1 q2;dsimp only;by_cases f1:(na-k==0)=true
 .rw[av f1];have g1:na-k=0:=by simpa using f1
  refine aF (fin _ Kr fun i j h1 h2 h3=>?_);by_cases c1:j<sb
  .exact b1 i j h1 h2 c1
  .by_cases c2:i<sb
   .have:=q1 (i-sa) (by lia);rw[show sa+(i-sa)=i by lia] at this;have:=b2 sb j (by lia) (by lia) h3;lia
   .exact b2 i j (by lia) h2 h3
 rw[au f1];have g1:¬ (na-k=0):=by simpa using f1
 have el:sa+k+(na-k)-1=sb-1:=by lia
 rw[el];refine aJ (bo (dB (arrOf st) (sb-1) (by lia)) ?_);refine aJ (fP hC Kr.kind (r_ _ (by simp)) r_ (by lia) (by lia) b2 fun k2 BS q3 q4=>?_);rw[<-cg (key:=key) (a:=arrOf st) (i:=sb-1) (by lia)] at q3 q4;simp only[rh,iD] at q3 q4;dsimp only;by_cases f2:(k2==0)=true
 .rw[av f2];have g2:k2=0:=by simpa using f2
  refine aF (fin _ Kr fun i j h1 h2 h3=>?_);by_cases c1:j<sb
  .exact b1 i j h1 h2 c1
  .by_cases c2:i<sb
   .have:=q4 (j-sb) (by lia) (by lia);rw[show sb+(j-sb)=j by lia] at this;have:=b1 i (sb-1) h1 (by lia) (by lia);lia
   .exact b2 i j (by lia) h2 h3
 rw[au f2];have g2:¬ (k2=0):=by simpa using f2
 have sx:((arrOf st).extract (sa+k) sb).size=sb-(sa+k):=by rw[Array.size_extract];lia
 have sy:((arrOf st).extract sb (sb+k2)).size=k2:=by rw[Array.size_extract];lia
 have T:xA key a₀ ((arrOf st).extract (sa+k) sb) ((arrOf st).extract sb (sb+k2)):=by
  refine⟨fun x hx=>r_ x (by rw[fu] at hx;exact uF (mW hx)),fun x hx=>r_ x (by rw[fu] at hx;exact uF (mW hx)),by lia,by lia,fun i j h1 h2 h3=>?_,fun i j h1 h2 h3=>?_,?_,fun i hi=>?_⟩
  .rw[sx] at h3;rw[iJ (by lia),iJ (by lia)];exact b1 _ _ (by lia) (by lia) (by lia)
  .rw[sy] at h3;rw[iJ (by lia),iJ (by lia)];exact b2 _ _ (by lia) (by lia) (by lia)
  .rw[iJ (by lia),iJ (by lia)];have:=q2 k (by lia) (by lia);rw[lw,lw];lia
  .rw[sy] at hi;rw[sx,iJ (by lia),iJ (by lia)];have:=q3 i hi;rw[show sa+k+(sb-(sa+k)-1)=sb-1 by lia];lia
 have last:∀ (out:Array Keyed) (aD:SortSt),Fi key ((arrOf st).extract (sa+k) sb) ((arrOf st).extract sb (sb+k2)) out->SM κ (arrOf st) Hw aD->wpS (model prog w) A E s (do
   modify fun s=>setArr s (out.toList.zipIdx.foldl (fun a (p,j)=>a.setIfInBounds (sa+k+j) p) (arrOf s))
   return (failedOf (<-get)).isNone) Q aD:=by
  intro out aD hF m;obtain⟨hp,so⟩:=hF;refine aJ (eS ?_);refine aJ (eG (aF ?_));have Ze:out.toList.length=sb-(sa+k)+k2:=by
   rw[fZ,hp.size_eq,Array.size_append,sx,sy]
  have wl:=rm (sa:=sa+k) out.toList 0 (arrOf aD) (by rw[m.arr,Ze];lia);have e3:sa+k+(sb-(sa+k)+k2)=sb+k2:=by lia
  rw[m.arr,Ze,lw,e3] at wl;have Kp:=jC.mp hp;rw[ow] at Kp;have pm:(out.toList.zipIdx.foldl (fun a (p,j)=>a.setIfInBounds (sa+k+j) p) (arrOf st)).Perm (arrOf st):=by
   rw[jC];refine(jJ wl).trans ?_;rw[fu,fu] at Kp;refine((Kp.append_left _).append_right _).trans ?_;have e1:(arrOf st).toList.drop (sa+k)=((arrOf st).toList.drop (sa+k)).take (sb-(sa+k))++(arrOf st).toList.drop sb:=xD (by lia);have e2:(arrOf st).toList.drop sb=((arrOf st).toList.drop sb).take (sb+k2-sb)++(arrOf st).toList.drop (sb+k2):=xD (by lia);refine jJ ?_;conv=>rhs;rw[<-yR (sa+k) (arrOf st).toList,e1,e2]
   simp only[gv]
  have hf:(failedOf aD).isNone=true:=by rw[m.failed];rfl
  show Q (failedOf aD).isNone _;rw[hf];have go:∀x∈out.toList,kk key (arrOf st) sb<=key x/\key x<=kk key (arrOf st) (sb-1):=by
   intro x hx;rcases bO.mp (Kp.mem_iff.mp hx) with z|z
   .obtain⟨n,hn,rfl⟩:=lW.mp z;rw[fZ] at hn;have e:key (((arrOf st).extract (sa+k) sb).toList[n]'(by rw[fZ];exact hn))=kk key (arrOf st) (sa+k+n):=by
     rw[<-iJ (i:=sa+k) (j:=sb) (by lia),cg hn,yV]
    rw[e];have h1:=q2 (k+n) (by lia) (by lia);rw[<-uX] at h1;have h2:=b1 (sa+k+n) (sb-1) (by lia) (by lia) (by lia);lia
   .obtain⟨n,hn,rfl⟩:=lW.mp z;rw[fZ] at hn;have e:key (((arrOf st).extract sb (sb+k2)).toList[n]'(by rw[fZ];exact hn))=kk key (arrOf st) (sb+n):=by
     rw[<-iJ (i:=sb) (j:=sb+k2) (by lia),cg hn,yV]
    rw[e];have h1:=q3 n (by lia);have h2:=b2 sb (sb+n) (by lia) (by lia) (by lia);lia
  have bk:=Iw (key:=key) (a:=arrOf st) (a':=out.toList.zipIdx.foldl (fun a (p,j)=>a.setIfInBounds (sa+k+j) p) (arrOf st)) (out:=out.toList) (sa:=sa) (k:=k) (sb:=sb) (k2:=k2) (e:=sb+nb) (by lia) (by lia) (by lia) (by lia) wl b1 b2 so (b:=kk key (arrOf st) sb) (t:=kk key (arrOf st) (sb-1))
   (fun i h1 h2=>by have:=q1 (i-sa) (by lia);rw[show sa+(i-sa)=i by lia] at this;lia) (fun i h1 h2=>by have:=q4 (i-sb) (by lia) (by lia);rw[show sb+(i-sb)=i by lia] at this;lia) go (fun i h1 h2=>b2 sb i (by lia) (by lia) h2)
  have ea:arrOf (setArr aD (out.toList.zipIdx.foldl (fun a (p,j)=>a.setIfInBounds (sa+k+j) p) (arrOf aD)))=out.toList.zipIdx.foldl (fun a (p,j)=>a.setIfInBounds (sa+k+j) p) (arrOf st):=by rw[m.arr]
  refine h _ ⟨Hw,⟨by rw[ea];exact pm.trans hq.perm,m.kind,m.failed,m.pend⟩,by rw[ea];exact w_ _ bk.2 bk.1,vo⟩ (by rw[ea];exact bk.2.wide (by lia) (by lia)) (by show (pendingOf aD).size+1=_;rw[m.pend];exact Qx)
 by_cases f3:na-k<=k2
 .rw[av f3];exact aJ (xB hC Kr T fun out aD hp m=>last out aD hp m)
 .rw[au f3];exact aJ (xF hC Kr T fun out aD hp m=>last out aD hp m)
theorem xH[Decidable c]:(if c then x-1 else x)<=x:=by split <;> lia
theorem SR.pw{lo:Nat}{st:SortSt}(h:SR κ a₀ key lo st)(i p:Nat):SR κ a₀ key lo (setPending st ((pendingOf st).modify i fun r=>(r.1,r.2.1,p))):=by
 obtain⟨pd,hq,hr,hl⟩:=h;refine⟨_,⟨hq.perm,hq.kind,hq.failed,rfl⟩,?_,hl⟩;show gQ key (arrOf st) ((pendingOf st).modify i fun r=>(r.1,r.2.1,p)).toList 0 lo;rw[hq.pend,Array.toList_modify];exact hr.pw i p
theorem SR.push{lo n:Nat}{st:SortSt}(h:SR κ a₀ key lo st)(h1:1<=n)(hn:lo+n<=a₀.size)(so:So key (arrOf st) lo (lo+n)):SR κ a₀ key (lo+n) (setPending st ((pendingOf st).push (lo,n,0))):=by
 obtain⟨pd,hq,hr,hl⟩:=h;refine⟨_,⟨hq.perm,hq.kind,hq.failed,rfl⟩,?_,hn⟩;show gQ key (arrOf st) ((pendingOf st).push (lo,n,0)).toList 0 (lo+n);rw[hq.pend,iQ];exact hr.push h1 so
theorem Dy{st:SortSt}{Q:Unit->SortSt->Prop}(hC:oM prog w A s κ a₀ key)(hp:(arrOf st).Perm a₀)(hk:kindOf st=κ)(hf:failedOf st=none)(Ml:pendingOf st=#[])(h:∀aD,(arrOf aD).Perm a₀->failedOf aD=none->So key (arrOf aD) 0 a₀.size->Q () aD):wpS (model prog w) A E s sortRuns' Q st:=by
 have h0:SR κ a₀ key 0 st:=⟨#[],⟨hp,hk,hf,Ml⟩,rfl,bT _⟩
 have gJ:(arrOf st).size=a₀.size:=hp.size_eq;rw[sortRuns'_eq];refine aJ (eG ?_);dsimp only;rw[gJ];refine aJ (dO (dW (I:=fun i c aD=>∃lo,c=(none,lo)/\SR κ a₀ key lo aD/\i<=lo) (Q:=fun c aD=>∃lo,c=(none,lo)/\SR κ a₀ key lo aD/\a₀.size<=lo) ?_ (fun c aD ⟨lo,a,b,c⟩=>⟨lo,a,b,by lia⟩) ⟨0,rfl,h0,by lia⟩) ?_)
 .rintro i c rZ _ _ ⟨lo,rfl,hR,hil⟩;by_cases e1:lo>=a₀.size
  .dsimp only;rw[av e1];exact aF ⟨lo,rfl,hR,e1⟩
  have vo:lo<a₀.size:=by lia
  obtain⟨pd,hq,hr,hl⟩:=hR;dsimp only;rw[au e1];refine aJ (Dx hC (by lia) (by lia) hq fun n e8 Ks n1 n2 so ou=>?_);have TJ:gQ key (arrOf e8) pd.toList 0 lo:=hr.keep fun i _ h2=>ou i (.inl h2);dsimp only;by_cases hm:n<minRun' a₀.size a₀.size 0
  .rw[av hm];refine aJ (jc (fN ⟨rfl,?_⟩));refine aJ (Io hC (by lia) (by lia) Ks so fun gI YY Zf Fv=>?_);simp only[qx,f8,eJ];have yB:SR κ a₀ key lo gI:=⟨pd,YY,TJ.keep fun i _ h2=>Fv i (.inl h2),hl⟩
   refine aJ (eG ?_);cases hb:(pendingOf gI).back? with
   |none=>
    dsimp only;exact aJ (eS (aF ⟨_,rfl,SR.push yB (by lia) (by lia) Zf,by lia⟩))
   |some r=>
    obtain⟨s1,n1',pw1⟩:=r;dsimp only;refine aJ (dO (dW (I:=fun _ c aD=>c=(none,())/\SR κ a₀ key lo aD/\So key (arrOf aD) lo (lo+min (a₀.size-lo) (minRun' a₀.size a₀.size 0))) (Q:=fun c aD=>c=(none,())/\SR κ a₀ key lo aD/\So key (arrOf aD) lo (lo+min (a₀.size-lo) (minRun' a₀.size a₀.size 0))) ?_ (fun c aD hh=>hh) ⟨rfl,yB,Zf⟩) ?_)
    .rintro x c ph _ _ ⟨rfl,oO,Fz⟩;refine aJ (eG ?_);by_cases hs:(pendingOf ph).size > 1
     .rw[av hs,dB (pendingOf ph) ((pendingOf ph).size-2) (by lia)];generalize (pendingOf ph)[(pendingOf ph).size-2]=r4;obtain⟨_,_,Qy⟩:=r4;dsimp only;split
      .exact aF ⟨rfl,oO,Fz⟩
      .refine aJ (j3 hC oO (by lia) fun Bq Mm ou _=>?_);simp only[qx,f8,eJ];exact aF ⟨rfl,Mm,Fz.keep fun i h1 _=>ou i (.inr h1)⟩
     .rw[au hs];exact aF ⟨rfl,oO,Fz⟩
    .rintro c ph ⟨rfl,oO,Fz⟩;dsimp only;exact aJ (eS (aJ (eS (aF ⟨_,rfl,(oO.pw _ _).push (by lia) (by lia) Fz,by lia⟩))))
  .rw[au hm];have yB:SR κ a₀ key lo e8:=⟨pd,Ks,TJ,hl⟩
   refine aJ (eG ?_);cases hb:(pendingOf e8).back? with
   |none=>
    dsimp only;exact aJ (eS (aF ⟨_,rfl,SR.push yB n1 (by lia) so,by lia⟩))
   |some r=>
    obtain⟨s1,n1',pw1⟩:=r;dsimp only;refine aJ (dO (dW (I:=fun _ c aD=>c=(none,())/\SR κ a₀ key lo aD/\So key (arrOf aD) lo (lo+n)) (Q:=fun c aD=>c=(none,())/\SR κ a₀ key lo aD/\So key (arrOf aD) lo (lo+n)) ?_ (fun c aD hh=>hh) ⟨rfl,yB,so⟩) ?_)
    .rintro x c ph _ _ ⟨rfl,oO,Fz⟩;refine aJ (eG ?_);by_cases hs:(pendingOf ph).size > 1
     .rw[av hs,dB (pendingOf ph) ((pendingOf ph).size-2) (by lia)];generalize (pendingOf ph)[(pendingOf ph).size-2]=r4;obtain⟨_,_,Qy⟩:=r4;dsimp only;split
      .exact aF ⟨rfl,oO,Fz⟩
      .refine aJ (j3 hC oO (by lia) fun Bq Mm ou _=>?_);simp only[qx,f8,eJ];exact aF ⟨rfl,Mm,Fz.keep fun i h1 _=>ou i (.inr h1)⟩
     .rw[au hs];exact aF ⟨rfl,oO,Fz⟩
    .rintro c ph ⟨rfl,oO,Fz⟩;dsimp only;exact aJ (eS (aJ (eS (aF ⟨_,rfl,(oO.pw _ _).push n1 (by lia) Fz,by lia⟩))))
 .rintro c rZ ⟨lo,rfl,hR,vo⟩;dsimp only;refine aJ (dO (dW (I:=fun i c aD=>c=(none,())/\SR κ a₀ key lo aD/\(pendingOf aD).size<=max 1 (a₀.size-i)) (Q:=fun c aD=>c=(none,())/\SR κ a₀ key lo aD/\(pendingOf aD).size<=1) ?_ ?_ ⟨rfl,hR,?_⟩) ?_)
  .rintro x c ph _ _ ⟨rfl,oO,hz⟩;refine aJ (eG ?_);by_cases hs:(pendingOf ph).size<=1
   .rw[av hs];exact aF ⟨rfl,oO,hs⟩
   rw[au hs];refine aJ (j3 hC oO ?_ fun Bq Mm _ hz5=>?_)
   .exact eU (Nat.succ_le_succ xH) (show (pendingOf ph).size-2+1<(pendingOf ph).size by lia)
   .simp only[qx,f8,eJ];exact aF ⟨rfl,Mm,by lia⟩
  .rintro c ph ⟨rfl,oO,hz⟩;exact⟨rfl,oO,by lia⟩
  .obtain⟨pd,hq,hr,hl⟩:=hR;have:=hr.le;rw[hq.pend];simp at this;lia
  .rintro c ph ⟨rfl,⟨pd,hq,hr,hl⟩,hz⟩;refine aF (h _ hq.perm hq.failed ?_);rw[hq.pend] at hz;have Vt:pd.toList.length<=1:=by simpa using hz
   have e:lo=a₀.size:=by lia
   subst e;revert Vt;revert hr;cases pd.toList with
   |nil=>intro hr _ i j _ _ hj;have:0=a₀.size:=hr;lia
   |cons r rs=>
    cases rs with
    |nil=>intro hr _;obtain⟨_,_,so,e⟩:=hr;have e:0+r.2.1=a₀.size:=e;rw[<-e];exact so
    |cons r2 rs=>intro _ hz;simp at hz
end
end PyProof.Rows
namespace L2
open PySem PySem.Spec PyProof.Rows PySem.W
def jm(h:Heap)(g:Addr->Int×Int)(vs:List Value):Prop:=∀v∈vs,∃a o n t u,v=Value.ref a/\h.get? a=some o/\o.cls=.type "tuple"/\o.data=.seq #[.int (g a).1 t,.int (g a).2 u] n/\0<=(g a).2/\(g a).2<64
def pk(u:Int×Int):Int:=64*u.1+u.2
def kv(g:Addr->Int×Int)(v:Value):Int:=match v with
 |.ref a=>pk (g a)
 |_=>0
theorem jm.qF:∀ {vs:List Value},jm h g vs->∃fs,KatTups h vs fs/\fs.length=vs.length/\∀v∈fs,∃n t,v=Value.int n t
 |[],_=>⟨[],trivial,rfl,fun v hv=>nomatch hv⟩
 |v::vs,hp=>by
  obtain⟨fs,k1,k2,k3⟩:=jm.qF (vs:=vs) fun b hb=>hp b (cW _ hb);obtain⟨a,o,n,t,u,rfl,e,c,d,_⟩:=hp v bp;refine⟨.int (g a).1 t::fs,KatTups.cons e c d rfl k1,by simp[k2],fun v hv=>?_⟩;rcases bg.mp hv with z|z
  .exact⟨_,t,z⟩
  .exact k3 v z
section
variable {prog:Program} {w:World} {A:Around} {E:Value->Shared->Prop} {s:Shared} {g:Addr->Int×Int}
theorem Dz(hp:jm s.heap g vs):oM prog w A s (tuples' true) (vs.toArray.zip vs.toArray) (fun x=>kv g x.1):=by
 have mem:∀x∈(vs.toArray.zip vs.toArray).toList,x.1∈vs:=by
  intro x hx;rw[zw] at hx;exact(qt hx).1
 intro x y hx hy Q E' q;obtain⟨a,o,n,t1,t2,e1,eo,_,ed,a1,a2⟩:=hp x.1 (mem x hx);obtain⟨b,o',n',u1,u2,e2,eo',_,ed',b1,b2⟩:=hp y.1 (mem y hy);replace q:∀c,c=decide (kv g x.1<kv g y.1)->Q c s:=fun c e=>e ▸ q;rw[e1,e2] at q;rw[e1,e2];replace q:∀c,c=decide (64*(g a).1+(g a).2<64*(g b).1+(g b).2)->Q c s:=q;generalize (g a).1=x1 at *;generalize (g a).2=x2 at *;generalize (g b).1=y1 at *;generalize (g b).2=y2 at *;refine kat_lt eo ed eo' ed' (kat_cons (zF ?_));by_cases h1:x1=y1
 .rw[fh.mpr h1];refine kat_yes (kat_cons (zF ?_));by_cases h2:x2=y2
  .rw[fh.mpr h2];exact kat_yes (kat_nil (q _ (by
    have e:decide (64*x1+x2<64*y1+y2)=false:=fc (by lia);rw[e];rfl)))
  .rw[k9.mpr h2];exact kat_no (kat_one _ _ (lt_int (q _ (by congr 1;rw[eq_iff_iff];lia))))
 .rw[k9.mpr h1];exact kat_no (oneLt_int (q _ (by congr 1;rw[eq_iff_iff];lia)))
theorem Ix{vs:List Value}:((vs.toArray.zip vs.toArray).map (·.2)).toList=vs:=by
 rw[ng,zw];show (vs.zip vs).map (·.2)=vs;rw[<-List.unzip_snd,List.unzip_zip_right (aN _)]
theorem FB{l:List Value}{p:Value×Value}:p∈l.zip l->p.2=p.1:=by
 induction l with
 |nil=>intro h;cases h
 |cons x l ih=>
  intro h;rw[List.zip_cons_cons] at h;rcases bg.mp h with z|z
  .rw[z]
  .exact ih z
theorem pi(ho:s.heap.get? a=some (seqObj "list" vs.toArray n))(hp:jm s.heap g vs)(hz:vs.length<=4096)(h:∀ (out:Array Value),out.toList.Perm vs->out.toList.Pairwise (fun u v=>kv g u<=kv g v)->P (.done (.ret .none)) { s with heap:=sortedHeap s.heap a vs out }):
  wpAny (model prog w) A (Builtin.«list.sort» ⟨[.ref a],[]⟩) P E s:=by
 rw[list_sort_plain];have ha:a<s.heap.objs.size:=aS ho;have TL:vs.toArray.size<=sizeLine:=by rw[cu,gc];lia
 refine aA (listItems_at ho rfl ?_);refine aA (lz ho rfl ?_ TL (bT _));obtain⟨e1,Mn⟩:∃e1,(s.heap.update a (Obj.mapSeq fun _=>#[])).get? a=some (seqObj "list" #[] e1):=⟨_,ny ho (fun _=>#[])⟩
 refine aA (qE Mn rfl ?_);refine aA (wpAny_newTuple ?_ (by show vs.length<=_;rw[gc];lia));refine aA (u0 ?_ (bT _));refine gy ?_;have Ow:(((s.heap.update a (Obj.mapSeq fun _=>#[])).push (seqObj "tuple" vs.toArray 0)).push (seqObj "list" #[] 0)).get? a=some (seqObj "list" #[] e1):=by
  rw[ir _ _ _ (by rw[iC,gx];exact aQ (eI ha)),ir _ _ _ (by rw[gx];exact aQ ha)];exact Mn
 have DA:jm (((s.heap.update a (Obj.mapSeq fun _=>#[])).push (seqObj "tuple" vs.toArray 0)).push (seqObj "list" #[] 0)) g vs:=by
  intro v hv;obtain⟨b,o,n,t,u,ev,e,c,d⟩:=hp v hv;have hb:b<s.heap.objs.size:=aS e;have lF:b≠a:=by
   rintro rfl;rw[ho] at e;cases e;exact absurd (Value.type.inj c) (by decide)
  refine⟨b,o,n,t,u,ev,?_,c,d⟩;rw[ir _ _ _ (by rw[iC,gx];exact aQ (eI hb)),ir _ _ _ (by rw[gx];exact aQ hb),m8 _ _ _ _ lF];exact e
 show wpAny (model prog w) A _ P E { s with heap:=((s.heap.update a (Obj.mapSeq fun _=>#[])).push (seqObj "tuple" vs.toArray 0)).push (seqObj "list" #[] 0) };dsimp only;have fin:∀aD:SortSt,(arrOf aD).Perm (vs.toArray.zip vs.toArray)->So (fun x=>kv g x.1) (arrOf aD) 0 (arrOf aD).size->P (.done (.ret .none)) { s with heap:=sortedHeap s.heap a vs ((arrOf aD).map (·.2)) }:=by
  intro aD Ox so;refine h _ ?_ ?_
  .have:=(jC.mp Ox).map (·.2);rw[<-ng,<-ng,Ix] at this;exact this
  .have same:∀p∈(arrOf aD).toList,p.2=p.1:=by
    intro p hp;have:=(jC.mp Ox).mem_iff.mp hp;rw[zw] at this;exact FB this
   rw[ng,f9];refine tq.mpr fun i j hi hj tG=>?_;rw[same _ (eX hi),same _ (eX hj)];have:=so i j (by lia) (by lia) (by simpa using hj);rw[cg (by simpa using hi),cg (by simpa using hj)] at this;simpa using this
 have VF:(vs.toArray.zip vs.toArray).size=vs.length:=by simp
 by_cases h2:vs.toArray.size<2
 .rw[av h2,av h2];refine aA (wpAny_pure ?_);rw[StateT.run_pure];refine aA (wpAny_pure ?_);dsimp only;refine aA (qE Ow rfl ?_);refine aA (lz Ow rfl ?_ (bT _) (by show ((vs.toArray.zip vs.toArray).map (·.2)).size<=_;rw[jE,VF,gc];lia));simp only[zh,f8,eJ];exact wpAny_pure (fin (SortSt.mk' general' (vs.toArray.zip vs.toArray) #[] 7 none) (zB _) fun i j _ h3 h4=>by
   have h4:j<(vs.toArray.zip vs.toArray).size:=h4;rw[VF] at h4;rw[cu] at h2;rw[show i=j by lia];exact fL _)
 .rw[au h2,au h2];have fm:2<=vs.length:=by rw[cu] at h2;lia
  obtain⟨fs,k1,k2,k3⟩:=DA.qF;refine aA (kat_kind (T:=.type "int") k1 (by lia) (fun v hv=>?_) rfl ?_)
  .obtain⟨m,t,rfl⟩:=k3 v hv;exact .now
  refine aA (jb (Dy (a₀:=vs.toArray.zip vs.toArray) (κ:=tuples' true) (st:=SortSt.mk' (tuples' true) (vs.toArray.zip vs.toArray) #[] 7 none)
   (Q:=fun _ aD=>(arrOf aD).Perm (vs.toArray.zip vs.toArray)/\failedOf aD=none/\So (fun x=>kv g x.1) (arrOf aD) 0 (vs.toArray.zip vs.toArray).size) (Dz DA) (zB _) rfl rfl rfl fun aD b1 b2 b3=>⟨b1,b2,b3⟩) ?_ fun _ _ e=>e)
  rintro⟨⟨⟩,aD⟩ s' ⟨rfl,Ox,hf,so⟩;dsimp only;refine aA (qE Ow rfl ?_);refine aA (lz Ow rfl ?_ (bT _) (by refine a8 (qA ((jE ..).trans (Ox.size_eq.trans VF))) ?_;rw[gc];lia));rw[hf];simp only[zh,f8,eJ];exact wpAny_pure (fin aD Ox (by rw[Ox.size_eq];exact so))
theorem vJ(hl:s.heap.IsList l vs.toArray)(hp:jm s.heap g vs)(hz:vs.length<=4096)(h:∀ (out:Array Value),out.toList.Perm vs->out.toList.Pairwise (fun u v=>kv g u<=kv g v)->Q (.ref (s.heap.objs.size+1)) { s with heap:=sortedAll s.heap vs out }):
  wpAny (model prog w) A (call (.builtin "sorted") [.ref l]) Q E s:=by
 have TL:vs.length<=sizeLine:=by rw[gc];lia
 refine Calls.call_function_entry kind_sorted plain_sorted entry_sorted (args_sorted1 _) ?_;unfold Builtin.«sorted»;refine aA (m:=checkCount "sorted" 1 1 _) (wpAny_pure ?_);refine aA (collect_list hl ?_ TL);refine aA (u0 ?_ TL);have gJ:((s.heap.push (seqObj "list" #[] 0)).update s.heap.objs.size (Obj.mapSeq (·++vs.toArray))).objs.size=s.heap.objs.size+1:=by
  rw[gx,iC]
 have CS:(((s.heap.push (seqObj "list" #[] 0)).update s.heap.objs.size (Obj.mapSeq (·++vs.toArray))).push (seqObj "list" vs.toArray 0)).get? (s.heap.objs.size+1)=some (seqObj "list" vs.toArray 0):=by
  rw[<-gJ];exact cX _ rfl
 have xI:jm (((s.heap.push (seqObj "list" #[] 0)).update s.heap.objs.size (Obj.mapSeq (·++vs.toArray))).push (seqObj "list" vs.toArray 0)) g vs:=by
  intro v hv;obtain⟨b,o,n,t,u,ev,e,c,d⟩:=hp v hv;have hb:b<s.heap.objs.size:=aS e;refine⟨b,o,n,t,u,ev,?_,c,d⟩;rw[ir _ _ _ (by rw[gJ];exact aQ (eI hb)),m8 _ _ _ _ (aQ hb),ir _ _ _ (aQ hb)];exact e
 show wpAny _ _ _ _ _ { s with heap:=((s.heap.push (seqObj "list" #[] 0)).update s.heap.objs.size (Obj.mapSeq (·++vs.toArray))).push (seqObj "list" vs.toArray 0) };rw[gJ];refine aA (gy (nr slot_list_sort ⟨_,CS,rfl⟩ entry_list_sort (pi CS xI hz fun out a1 a2=>⟨_,rfl,?_⟩) (args_list_sort _)));exact wpAny_pure ⟨_,rfl,h out a1 a2⟩
end
theorem rn:∀ {as:List Addr} {its:List Value},aT (as.map V.ref) its->its=as.map Value.ref
 |[],_,r=>by cases r;rfl
 |a::as,_,r=>by
  cases r with
  |cons r rr=>
   obtain rfl:=(show _=Value.ref a from r)
   rw[rn rr];rfl
theorem ub:∀ {as:List Addr},aT (as.map V.ref) (as.map Value.ref)
 |[]=>.nil
 |_::_=>.cons rfl ub
theorem DB(h:vs.Perm (as.map Value.ref)):∃wx:List Addr,vs=wx.map Value.ref/\wx.Perm as:=by
 let un:Value->Addr:=fun v=>match v with|.ref a=>a|_=>0
 refine⟨vs.map un,?_,?_⟩
 .rw[cQ];have:∀v∈vs,(Value.ref ∘ un) v=v:=by
   intro v hv;obtain⟨a,_,rfl⟩:=bh.mp (h.mem_iff.mp hv);rfl
  conv=>lhs;rw[<-lx vs]
  exact jt fun v hv=>(this v hv).symm
 .have:=h.map un;rw[cQ] at this;have e:as.map (un ∘ Value.ref)=as:=by
   conv=>rhs;rw[<-lx as]
   exact jt fun a _=>rfl
  rw[e] at this;exact this
def FE(K:PySem.W.Frag):List V->Hp->VK->Prop:=fun xs H Q=>∃ (l:Addr) (as:List Addr) (g:Addr->Int×Int),xs=[.ref l]/\aZ K H l (as.map V.ref)/\(∀a∈as,c_ K H a [.int (g a).1,.int (g a).2]/\0<=(g a).2/\(g a).2<64)/\as.length<=4096/\
 ∀ (D:Addr) (wx:List Addr),H D=none->wx.Perm as->wx.Pairwise (fun a b=>pk (g a)<=pk (g b))->Q (.ref D) (upd H D (.lst (wx.map V.ref)))
theorem rp:eK X (.builtin "sorted") (FE X.K):=by
 intro ae s σ H xs us Q I r h;obtain⟨l,as,g,rfl,hl,hp,hz,q⟩:=h;obtain⟨u1,rfl,r1⟩:=r.one;obtain rfl:u1=Value.ref l:=r1;obtain⟨its,rv,pl,_⟩:=I.list hl;have Aj:=rn rv;subst Aj;have hpv:jm s.heap g (as.map Value.ref):=by
  intro v hv;obtain⟨a,ha,rfl⟩:=bh.mp hv;obtain⟨r6,b1,b2⟩:=hp a ha;obtain⟨its,r,⟨o,e,c,n,d⟩,_⟩:=I.tuple r6;obtain⟨u1,u2,rfl,r1,r2⟩:=r.two;obtain⟨t,rfl⟩:=r1;obtain⟨t',rfl⟩:=r2;exact⟨a,o,n,t,t',rfl,e,c,d,b1,b2⟩
 refine vJ pl.isList hpv (by rw[aW];exact hz) fun out Qz QA=>?_;obtain⟨wx,eo,pa⟩:=DB Qz;have Dp:out=(wx.map Value.ref).toArray:=by rw[<-eo]
 subst Dp;have ho:wx.Pairwise (fun a b=>pk (g a)<=pk (g b)):=by
  rw[eo,f9] at QA;exact QA
 have VG:((s.heap.push (seqObj "list" #[] 0)).update s.heap.objs.size (Obj.mapSeq (·++(as.map Value.ref).toArray))).objs.size=s.heap.objs.size+1:=by rw[gx,iC]
 have k1:∀b u,s.heap.get? b=some u->(((s.heap.push (seqObj "list" #[] 0)).update s.heap.objs.size (Obj.mapSeq (·++(as.map Value.ref).toArray))).push (seqObj "list" (as.map Value.ref).toArray 0)).get? b=some u:=fun b u e=>by
  have hb:b<s.heap.objs.size:=aS e;rw[ir _ _ _ (by rw[VG];exact aQ (eI hb)),m8 _ _ _ _ (aQ hb),ir _ _ _ (aQ hb)];exact e
 have CS:(((s.heap.push (seqObj "list" #[] 0)).update s.heap.objs.size (Obj.mapSeq (·++(as.map Value.ref).toArray))).push (seqObj "list" (as.map Value.ref).toArray 0)).get? (s.heap.objs.size+1)=some (seqObj "list" (as.map Value.ref).toArray 0):=by
  rw[<-VG];exact cX _ rfl
 have Oy:(((s.heap.push (seqObj "list" #[] 0)).update s.heap.objs.size (Obj.mapSeq (·++(as.map Value.ref).toArray))).push (seqObj "list" (as.map Value.ref).toArray 0)).objs.size=s.heap.objs.size+2:=by rw[iC,VG]
 show EP X ae σ Q (.ref (s.heap.objs.size+1)) { s with heap:=sortedHeap (((s.heap.push (seqObj "list" #[] 0)).update s.heap.objs.size (Obj.mapSeq (·++(as.map Value.ref).toArray))).push (seqObj "list" (as.map Value.ref).toArray 0)) (s.heap.objs.size+1) (as.map Value.ref) (wx.map Value.ref).toArray };revert k1 CS Oy;generalize ((s.heap.push (seqObj "list" #[] 0)).update s.heap.objs.size (Obj.mapSeq (·++(as.map Value.ref).toArray))).push (seqObj "list" (as.map Value.ref).toArray 0)=h1;intro k1 CS Oy;obtain⟨e1,Mn⟩:∃e1,(h1.update (s.heap.objs.size+1) (Obj.mapSeq fun _=>(#[]:Array Value))).get? (s.heap.objs.size+1)=some (seqObj "list" #[] e1):=⟨_,ny CS (fun _=>#[])⟩
 have Ow:(((h1.update (s.heap.objs.size+1) (Obj.mapSeq fun _=>(#[]:Array Value))).push (seqObj "tuple" (as.map Value.ref).toArray 0)).push (seqObj "list" #[] 0)).get? (s.heap.objs.size+1)=some (seqObj "list" #[] e1):=by
  rw[ir _ _ _ (by rw[iC,gx,Oy];exact aQ (eI (i7 _))),ir _ _ _ (by rw[gx,Oy];exact aQ (i7 _))];exact Mn
 obtain⟨e2,ho7⟩:∃e2,(sortedHeap h1 (s.heap.objs.size+1) (as.map Value.ref) (wx.map Value.ref).toArray).get? (s.heap.objs.size+1)=some (seqObj "list" (wx.map Value.ref).toArray e2):=⟨_,ny Ow (fun _=>(wx.map Value.ref).toArray)⟩
 have keep:∀b u,s.heap.get? b=some u->(sortedHeap h1 (s.heap.objs.size+1) (as.map Value.ref) (wx.map Value.ref).toArray).get? b=some u:=fun b u e=>by
  have hb:b<s.heap.objs.size:=aS e;unfold sortedHeap;rw[m8 _ _ _ _ (aQ (eI hb)),ir _ _ _ (by rw[iC,gx,Oy];exact aQ (eI (eI (eI hb)))),ir _ _ _ (by rw[gx,Oy];exact aQ (eI (eI hb))),m8 _ _ _ _ (aQ (eI hb))];exact k1 b u e
 have B3:s.heap.get? (s.heap.objs.size+1)=none:=qh (by lia);refine⟨.ref (s.heap.objs.size+1),_,I.BB (t':=s.toks) (o:=.lst (wx.map V.ref)) keep B3 ⟨?_,wx.map Value.ref,e2,ub,ho7⟩,rfl,q _ wx (I.bZ.vx B3) pa ho⟩;rw[aW,pa.length_eq];exact a8 hz (by decide)
open PySem PySem.Spec PyProof.Rows
section
variable {prog:Program} {w:World} {A:Around} {E:Value->Shared->Prop} {s:Shared}
end
section
variable {X:Cx}
theorem As(rx:aT xs us)(ry:aT ys vs)(fx:xs.all fq=true)(fy:ys.all fq=true):
  ∀j (h1:j<us.toArray.size) (h2:j<vs.toArray.size),SeqAt.EqAt A s us.toArray[j] vs.toArray[j] (sE (xs.getD j .cS) (ys.getD j .cS)):=by
 intro j h1 h2;have j1:j<xs.length:=by rw[rx.length];simpa using h1
 have j2:j<ys.length:=by rw[ry.length];simpa using h2
 have e1:xs[j]?=some (xs.getD j .cS):=by rw[b_,bH j1];rfl
 have e2:ys[j]?=some (ys.getD j .cS):=by rw[b_,bH j2];rfl
 obtain⟨u,VH,ru⟩:=rx.get e1;obtain⟨v,VI,rv⟩:=ry.get e2;have eu:us.toArray[j]=u:=by
  have:us[j]?=some us.toArray[j]:=by simp at h1 |-
  rw[VH] at this;exact(bN this).symm
 have ev:vs.toArray[j]=v:=by
  have:vs[j]?=some vs.toArray[j]:=by simp at h2 |-
  rw[VI] at this;exact(bN this).symm
 rw[eu,ev];exact zW ru rv (i9.mp fx _ (dj e1)) (i9.mp fy _ (dj e2))
theorem FF(I:aO X ae σ H s)(hu:A.units+1<cLine)(ha:c_ X.K H a xs)(hb:c_ X.K H b ys)(hl:xs.length=ys.length)(fx:xs.all fq=true)(fy:ys.all fq=true):
  SeqAt.EqAt A s (.ref a) (.ref b) (oG sE xs ys):=by
 by_cases pq:a=b
 .subst pq;have e1:=I.iS ha hb;subst e1;have e2:oG sE xs xs=true:=by
   clear ha hb hl fy;induction xs with
   |nil=>rfl
   |cons x xs ih=>
    rw[jM,gw] at fx;rw[oG,ih fx.2,Bool.and_true];cases x <;> first|rfl|(show (_==_)=true;simp)|exact absurd (show false=true from fx.1) cr
  rw[e2];exact SeqAt.EqAt.same _
 .obtain⟨us,r1,p1,_⟩:=I.tuple ha;obtain⟨vs,r2,p2,_⟩:=I.tuple hb;have h:=SeqAt.RcAt.tuples (A:=A) (s:=s) (l:=a) (b:=b) (e:=fun i=>sE (xs.getD i .cS) (ys.getD i .cS)) (show s.heap.IsTuple a us.toArray from p1) (show s.heap.IsTuple b vs.toArray from p2) (by lia)
   (As r1 r2 fx fy)
  refine SeqAt.EqAt.of_refs pq ?_;have er:((List.range (min us.toArray.size vs.toArray.size)).all (fun i=>sE (xs.getD i .cS) (ys.getD i .cS))&&us.toArray.size==vs.toArray.size)=oG sE xs ys:=by
   rw[cu,cu,<-r1.length,<-r2.length,<-hl,qz,beq_self_eq_true,Bool.and_true,oH hl]
  rw[er] at h;exact h
theorem At{p q:Int×Int}:oG sE [.int p.1,.int p.2] [.int q.1,.int q.2]=decide (p=q):=by
 obtain⟨a,b⟩:=p;obtain⟨c,d⟩:=q;show ((a==c)&&((b==d)&&true))=decide ((a,b)=(c,d));by_cases h1:a=c <;> by_cases h2:b=d <;> simp[h1,h2]
def QB(K:PySem.W.Frag)(Pz:Bool):R2:=fun x y H Q=>∃ (p l:Addr) (u:Int×Int) (as:List Addr) (ps:List (Int×Int)),x=.ref p/\y=.ref l/\c_ K H p [.int u.1,.int u.2]/\aZ K H l (as.map V.ref)/\as.length=ps.length/\(∀i,i<ps.length->c_ K H (as.getD i 0) [.int (ps.getD i (0,0)).1,.int (ps.getD i (0,0)).2])/\
 Q (.bl (if Pz then !decide (u∈ps) else decide (u∈ps))) H
open Classical in
theorem B4(I:aO X ae σ H s):∀ {as:List Addr} {ps:List (Int×Int)},as.length=ps.length->(∀i,i<ps.length->c_ X.K H (as.getD i 0) [.int (ps.getD i (0,0)).1,.int (ps.getD i (0,0)).2])->
  ((as.map Value.ref).any fun v=>decide (∃a,v=Value.ref a/\c_ X.K H a [.int u.1,.int u.2]))=decide (u∈ps)
 |[],[],_,_=>by simp
 |a::as,p::ps,hl,h=>by
  have ih:=B4 I (u:=u) (as:=as) (ps:=ps) (by simpa using hl) (fun i hi=>h (i+1) (by simpa using hi));have h0:c_ X.K H a [.int p.1,.int p.2]:=h 0 (by simp);rw[ff,nw,ih];have e:decide (∃b,Value.ref a=Value.ref b/\c_ X.K H b [.int u.1,.int u.2])=decide (u=p):=by
   rw[jK,uJ,uJ];constructor
   .rintro⟨b,e,hb⟩;cases e;have:=I.iS h0 hb;have e1:p.1=u.1:=V.int.inj (lr this).1;have e2:p.2=u.2:=V.int.inj (lr (lr this).2).1;exact g9 e1.symm e2.symm
   .rintro rfl;exact⟨a,rfl,h0⟩
  rw[e];by_cases z:u=p
  .simp[z]
  .simp[z]
open Classical in
theorem FG{ae:List (Addr×Obj)}{σ:St}{H:Hp}{s:Shared}{A:Around}(I:aO X ae σ H s)(hu:A.units+1<cLine){p:Addr}{u:Int×Int}(hp:c_ X.K H p [.int u.1,.int u.2]){as:List Addr}{ps:List (Int×Int)}(hl:as.length=ps.length)(h:∀i,i<ps.length->c_ X.K H (as.getD i 0) [.int (ps.getD i (0,0)).1,.int (ps.getD i (0,0)).2]):∀v∈as.map Value.ref,SeqAt.EqAt A s v (.ref p) (decide (∃a,v=Value.ref a/\c_ X.K H a [.int u.1,.int u.2])):=by
 intro v hv;obtain⟨a,ha,rfl⟩:=bh.mp hv;obtain⟨i,hi,e⟩:=lW.mp ha;have hq:=h i (by lia);have ea:as.getD i 0=a:=by rw[b_,bH hi];exact e
 rw[ea] at hq;have z:=FF (A:=A) I hu hq hp rfl rfl rfl;rw[At] at z;have e:decide (∃b,Value.ref a=Value.ref b/\c_ X.K H b [.int u.1,.int u.2])=decide (ps.getD i (0,0)=u):=by
  rw[jK,uJ,uJ];constructor
  .rintro⟨b,e,hb⟩;cases e;have:=I.iS hq hb;exact g9 (V.int.inj (lr this).1) (V.int.inj (lr (lr this).2).1)
  .intro e;rw[<-e];exact⟨a,rfl,hq⟩
 rw[e];exact z
open Classical in
theorem n9(hu:X.A.units+2<cLine):l4 X (compareOp .NotIn) (QB X.K true):=by
 intro ae s σ H x y v u Q I rx ry h;obtain⟨p,l,w,as,ps,rfl,rfl,hp,hl,fm,Qx,q⟩:=h;obtain rfl:v=Value.ref p:=rx;obtain rfl:u=Value.ref l:=ry;obtain⟨its,r,pl,_⟩:=I.list hl;have e:=rn r;subst e;refine SeqAt.notIn_listAt (fun v=>decide (∃a,v=Value.ref a/\c_ X.K H a [.int w.1,.int w.2])) pl.isList (fun y hy=>FG I (by show X.A.units+1+1<cLine;lia) hp fm Qx y (by simpa using hy)) ⟨.bl _,H,I,rfl,?_⟩;rw[show (as.map Value.ref).toArray.any (fun v=>decide (∃a,v=Value.ref a/\c_ X.K H a [.int w.1,.int w.2]))=(as.map Value.ref).any (fun v=>decide (∃a,v=Value.ref a/\c_ X.K H a [.int w.1,.int w.2])) by simp,B4 I fm Qx];exact q
end
end L2
namespace jn
abbrev Ts:=List (Int×Int)
def T(ts:Ts)(a b:Nat):Prop:=(((a:Nat):Int),((b:Nat):Int))∈ts
instance (ts:Ts) (a b:Nat):Decidable (T ts a b):=inferInstanceAs (Decidable (_∈_))
def d8(ts:Ts):Nat->Nat->Nat->Prop
 |0,a,b=>a=b
 |k+1,a,b=>∃c,d8 ts k a c/\T ts c b
theorem d8.trans(h:d8 ts k a b):∀ {l:Nat} {c:Nat},d8 ts l b c->d8 ts (k+l) a c
 |0,_,e=>by cases e;exact h
 |l+1,_,⟨d,w,t⟩=>⟨d,h.trans w,t⟩
theorem d8.one(h:T ts a b):d8 ts 1 a b:=⟨a,rfl,h⟩
theorem d8.cons(h:T ts a b)(w:d8 ts k b c):d8 ts (k+1) a c:=by
 have:=(d8.one h).trans w;rwa [Nat.add_comm] at this
def uc(ts:Ts)(a b d:Nat):Prop:=d8 ts d a b/\∀k,d8 ts k a b->d<=k
theorem uc.uniq(h:uc ts a b d)(g:uc ts a b e):d=e:=Nat.le_antisymm (h.2 _ g.1) (g.2 _ h.1)
open Classical in
noncomputable def far(ts:Ts)(a b:Nat):Nat:=if h:∃d,uc ts a b d then h.choose else 0
theorem Mo(h:uc ts a b d):far ts a b=d:=by
 unfold far;have hx:∃d,uc ts a b d:=⟨d,h⟩
 rw[dif_pos hx];exact hx.choose_spec.uniq h
structure bS(n:Nat)(ts:Ts):Prop where
 n1:2<=n
 n2:n<=32
 nd:ts.Nodup
 rg:∀t∈ts,(0<=t.1/\t.1<n)/\(0<=t.2/\t.2<n)
 ne:∀t∈ts,t.1≠t.2
 DC:∀h:Int,(ts.filter fun t=>decide (t.1=h)).length=(ts.filter fun t=>decide (t.2=h)).length
 most:∀h:Int,(ts.filter fun t=>decide (t.1=h)).length<=8
 con:∀a b,a<n->b<n->∃k,d8 ts k a b
theorem DD(f:α->Int):∀ (l:List α) (n:Nat),(∀x∈l,0<=f x/\f x<n)->(∀h:Int,(l.filter fun t=>decide (f t=h)).length<=8)->l.length<=8*n:=by
 intro l n;induction n generalizing l with
 |zero=>
  intro h _;cases l with
  |nil=>simp
  |cons x xs=>have:=h x bp;lia
 |succ n ih=>
  intro h h8;have e:l.length=(l.filter fun t=>decide (f t=(n:Int))).length+(l.filter fun t=>!decide (f t=(n:Int))).length:=by
   induction l with
   |nil=>rfl
   |cons x xs ih2=>
    have:=ih2 (fun y hy=>h y (cW _ hy)) (fun hh=>a8 (by rw[eE];split <;> simp) (h8 hh));by_cases q:f x=(n:Int) <;> simp[eE,q] <;> lia
  have i2:=ih (l.filter fun t=>!decide (f t=(n:Int))) (fun x hx=>by
   have a:=h x (fE.mp hx |>.1);have b:=(fE.mp hx).2;simp at b;lia) (fun hh=>by
   refine a8 ?_ (h8 hh);exact(yY.filter _).length_le)
  have:=h8 (n:Int);lia
theorem bS.len(F:bS n ts):ts.length<=256:=by
 have:=DD (·.1) ts n (fun t ht=>(F.rg t ht).1) F.most;have:=F.n2;lia
theorem bS.Zg(F:bS n ts)(h:T ts a b):a<n/\b<n/\a≠b:=by
 have q:=F.rg _ h;have q2:=F.ne _ h;refine⟨by have:=q.1;simp at this;lia,by have:=q.2;simp at this;lia,fun e=>q2 (by rw[e])⟩
def dP(n:Nat)(ts:Ts)(h:Nat):List Nat:=((List.range n).map fun s=>(h+s) % n).filter fun o=>decide (T ts h o)
theorem hX(F:bS n ts)(hh:h<n):o∈dP n ts h↔T ts h o:=by
 unfold dP;rw[fE,qk];refine⟨fun z=>z.2,fun z=>⟨?_,z⟩⟩;obtain⟨_,h2,_⟩:=F.Zg z;refine bh.mpr ⟨if h<=o then o-h else o+n-h,bP.mpr (by split <;> lia),?_⟩;split
 .rw[show h+(o-h)=o by lia,kP h2]
 .rw[show h+(o+n-h)=o+n by lia,Nat.add_mod_right,kP h2]
theorem B5(F:bS n ts)(hh:h<n)(ho:o∈dP n ts h):o<n:=(F.Zg ((hX F hh).mp ho)).2.1
def key(n h o:Nat):Int:=((o:Int)-(h:Int)) % (n:Int)
theorem nZ(hh:h<n)(hs:s<n):key n h ((h+s) % n)=(s:Int):=by
 unfold key;by_cases c:h+s<n
 .rw[kP c,show (((h+s:Nat):Int)-(h:Int))=(s:Int) by lia];exact Int.emod_eq_of_lt (by lia) (by lia)
 .have e:(h+s) % n=h+s-n:=by
   rw[Nat.mod_eq_sub_mod (by lia),kP (by lia)]
  rw[e,show ((((h+s-n:Nat)):Int)-(h:Int))=(s:Int)-(n:Int) by lia,Int.sub_emod_right];exact Int.emod_eq_of_lt (by lia) (by lia)
theorem xJ(hh:h<n):(dP n ts h).Pairwise fun a b=>key n h a<key n h b:=by
 unfold dP;refine List.Pairwise.filter _ ?_;refine f9.mpr ?_;refine List.Pairwise.imp_of_mem ?_ (List.pairwise_lt_range (n:=n));intro a b ha hb pq;rw[nZ hh (bP.mp ha),nZ hh (bP.mp hb)];lia
theorem oP{α:Type}{k:α->Int}:∀ {a b:List α},a.Pairwise (fun x y=>k x<k y)->b.Pairwise (fun x y=>k x<k y)->(∀x,x∈a↔x∈b)->a=b
 |[],[],_,_,_=>rfl
 |[],y::ys,_,_,h=>absurd ((h y).mpr bp) (by simp)
 |x::xs,[],_,_,h=>absurd ((h x).mp bp) (by simp)
 |x::xs,y::ys,ha,hb,h=>by
  obtain⟨a1,a2⟩:=uL.mp ha;obtain⟨b1,b2⟩:=uL.mp hb;have e:x=y:=by
   rcases bg.mp ((h x).mp bp) with z|z
   .exact z
   .rcases bg.mp ((h y).mpr bp) with z'|z'
    .exact z'.symm
    .have q1:=b1 x z;have q2:=a1 y z';lia
  subst e;refine congrArg (x::·) (oP a2 b2 fun z=>⟨fun hz=>?_,fun hz=>?_⟩)
  .rcases bg.mp ((h z).mp (cW _ hz)) with q|q
   .subst q;exact absurd (a1 _ hz) (by lia)
   .exact q
  .rcases bg.mp ((h z).mpr (cW _ hz)) with q|q
   .subst q;exact absurd (b1 _ hz) (by lia)
   .exact q
structure yC(n:Nat)(ts:Ts)(s i:Nat)(R:List Nat)(f:Nat->Nat):Prop where
 nd:R.Nodup
 lt:∀x∈R,x<n
 st:s∈R
 z:f s=0
 wk:∀x∈R,d8 ts (f x) s x
 up:R.Pairwise fun a b=>f a<=f b
 bd:∀u,R[i]?=some u->∀x∈R,f x<=f u+1
 cl:∀j u,j<i->R[j]?=some u->∀v,T ts u v->v∈R/\f v<=f u+1
theorem yC.start(hs:s<n):yC n ts s 0 [s] (fun _=>0):=
 ⟨by simp,fun x hx=>by simp at hx;lia,by simp,rfl,fun x hx=>by simp at hx;subst hx;rfl,by simp,fun u _ x _=>by lia,fun j u h=>absurd h (by lia)⟩
def put(f:Nat->Nat)(v k:Nat):Nat->Nat:=fun y=>if y=v then k else f y
theorem iV:put f v k v=k:=by simp[put]
theorem fv(h:x≠v):put f v k x=f x:=by simp[put,h]
theorem yC.add(B:yC n ts s i R f)(hu:R[i]?=some u)(hv:v<n)(t:T ts u v)(hn:v∉R):yC n ts s i (R++[v]) (put f v (f u+1)):=by
 have Zh:u∈R:=dj hu;have nv:∀x∈R,x≠v:=fun x hx e=>hn (e ▸ hx);have hi:i<R.length:=(cJ.mp hu).1;refine⟨?_,fun x hx=>?_,fY _ B.st,by rw[fv (nv s B.st)];exact B.z,fun x hx=>?_,?_,fun w hw x hx=>?_,fun j w hj hw x hx=>?_⟩
 .rw[lf];exact⟨B.nd,by simp,fun a ha b hb e=>by simp at hb;subst hb;exact hn (e ▸ ha)⟩
 .rcases bO.mp hx with z|z
  .exact B.lt x z
  .simp at z;lia
 .rcases bO.mp hx with z|z
  .rw[fv (nv x z)];exact B.wk x z
  .simp at z;subst z;rw[iV];exact⟨u,B.wk u Zh,t⟩
 .rw[yT];refine⟨B.up.imp_of_mem fun {a b} ha hb h=>by rw[fv (nv a ha),fv (nv b hb)];exact h,by simp,fun a ha b hb=>?_⟩;simp at hb;subst hb;rw[fv (nv a ha),iV];exact B.bd u hu a ha
 .have hw':w=u:=by
   rw[gW hi,hu] at hw;exact(bN hw).symm
  subst hw';rw[fv (nv w Zh)];rcases bO.mp hx with z|z
  .rw[fv (nv x z)];exact B.bd w hu x z
  .simp at z;subst z;rw[iV];exact aN _
 .rw[gW (by lia)] at hw;obtain⟨a,b⟩:=B.cl j w hj hw x hx;refine⟨fY _ a,?_⟩;rw[fv (nv x a),fv (nv w (dj hw))];exact b
theorem yC.next(B:yC n ts s i R f)(hu:R[i]?=some u)(h:∀v,T ts u v->v∈R/\f v<=f u+1):yC n ts s (i+1) R f:=by
 refine⟨B.nd,B.lt,B.st,B.z,B.wk,B.up,fun w hw x hx=>?_,fun j w hj hw v hv=>?_⟩
 .have h1:=B.bd u hu x hx;have h2:f u<=f w:=by
   have hi:i<R.length:=(cJ.mp hu).1;have kC:i+1<R.length:=(cJ.mp hw).1;have:=tq.mp B.up i (i+1) hi kC (by lia);rw[bH hi] at hu;rw[bH kC] at hw;rw[bN hu,bN hw] at this;exact this
  lia
 .by_cases e:j=i
  .subst e;rw[hu] at hw;cases hw;exact h v hv
  .exact B.cl j w (by lia) hw v hv
theorem et:∀ {n:Nat} {R:List Nat},R.Nodup->(∀x∈R,x<n)->R.length<=n:=by
 intro n R hn hl;have key:∀ (a b:List Nat),a.Nodup->(∀x∈a,x∈b)->a.length<=b.length:=by
  intro a;induction a with
  |nil=>intro b _ _;exact bT _
  |cons x xs ih=>
   intro b hn hs;obtain⟨h1,h2⟩:=fA.mp hn;have hx:x∈b:=hs x bp;have:=ih (b.erase x) h2 fun y hy=>(List.mem_erase_of_ne (fun (e:y=x)=>h1 (e ▸ hy))).mpr (hs y (cW _ hy));rw[Ev hx] at this;have:0<b.length:=uA hx;rw[dS];lia
 have:=key R (List.range n) hn fun x hx=>bP.mpr (hl x hx);rwa [cK] at this
theorem yC.done(B:yC n ts s i R f)(F:bS n ts)(hi:R.length<=i)(hx:x<n):x∈R/\f x=far ts s x:=by
 have cl:∀u∈R,∀v,T ts u v->v∈R/\f v<=f u+1:=fun u hu v hv=>by
  obtain⟨j,hj,e⟩:=lW.mp hu;exact B.cl j u (by lia) (by rw[bH hj,e]) v hv
 have walk:∀k x,d8 ts k s x->x∈R/\f x<=k:=by
  intro k;induction k with
  |zero=>intro x e;cases e;exact⟨B.st,by rw[B.z];exact aN _⟩
  |succ k ih=>
   rintro x ⟨c,w,t⟩;obtain⟨c1,c2⟩:=ih c w;obtain⟨d1,d2⟩:=cl c c1 x t;exact⟨d1,by lia⟩
 obtain⟨k,w⟩:=F.con s x (B.lt s B.st) hx;obtain⟨m,_⟩:=walk k x w;exact⟨m,(Mo ⟨B.wk x m,fun k w=>(walk k x w).2⟩).symm⟩
theorem d8.mono(h:∀t∈ts,t∈VJ):∀ {k a b:Nat},d8 ts k a b->d8 VJ k a b
 |0,_,_,e=>e
 |_+1,_,_,⟨c,w,t⟩=>⟨c,w.mono h,h _ t⟩
structure yD(n:Nat)(ts:Ts):Prop where
 nd:ts.Nodup
 rg:∀t∈ts,(0<=t.1/\t.1<n)/\(0<=t.2/\t.2<n)
 ne:∀t∈ts,t.1≠t.2
 DC:∀h:Int,(ts.filter fun t=>decide (t.1=h)).length=(ts.filter fun t=>decide (t.2=h)).length
 most:∀h:Int,(ts.filter fun t=>decide (t.1=h)).length<=8
theorem bS.pre(F:bS n ts):yD n ts:=⟨F.nd,F.rg,F.ne,F.DC,F.most⟩
theorem yD.mn(P:yD n ts)(n1:2<=n)(n2:n<=32)(c:∀a b,a<n->b<n->∃k,d8 ts k a b):bS n ts:=⟨n1,n2,P.nd,P.rg,P.ne,P.DC,P.most,c⟩
theorem bS.perm(F:bS n ts)(p:VJ.Perm ts):bS n VJ:=
  ⟨F.n1,F.n2,p.nodup_iff.mpr F.nd,fun t ht=>F.rg t (p.mem_iff.mp ht),fun t ht=>F.ne t (p.mem_iff.mp ht),fun h=>by rw[(p.filter _).length_eq,(p.filter _).length_eq];exact F.DC h,
   fun h=>by rw[(p.filter _).length_eq];exact F.most h,fun a b ha hb=>let ⟨k,w⟩:=F.con a b ha hb;⟨k,w.mono fun t ht=>p.mem_iff.mpr ht⟩⟩
theorem bS.app(F:bS n ts)(P:yD n (ts++us)):bS n (ts++us):=
 P.mn F.n1 F.n2 fun a b ha hb=>let ⟨k,w⟩:=F.con a b ha hb;⟨k,w.mono fun t ht=>fY _ ht⟩
def pk(c k:Nat):Nat:=if k=0 then c-1 else k-1
abbrev ci(x:Nat):Int:=(x:Int)
def sQ(xs:List Nat):Ts:=(List.range xs.length).map fun k=>(ci (xs.getD (pk xs.length k) 0),ci (xs.getD k 0))
theorem cA{xs:List Nat}{k:Nat}(h:k<xs.length):xs.getD k 0=xs[k]:=by rw[b_,bH h];rfl
theorem B6(xs:List Nat):(sQ xs).map (·.2)=xs.map ci:=by
 unfold sQ;rw[cQ];apply zu
 .simp
 .intro i h1 h2;simp only[qo,ze,Function.comp];rw[cA (by simpa using h2)]
theorem B7(xs:List Nat):((sQ xs).map (·.1)).Perm (xs.map ci):=by
 cases hx:xs with
 |nil=>exact ju _
 |cons y ys=>
  rw[<-hx];have hl:xs.length=ys.length+1:=by rw[hx];rfl
  have e:(sQ xs).map (·.1)=ci (xs.getD (xs.length-1) 0)::(xs.take (xs.length-1)).map ci:=by
   unfold sQ;rw[cQ];apply zu
   .simp;lia
   .intro i h1 h2;simp only[qo,ze,Function.comp];cases i with
    |zero=>rfl
    |succ i=>
     have hi:i+1<xs.length:=by simpa using h1
     simp only[List.getElem_cons_succ,qo,List.getElem_take];unfold pk;rw[au (by lia),show i+1-1=i by lia,cA (by lia)]
  rw[e];have:xs.map ci=(xs.take (xs.length-1)).map ci++[ci (xs.getD (xs.length-1) 0)]:=by
   conv=>lhs;rw[<-yR (xs.length-1) xs]
   rw[cY];congr 1;rw[qa (by lia),List.drop_eq_nil_of_le (by lia),cA (by lia)];rfl
  rw[this];exact(List.perm_append_singleton _ _).symm
theorem fQ(ts:Ts)(h:Int):(ts.filter fun t=>decide (t.1=h)).length=(ts.map (·.1)).count h:=by
 induction ts with
 |nil=>rfl
 |cons t ts ih=>by_cases e:t.1=h <;> simp[eE,zA,e,ih]
theorem n_(ts:Ts)(h:Int):(ts.filter fun t=>decide (t.2=h)).length=(ts.map (·.2)).count h:=by
 induction ts with
 |nil=>rfl
 |cons t ts ih=>by_cases e:t.2=h <;> simp[eE,zA,e,ih]
theorem rq{xs:List Nat}(h:xs.Nodup):(xs.map ci).Nodup:=by
 refine f9.mpr (h.imp fun {a b} pq e=>pq ?_);exact dF e
theorem mq:∀ {l:List α},(l.map f).Nodup->l.Nodup
 |[],_=>ja
 |a::l,h=>by
  rw[ff] at h;obtain⟨h1,h2⟩:=fA.mp h;exact fA.mpr ⟨fun z=>h1 (bh.mpr ⟨a,z,rfl⟩),mq h2⟩
theorem mr(h:t∈sQ xs):∃k,k<xs.length/\t=(ci (xs.getD (pk xs.length k) 0),ci (xs.getD k 0)):=by
 obtain⟨k,hk,rfl⟩:=bh.mp h;exact⟨k,bP.mp hk,rfl⟩
theorem ud(h:k<c):pk c k<c:=by unfold pk;split <;> lia
theorem kD{xs:List Nat}{k:Nat}(h:k<xs.length):xs.getD k 0∈xs:=by rw[cA h];exact eX h
theorem iW{xs:List Nat}(nd:xs.Nodup){i j:Nat}(hi:i<xs.length)(hj:j<xs.length)(e:xs[i]=xs[j]):i=j:=by
 have pw:=tq.mp nd;rcases Nat.lt_trichotomy i j with z|z|z
 .exact absurd e (pw i j hi hj z)
 .exact z
 .exact absurd e.symm (pw j i hj hi z)
theorem vK{n:Nat}{xs:List Nat}(nd:xs.Nodup)(lt:∀x∈xs,x<n)(c2:2<=xs.length):yD n (sQ xs)/\∀h:Int,((sQ xs).filter fun t=>decide (t.1=h)).length<=1:=by
 have VL:((sQ xs).map (·.2)).Nodup:=by rw[B6];exact rq nd
 have one:∀h:Int,((sQ xs).filter fun t=>decide (t.1=h)).length<=1:=fun h=>by
  rw[fQ,(B7 xs).count_eq];exact List.nodup_iff_count.mp (rq nd) h
 refine⟨⟨mq VL,fun t ht=>?_,fun t ht=>?_,fun h=>?_,fun h=>a8 (one h) (by decide)⟩,one⟩
 .obtain⟨k,hk,rfl⟩:=mr ht;have h1:=lt _ (kD (ud hk));have h2:=lt _ (kD hk);simp only[ci];lia
 .obtain⟨k,hk,rfl⟩:=mr ht;intro e;have e':xs.getD (pk xs.length k) 0=xs.getD k 0:=dF e;rw[cA (ud hk),cA hk] at e';have:=iW nd (ud hk) hk e';unfold pk at this;split at this <;> lia
 .rw[fQ,n_,(B7 xs).count_eq,B6]
theorem pW(P:yD n ts)(Q:yD n us)(hd:∀t∈us,t∉ts)(hm:∀h:Int,(ts.filter fun t=>decide (t.1=h)).length+(us.filter fun t=>decide (t.1=h)).length<=8):yD n (ts++us):=by
 refine⟨lf.mpr ⟨P.nd,Q.nd,fun a ha b hb e=>hd b hb (e ▸ ha)⟩,fun t ht=>?_,fun t ht=>?_,fun h=>?_,fun h=>?_⟩
 .rcases bO.mp ht with z|z
  .exact P.rg t z
  .exact Q.rg t z
 .rcases bO.mp ht with z|z
  .exact P.ne t z
  .exact Q.ne t z
 .rw[iO,iO,cp,cp,P.DC,Q.DC]
 .rw[iO,cp];exact hm h
theorem DE(P:yD n ts)(nd:xs.Nodup)(lt:∀x∈xs,x<n)(c2:2<=xs.length)(hf:∀t∈sQ xs,(ts.filter fun u=>decide (u.1=t.1)).length<=7)(hn:∀t∈sQ xs,t∉ts):yD n (ts++sQ xs):=by
 obtain⟨Q,one⟩:=vK nd lt c2;refine pW P Q hn fun h=>?_;by_cases z:(sQ xs).filter (fun t=>decide (t.1=h))=[]
 .rw[z];simpa using P.most h
 .obtain⟨t,ht⟩:=List.exists_mem_of_ne_nil _ z;obtain⟨h1,h2⟩:=fE.mp ht;have e:t.1=h:=by simpa using h2
  have a:=hf t h1;rw[e] at a;have:=one h;lia
theorem KC(hk:k<xs.length):T (sQ xs) (xs.getD (pk xs.length k) 0) (xs.getD k 0):=bh.mpr ⟨k,bP.mpr hk,rfl⟩
theorem Au(i:Nat):∀ (d:Nat),i+d<xs.length->d8 (sQ xs) d (xs.getD i 0) (xs.getD (i+d) 0)
 |0,_=>rfl
 |d+1,h=>by
  refine⟨_,Au i d (by lia),?_⟩;have:=KC (xs:=xs) (k:=i+(d+1)) h;unfold pk at this;rw[au (by lia)] at this;exact this
theorem ue{n:Nat}{xs:List Nat}(n1:2<=n)(n2:n<=32)(pm:xs.Perm (List.range n)):bS n (sQ xs):=by
 have hl:xs.length=n:=by rw[pm.length_eq,cK]
 have nd:xs.Nodup:=pm.nodup_iff.mpr i8;have lt:∀x∈xs,x<n:=fun x hx=>bP.mp (pm.mem_iff.mp hx);refine(vK nd lt (by lia)).1.mn n1 n2 fun a b ha hb=>?_;obtain⟨i,hi,ei⟩:=lW.mp (pm.mem_iff.mpr (bP.mpr ha));obtain⟨j,hj,ej⟩:=lW.mp (pm.mem_iff.mpr (bP.mpr hb));have w1:=Au (xs:=xs) i (xs.length-1-i) (by lia);have t0:=KC (xs:=xs) (k:=0) (by lia);have w3:=Au (xs:=xs) 0 j (by lia);rw[show i+(xs.length-1-i)=xs.length-1 by lia] at w1;rw[show pk xs.length 0=xs.length-1 from rfl] at t0;rw[gk] at w3;have w:=w1.trans (d8.cons t0 w3);rw[cA hi,cA hj,ei,ej] at w;exact⟨_,w⟩
structure rA(n:Nat)(os:List Nat)(k:Nat)(ts:Ts):Prop where
 pre:yD n ts
 ends:∀t∈ts,∃a b,a∈os.take k/\b∈os.take k/\t=(ci a,ci b)
 con:∀a b,a∈os.take k->b∈os.take k->∃j,d8 ts j a b
 len:ts.length+2=2*k
theorem rA.start(h:0<os.length):rA n os 1 []:=by
 refine⟨⟨ja,(fun t h=>nomatch h),(fun t h=>nomatch h),fun h=>rfl,fun h=>by simp⟩,(fun t h=>nomatch h),fun a b ha hb=>?_,rfl⟩;cases os with
 |nil=>simp at h
 |cons o os=>
  simp at ha hb;exact⟨0,by rw[ha,hb];rfl⟩
theorem rA.add(Tr:rA n os k ts)(nd:os.Nodup)(lt:∀x∈os,x<n)(hv:os[k]?=some v)(hs:s∈os.take k)(hd:(ts.filter fun t=>decide (t.1=ci s)).length<8):rA n os (k+1) (ts++[(ci s,ci v),(ci v,ci s)]):=by
 have tk:os.take (k+1)=os.take k++[v]:=by rw[iP,hv];rfl
 have nd1:(os.take k++[v]).Nodup:=by rw[<-tk];exact nd.sublist (List.take_sublist _ _)
 have vn:v∉os.take k:=fun z=>(lf.mp nd1).2.2 v z v (by simp) rfl;have sv:s≠v:=fun e=>vn (e ▸ hs);have vm:v∈os:=dj hv;have sl:=lt s (mW hs);have vl:=lt v vm;have VM:∀t∈ts,t.1≠ci v/\t.2≠ci v:=fun t ht=>by
  obtain⟨a,b,ha,hb,rfl⟩:=Tr.ends t ht;exact⟨fun e=>vn (dF e ▸ ha),fun e=>vn (dF e ▸ hb)⟩
 have Q:yD n [(ci s,ci v),(ci v,ci s)]:=by
  have QC:ci s≠ci v:=fun e=>sv (dF e);refine⟨?_,fun t ht=>?_,fun t ht=>?_,fun h=>?_,fun h=>a8 (ot _ _) (by simp)⟩
  .simp[QC]
  .simp at ht;rcases ht with rfl|rfl <;> (simp only[ci];lia)
  .simp at ht;rcases ht with rfl|rfl
   .exact QC
   .exact QC.symm
  .by_cases a:ci s=h <;> by_cases b:ci v=h <;> simp[eE,a,b]
 have P2:yD n (ts++[(ci s,ci v),(ci v,ci s)]):=by
  refine pW Tr.pre Q (fun t ht z=>?_) fun h=>?_
  .simp at ht;rcases ht with rfl|rfl
   .exact(VM _ z).2 rfl
   .exact(VM _ z).1 rfl
  .have QC:ci s≠ci v:=fun e=>sv (dF e);by_cases a:ci s=h
   .subst a;have b:¬ ci v=ci s:=QC.symm;simp only[eE,decide_true,iD,fc b];simp;lia
   .by_cases b:ci v=h
    .subst b;have z:ts.filter (fun t=>decide (t.1=ci v))=[]:=qc.mpr fun t ht=>by simpa using (VM t ht).1
     rw[z];exact a8 (Nat.add_le_add_left (ot _ _) _) (by simp)
    .have:=Tr.pre.most h;simp[eE,a,b];exact this
 have up:∀t∈ts,t∈ts++[(ci s,ci v),(ci v,ci s)]:=fun t ht=>fY _ ht;have t1:T (ts++[(ci s,ci v),(ci v,ci s)]) s v:=dU _ (by simp);have t2:T (ts++[(ci s,ci v),(ci v,ci s)]) v s:=dU _ (by simp);have toS:∀a,a∈os.take k++[v]->∃j,d8 (ts++[(ci s,ci v),(ci v,ci s)]) j a s:=fun a ha=>by
  rcases bO.mp ha with z|z
  .obtain⟨j,w⟩:=Tr.con a s z hs;exact⟨j,w.mono up⟩
  .simp at z;subst z;exact⟨1,d8.one t2⟩
 have ofS:∀b,b∈os.take k++[v]->∃j,d8 (ts++[(ci s,ci v),(ci v,ci s)]) j s b:=fun b hb=>by
  rcases bO.mp hb with z|z
  .obtain⟨j,w⟩:=Tr.con s b hs z;exact⟨j,w.mono up⟩
  .simp at z;subst z;exact⟨1,d8.one t1⟩
 refine⟨P2,fun t ht=>?_,fun a b ha hb=>?_,?_⟩
 .rw[tk];rcases bO.mp ht with z|z
  .obtain⟨a,b,ha,hb,e⟩:=Tr.ends t z;exact⟨a,b,fY _ ha,fY _ hb,e⟩
  .simp at z;rcases z with rfl|rfl
   .exact⟨s,v,fY _ hs,by simp,rfl⟩
   .exact⟨v,s,by simp,fY _ hs,rfl⟩
 .rw[tk] at ha hb;obtain⟨i,w1⟩:=toS a ha;obtain⟨j,w2⟩:=ofS b hb;exact⟨i+j,w1.trans w2⟩
 .have:=Tr.len;rw[cp];simp;lia
theorem rA.mn(Tr:rA n os n ts)(n1:2<=n)(n2:n<=32)(pm:os.Perm (List.range n)):bS n ts:=by
 have hl:os.length=n:=by rw[pm.length_eq,cK]
 refine Tr.pre.mn n1 n2 fun a b ha hb=>Tr.con a b ?_ ?_
 .rw[mT (by lia)];exact pm.mem_iff.mpr (bP.mpr ha)
 .rw[mT (by lia)];exact pm.mem_iff.mpr (bP.mpr hb)
end jn
namespace L2
open PySem PySem.Spec PyProof.Rows
section
variable {X:Cx}
theorem xK:∀ {ns:List Int} {its:List Value},aT (ns.map V.int) its->∃xs:List (Int×Tok),its=xs.map (fun p=>Value.int p.1 p.2)/\xs.map (·.1)=ns
 |[],_,r=>by cases r;exact⟨[],rfl,rfl⟩
 |n::ns,_,r=>by
  cases r with
  |cons r rr=>
   obtain⟨t,rfl⟩:=(show ∃t,_=Value.int n t from r)
   obtain⟨xs,rfl,e⟩:=xK rr;exact⟨(n,t)::xs,rfl,by rw[ff,e]⟩
def QD(K:PySem.W.Frag):List V->Hp->VK->Prop:=fun xs H Q=>∃ (l:Addr) (ns:List Int),xs=[.ref l]/\aZ K H l (ns.map V.int)/\ns≠[]/\∀M,M∈ns->(∀a∈ns,a<=M)->Q (.int M) H
theorem DG(hc:X.calm=true):eK X (.builtin "max") (QD X.K):=by
 intro ae s σ H xs us Q I r h;obtain⟨l,ns,rfl,hl,lF,q⟩:=h;obtain⟨u1,rfl,r1⟩:=r.one;obtain rfl:u1=Value.ref l:=r1;obtain⟨its,rv,pl,_⟩:=I.list hl;obtain⟨ps,rfl,rfl⟩:=xK rv;have hi:intItems ps.toArray=(ps.map (fun p=>Value.int p.1 p.2)).toArray:=by unfold intItems;simp
 have gJ:0<ps.toArray.size:=by
  cases ps with
  |nil=>exact absurd rfl lF
  |cons p ps=>simp
 refine max_intList (I.ok.hd hc) (xs:=ps.toArray) (by rw[hi];exact pl.isList) gJ fun v h' tk hv hk=>?_;obtain⟨t,rfl⟩:=intItems_at hv;obtain⟨h1,h2⟩:=argBest_gt (numAt ps.toArray) (ps.toArray.size-1);have num:∀j,j<ps.length->numAt ps.toArray j∈ps.map (·.1)/\numAt ps.toArray j=(ps.map (·.1)).getD j 0:=fun j hj=>by
  have e:numAt ps.toArray j=ps[j].1:=by unfold numAt;simp[bH hj]
  refine⟨by rw[e];exact bh.mpr ⟨_,eX hj,rfl⟩,?_⟩;rw[e,b_,bV,bH hj];rfl
 have hb:argBest (fun i j=>decide (numAt ps.toArray i > numAt ps.toArray j)) (ps.toArray.size-1)<ps.length:=by
  have:ps.toArray.size=ps.length:=by simp
  lia
 refine⟨.int _,H,I.kept (t':=tk) hk,⟨t,rfl⟩,q _ (num _ hb).1 fun a ha=>?_⟩;obtain⟨j,hj,e⟩:=lW.mp ha;rw[aW] at hj;have:=h2 j (by (have:ps.toArray.size=ps.length:=by simp);lia);rw[(num j hj).2,b_,bH (by rw[aW];exact hj)] at this;rw[<-e];exact this
end
end L2
namespace jn
abbrev sU(u:Int×Int):Int×Int:=(u.2,u.1)
def di(ps:Ts):Ts:=ps.flatMap fun u=>[u,sU u]
theorem lJ:di (ps++qs)=di ps++di qs:=List.flatMap_append
theorem hZ:∀ {ps:Ts},(di ps).Perm (ps++ps.map sU)
 |[]=>ju _
 |u::ps=>by
  have ih:=hZ (ps:=ps);show (u::sU u::di ps).Perm (u::(ps++sU u::ps.map sU));refine List.Perm.cons _ ?_;exact(ih.cons _).trans List.perm_middle.symm
theorem pX:∀ {ps:Ts},(di ps).length=2*ps.length
 |[]=>rfl
 |u::ps=>by
  have ih:=pX (ps:=ps);show (di ps).length+2=2*(ps.length+1);lia
theorem B8(h:u∈di ps):sU u∈di ps:=by
 obtain⟨v,hv,hu⟩:=zq.mp h;refine zq.mpr ⟨v,hv,?_⟩;rcases bg.mp hu with e|e
 .rw[e];exact cW _ (bL.mpr rfl)
 .rw[bL.mp e];exact bp
theorem mv:u∈di ps↔u∈ps\/sU u∈ps:=by
 rw[(hZ (ps:=ps)).mem_iff,bO];refine or_congr Iff.rfl ⟨fun h=>?_,fun h=>bh.mpr ⟨_,h,rfl⟩⟩;obtain⟨v,hv,rfl⟩:=bh.mp h;exact hv
theorem B9:((di ps).map sU).Perm (di ps):=by
 refine((hZ (ps:=ps)).map sU).trans (List.Perm.trans ?_ (hZ (ps:=ps)).symm);rw[cY,cQ];have e:ps.map (sU ∘ sU)=ps:=(jt fun u _=>rfl).trans (lx ps);rw[e];exact lV
def DH(x:Nat):List Nat->Bool
 |[]=>false
 |y::ys=>Nat.beq x y||DH x ys
theorem rB:∀ {ys:List Nat},DH x ys=true↔x∈ys
 |[]=>by simp[DH]
 |y::ys=>by
  unfold DH;rw[qw,rB (ys:=ys),bg];exact or_congr ⟨fun h=>uC h,fun h=>by rw[h];exact uZ y⟩ Iff.rfl
def TM:List Nat->Bool
 |[]=>true
 |x::xs=>!DH x xs&&TM xs
theorem FH:∀ {xs:List Nat},TM xs=true->xs.Nodup
 |[],_=>ja
 |x::xs,h=>by
  unfold TM at h;rw[gw] at h;refine fA.mpr ⟨fun z=>?_,FH h.2⟩;rw[rB.mpr z] at h;exact absurd h.1 (by decide)
def TN:List Nat->Bool
 |x::y::r=>Nat.ble x y&&TN (y::r)
 |_=>true
theorem FI:∀ {xs:List Nat},TN xs=true->xs.Pairwise (·<=·)
 |[],_=>List.Pairwise.nil
 |[x],_=>yN _ _
 |x::y::r,h=>by
  unfold TN at h;rw[gw] at h;have ih:=FI h.2;refine uL.mpr ⟨fun z hz=>?_,ih⟩;have h1:=qf h.1;rcases bg.mp hz with e|e
  .rw[e];exact h1
  .exact a8 h1 ((uL.mp ih).1 z e)
abbrev ij(q:Nat×Nat):Int×Int:=((q.1:Int),(q.2:Int))
def QE(qs:List (Nat×Nat)):List Nat:=qs.flatMap fun q=>[64*q.1+q.2,64*q.2+q.1]
def Iy(c:Nat):Int×Int:=(((c / 64:Nat):Int),((c % 64:Nat):Int))
theorem Av(h:b<64):Iy (64*a+b)=((a:Int),(b:Int)):=by
 unfold Iy;rw[show (64*a+b) / 64=a by lia,show (64*a+b) % 64=b by lia]
theorem pY:∀ {qs:List (Nat×Nat)},(∀q∈qs,q.1<64/\q.2<64)->(QE qs).map Iy=di (qs.map ij)
 |[],_=>rfl
 |q::qs,h=>by
  have ih:=pY (qs:=qs) fun x hx=>h x (cW _ hx);obtain⟨h1,h2⟩:=h q bp;show Iy (64*q.1+q.2)::Iy (64*q.2+q.1)::(QE qs).map Iy=ij q::sU (ij q)::di (qs.map ij);rw[ih,Av h2,Av h1]
def b1(b:Bool):Nat:=cond b 1 0
def kL(h:Nat):List (Nat×Nat)->Nat
 |[]=>0
 |q::qs=>b1 (Nat.beq q.1 h)+(b1 (Nat.beq q.2 h)+kL h qs)
theorem vL{h:Nat}:∀ {qs:List (Nat×Nat)},((di (qs.map ij)).filter fun t=>decide (t.1=(h:Int))).length=kL h qs
 |[]=>rfl
 |q::qs=>by
  have ih:=vL (h:=h) (qs:=qs);have e:∀a:Nat,(if decide ((a:Int)=(h:Int))=true then 1 else 0)=b1 (Nat.beq a h):=fun a=>by
   by_cases c:a=h
   .subst c;rw[av (by simp),uZ];rfl
   .rw[au (by simp;lia),show Nat.beq a h=false from zk.mpr fun z=>c (uC z)];rfl
  show ((ij q::sU (ij q)::di (qs.map ij)).filter _).length=b1 (Nat.beq q.1 h)+(b1 (Nat.beq q.2 h)+kL h qs);rw[<-ih,<-e q.1,<-e q.2,eE,eE];split <;> split <;> simp <;> lia
def FJ(n:Nat)(qs:List (Nat×Nat)):Bool:=Nat.ble 2 n&&(Nat.ble n 32&&(TM (QE qs)&&(qs.all (fun q=>Nat.blt q.1 n&&(Nat.blt q.2 n&&!Nat.beq q.1 q.2))&&((List.range n).all (fun h=>Nat.ble (kL h qs) 8) &&
 (List.range n).all (fun v=>Nat.beq v 0||(List.range v).reverse.any (fun u=>DH (64*u+v) (QE qs)))))))
theorem lK(h:Nat.blt a b=true):a<b:=qf h
theorem FK(h:FJ n qs=true):bS n (di (qs.map ij))/\∀q∈qs,q.1<64/\q.2<64:=by
 unfold FJ at h;simp only[gw,i9,bP,qw,List.any_eq_true,List.mem_reverse] at h;obtain⟨h1,h2,h3,h4,h5,h6⟩:=h;have h1:=qf h1;have h2:=qf h2;have QF:∀q∈qs,q.1<64/\q.2<64:=fun q hq=>⟨by have:=lK (h4 q hq).1;lia,by have:=lK (h4 q hq).2.1;lia⟩
 have mem:∀t∈di (qs.map ij),∃q∈qs,t=ij q\/t=sU (ij q):=fun t ht=>by
  rcases mv.mp ht with z|z
  .obtain⟨q,hq,e⟩:=bh.mp z;exact⟨q,hq,.inl e.symm⟩
  .obtain⟨q,hq,e⟩:=bh.mp z;exact⟨q,hq,.inr (by rw[e])⟩
 have rg:∀t∈di (qs.map ij),((0<=t.1/\t.1<n)/\(0<=t.2/\t.2<n))/\t.1≠t.2:=fun t ht=>by
  obtain⟨q,hq,e⟩:=mem t ht;have a:=lK (h4 q hq).1;have b:=lK (h4 q hq).2.1;have c:q.1≠q.2:=fun z=>by have:=(h4 q hq).2.2;rw[z,uZ] at this;exact absurd this (by decide)
  rcases e with rfl|rfl
  .exact⟨⟨⟨by show (0:Int)<=(q.1:Int);lia,by show (q.1:Int)<n;lia⟩,by show (0:Int)<=(q.2:Int);lia,by show (q.2:Int)<n;lia⟩,by show ((q.1:Nat):Int)≠(q.2:Nat);lia⟩
  .exact⟨⟨⟨by show (0:Int)<=(q.2:Int);lia,by show (q.2:Int)<n;lia⟩,by show (0:Int)<=(q.1:Int);lia,by show (q.1:Int)<n;lia⟩,by show ((q.2:Nat):Int)≠(q.1:Nat);lia⟩
 have DC:∀h:Int,((di (qs.map ij)).filter fun t=>decide (t.1=h)).length=((di (qs.map ij)).filter fun t=>decide (t.2=h)).length:=fun h=>by
  rw[<-(B9 (ps:=qs.map ij)).filter (fun t=>decide (t.1=h)) |>.length_eq,nj,aW];rfl
 have nd:(di (qs.map ij)).Nodup:=by
  rw[<-pY QF];refine List.Pairwise.map _ (fun a b pq e=>pq ?_) (p8.mp (FH h3));have e1:a / 64=b / 64:=dF (congrArg Prod.fst e);have e2:a % 64=b % 64:=dF (congrArg Prod.snd e);lia
 refine⟨⟨h1,h2,nd,fun t ht=>(rg t ht).1,fun t ht=>(rg t ht).2,DC,fun h=>?_,fun a b ha hb=>?_⟩,QF⟩
 .by_cases c:0<=h/\h<n
  .have:=qf (h5 h.toNat (by lia));rw[<-vL,mY c.1] at this;exact this
  .have e:(di (qs.map ij)).filter (fun t=>decide (t.1=h))=[]:=qc.mpr fun t ht e=>c ((show t.1=h from dE e) ▸ (rg t ht).1.1);rw[e];exact bT _
 .have z6:∀v,v<n->(∃k,d8 (di (qs.map ij)) k 0 v)/\∃k,d8 (di (qs.map ij)) k v 0:=by
   intro v;induction v using Nat.strongRecOn with
   |ind v ih=>
    intro hv;rcases h6 v hv with e|⟨u,hu,t1⟩
    .have e:=uC e;subst e;exact⟨⟨0,rfl⟩,0,rfl⟩
    .obtain⟨⟨k,w⟩,l,w'⟩:=ih u hu (by lia);have t:T (di (qs.map ij)) u v:=by
      have:=bh.mpr ⟨_,rB.mp t1,Av (a:=u) (b:=v) (by lia)⟩;rw[pY QF] at this;exact this
     have t':T (di (qs.map ij)) v u:=B8 t;exact⟨⟨k+1,u,w,t⟩,l+1,d8.cons t' w'⟩
  obtain⟨_,k,w⟩:=z6 a ha;obtain⟨⟨l,w'⟩,_⟩:=z6 b hb;exact⟨_,w.trans w'⟩
def rC(f b:Nat):List (Nat×Nat):=(List.range f).flatMap fun at_=>(List.range (b ^ f)).flatMap fun h=>(List.range (b-h / b ^ at_ % b-1)).map fun k=>(h,h+(k+1)*b ^ at_)
def QG(f b h:Nat):List Nat:=(List.range f).map fun k=>h / b ^ k % b
def unl(f b o p:Nat):Nat:=((List.range f).filter fun k=>!Nat.beq ((QG f b o).getD k 0) ((QG f b p).getD k 0)).length
def Aw(f b:Nat):List Nat:=(List.range (b ^ f)).flatMap fun o=>((List.range (b ^ f)).filter fun p=>Nat.beq (unl f b o p) 1).map fun p=>64*o+p
def Ax(f b:Nat):Ts:=(Aw f b).map Iy
def B_(f b:Nat):Bool:=FJ (b ^ f) (rC f b)&&((QE (rC f b)).isPerm (Aw f b)&&TN (Aw f b))
theorem Ay:(List.range 6).all (fun f=>(List.range 6).all fun b=>Nat.blt f 1||(Nat.blt b 2||(Nat.blt 32 (b ^ f)||B_ f b)))=true:=by decide +kernel
theorem Az(f1:1<=f)(f2:f<=5)(b1:2<=b)(b2:b<=5)(hm:b ^ f<=32):bS (b ^ f) (di ((rC f b).map ij))/\(di ((rC f b).map ij)).Perm (Ax f b)/\(Ax f b).Pairwise (fun u v=>64*u.1+u.2<=64*v.1+v.2):=by
 have:=i9.mp (i9.mp Ay f (bP.mpr (by lia))) b (bP.mpr (by lia));rw[qw,qw,qw] at this;rcases this with z|z|z|z
 .have:=lK z;lia
 .have:=lK z;lia
 .have:=lK z;lia
 .unfold B_ at z;rw[gw,gw] at z;obtain⟨h1,h2,h3⟩:=z;obtain⟨F,QF⟩:=FK h1;refine⟨F,?_,?_⟩
  .rw[<-pY QF];exact(List.isPerm_iff.mp h2).map Iy
  .unfold Ax;rw[f9];refine(FI h3).imp fun {a b} h=>?_;unfold Iy;show 64*((a / 64:Nat):Int)+((a % 64:Nat):Int)<=64*((b / 64:Nat):Int)+((b % 64:Nat):Int);lia
def pr:List Nat->Nat
 |[]=>1
 |n::ns=>n*pr ns
def Ca(m st n:Nat):List (Nat×Nat):=((List.range m).filter fun h=>decide (h / st % n+1<n)).map fun h=>(h,h+st)
def bx(m:Nat):Nat->List Nat->List (Nat×Nat)
 |_,[]=>[]
 |st,n::ns=>Ca m st n++bx m (st*n) ns
def mw(ns:List Nat):List (Nat×Nat):=bx (pr ns) 1 ns
def Iz:Nat->List Nat->Nat->Nat->Prop
 |_,[],_,_=>False
 |st,n::ns,a,b=>(a / st % n+1<n/\b=a+st)\/Iz (st*n) ns a b
theorem Cb:q∈Ca m st n↔q.1<m/\q.1 / st % n+1<n/\q.2=q.1+st:=by
 unfold Ca;rw[bh];constructor
 .rintro⟨h,hh,rfl⟩;obtain⟨h1,h2⟩:=fE.mp hh;exact⟨bP.mp h1,dE h2,rfl⟩
 .rintro⟨h1,h2,h3⟩;exact⟨q.1,fE.mpr ⟨bP.mpr h1,iu h2⟩,g9 rfl h3.symm⟩
theorem vM:∀ {ns:List Nat} {st:Nat},q∈bx m st ns↔q.1<m/\Iz st ns q.1 q.2
 |[],st=>⟨fun h=>(nomatch h),fun h=>h.2.elim⟩
 |n::ns,st=>by
  unfold bx Iz;rw[bO,Cb,vM (ns:=ns)];constructor
  .rintro(⟨a,b,c⟩|⟨a,b⟩)
   .exact⟨a,.inl ⟨b,c⟩⟩
   .exact⟨a,.inr b⟩
  .rintro⟨a,⟨b,c⟩|b⟩
   .exact .inl ⟨a,b,c⟩
   .exact .inr ⟨a,b⟩
abbrev U(ns:List Nat):Nat->Nat->Prop:=Iz 1 ns
theorem vN:∀ {ns:List Nat} {st a b:Nat},0<st->(∀n∈ns,0<n)->(Iz st ns a b↔a % st=b % st/\U ns (a / st) (b / st))
 |[],st,a,b,h,_=>⟨fun z=>z.elim,fun z=>z.2.elim⟩
 |n::ns,st,a,b,h,hn=>by
  have E5:=hn n bp;have xn:∀n∈ns,0<n:=fun x hx=>hn x (cW _ hx);show (_\/Iz (st*n) ns a b)↔a % st=b % st/\(_\/Iz (1*n) ns (a / st) (b / st))
  rw[Nat.one_mul,vN (qC h E5) xn,vN E5 xn,Nat.div_one,yO a st n,yO b st n,Nat.mod_mul,Nat.mod_mul];have e1:=jI a st;have e2:=jI b st;constructor
  .rintro(⟨c,rfl⟩|⟨c,d⟩)
   .refine⟨by rw[Nat.add_mod_right],.inl ⟨c,by rw[Nat.add_div_right _ h]⟩⟩
   .have m1:a % st=b % st:=by
     have:=congrArg (· % st) c;simp only[Nat.add_mul_mod_self_left,Nat.mod_mod] at this;exact this
    refine⟨m1,.inr ⟨?_,d⟩⟩;rw[m1] at c;exact Nat.eq_of_mul_eq_mul_left h (Nat.add_left_cancel c)
  .rintro⟨m1,⟨c,d⟩|⟨c,d⟩⟩
   .refine .inl ⟨c,?_⟩;rw[<-e2,d,<-m1,Nat.mul_add,u7,Nat.add_right_comm,e1]
   .exact .inr ⟨by rw[m1,c],d⟩
theorem AA(h:∀x∈n::ns,0<x):U (n::ns) a b↔(a % n+1<n/\b=a+1)\/(a % n=b % n/\U ns (a / n) (b / n)):=by
 show (_\/Iz (1*n) ns a b)↔_;rw[Nat.one_mul,vN (h n bp) fun x hx=>h x (cW _ hx),Nat.div_one]
theorem AB(h:a % n+1<n):(a+1) / n=a / n/\(a+1) % n=a % n+1:=by
 have e:=jI a n;have e2:a+1=n*(a / n)+(a % n+1):=by lia
 have hn:0<n:=by lia
 rw[e2,Nat.mul_add_div hn,Nat.mul_add_mod,Nat.div_eq_of_lt h,kP h];exact⟨rfl,rfl⟩
theorem QH:∀ {ns:List Nat} {a b:Nat},(∀x∈ns,0<x)->U ns a b->a<pr ns->a<b/\b<pr ns
 |[],a,b,_,h,_=>h.elim
 |n::ns,a,b,hn,h,ha=>by
  have E5:=hn n bp;have xn:∀n∈ns,0<n:=fun x hx=>hn x (cW _ hx);have LR:a<n*pr ns:=ha;have hq:a / n<pr ns:=Nat.div_lt_of_lt_mul LR;show a<b/\b<n*pr ns;rcases(AA hn).mp h with ⟨c,rfl⟩|⟨c,d⟩
  .refine⟨by lia,?_⟩;have e:=jI a n;have:=qg n hq;rw[Nat.succ_eq_add_one,Nat.mul_add,u7] at this;lia
  .obtain⟨i1,i2⟩:=QH xn d hq;refine⟨?_,?_⟩
   .have e1:=jI a n;have e2:=jI b n;have:=Er i1 E5;lia
   .have e2:=jI b n;have hm:=jO b E5;have:=qg n i2;rw[Nat.succ_eq_add_one,Nat.mul_add,u7] at this;lia
theorem FL:∀ {ns:List Nat} {v:Nat},(∀x∈ns,0<x)->0<v->v<pr ns->∃u,u<v/\U ns u v
 |[],v,_,h1,h2=>by have h2:v<1:=h2;lia
 |n::ns,v,hn,h1,h2=>by
  have E5:=hn n bp;have xn:∀n∈ns,0<n:=fun x hx=>hn x (cW _ hx);have lv:=jO v E5;have ev:=jI v n;by_cases c:v % n=0
  .have hq:0<v / n:=by
    rcases Nat.eq_zero_or_pos (v / n) with z|z
    .rw[z,c] at ev;simp at ev;lia
    .exact z
   obtain⟨u,hu,uu⟩:=FL (v:=v / n) xn hq (Nat.div_lt_of_lt_mul h2);refine⟨n*u,?_,(AA hn).mpr (.inr ⟨by rw[Nat.mul_mod_right,c],by rw[Nat.mul_div_cancel_left _ E5];exact uu⟩)⟩;have:=Er hu E5;lia
  .have hv:v-1=n*(v / n)+(v % n-1):=by lia
   have hm:(v-1) % n=v % n-1:=by rw[hv,Nat.mul_add_mod,kP (by lia)]
   exact⟨v-1,by lia,(AA hn).mpr (.inl ⟨by lia,by lia⟩)⟩
theorem Cc:∀ {ns:List Nat} {st a b:Nat},(∀x∈ns,0<x)->Iz st ns a b->a+st<=b
 |[],st,a,b,_,h=>h.elim
 |n::ns,st,a,b,hn,h=>by
  rcases h with ⟨_,rfl⟩|h
  .exact aN _
  .have:=Cc (fun x hx=>hn x (cW _ hx)) h;have h1:=Nat.le_mul_of_pos_right st (hn n bp);lia
theorem DI:(Ca m st n).Nodup:=by
 unfold Ca;refine p8.mpr (f9.mpr ?_);exact(p8.mp (i8.sublist yY)).imp fun {a b} h e=>h (congrArg Prod.fst e)
theorem xL:∀ {ns:List Nat} {st:Nat},0<st->(∀x∈ns,2<=x)->(bx m st ns).Nodup
 |[],_,_,_=>ja
 |n::ns,st,h,hn=>by
  have Os:=hn n bp;have xn:∀x∈ns,2<=x:=fun x hx=>hn x (cW _ hx);refine lf.mpr ⟨DI,xL (qC h (by lia)) xn,fun x hx y hy e=>?_⟩;subst e;have h1:=(Cb.mp hx).2.2;have h2:=Cc (fun x hx=>by have:=xn x hx;lia) (vM.mp hy).2;have h3:=qg st Os;lia
theorem DJ(nd:ps.Nodup)(h:∀u∈ps,u.1<u.2):(di ps).Nodup:=by
 refine(hZ (ps:=ps)).nodup_iff.mpr (lf.mpr ⟨nd,?_,fun x hx y hy e=>?_⟩)
 .refine p8.mpr (f9.mpr ((p8.mp nd).imp fun {a b} pq e=>pq ?_));exact g9 (congrArg Prod.snd e) (congrArg Prod.fst e)
 .subst e;obtain⟨u,hu,rfl⟩:=bh.mp hy;have h1:=h _ hx;have h2:=h u hu;have h1:u.2<u.1:=h1;lia
theorem DK{qs:List (Nat×Nat)}(h:qs.Nodup):(qs.map ij).Nodup:=by
 refine p8.mpr (f9.mpr ((p8.mp h).imp fun {a b} pq e=>pq ?_));exact g9 (dF (congrArg Prod.fst e)) (dF (congrArg Prod.snd e))
theorem oQ:∀ {a b:List (Nat×Nat)},kL h (a++b)=kL h a+kL h b
 |[],b=>by show kL h b=0+_;lia
 |q::a,b=>by
  have:=oQ (h:=h) (a:=a) (b:=b);show b1 _+(b1 _+kL h (a++b))=b1 _+(b1 _+kL h a)+kL h b;lia
theorem KD:b1 (Nat.beq a b)=if a=b then 1 else 0:=by
 by_cases c:a=b
 .subst c;rw[av rfl,uZ];rfl
 .rw[au c,show Nat.beq a b=false from zk.mpr fun z=>c (uC z)];rfl
theorem Cd:∀ {L:List Nat},L.Nodup->kL h (L.map fun x=>(x,x+st))<=(if h∈L then 1 else 0)+(if st<=h/\h-st∈L then 1 else 0)
 |[],_=>bT _
 |x::L,nd=>by
  obtain⟨n1,n2⟩:=fA.mp nd;have ih:=Cd (h:=h) (st:=st) n2;show b1 (Nat.beq x h)+(b1 (Nat.beq (x+st) h)+kL h (L.map fun x=>(x,x+st)))<=_;rw[KD,KD];have e1:(if h∈x::L then 1 else 0)=(if x=h then 1 else 0)+(if h∈L then 1 else 0):=by
   by_cases c:x=h
   .subst c;rw[av bp,av rfl,au n1]
   .rw[au c];by_cases d:h∈L
    .rw[av (cW _ d),av d]
    .rw[au d,au (fun z=>(bg.mp z).elim (fun z=>c z.symm) d)]
  have e2:(if st<=h/\h-st∈x::L then 1 else 0)=(if x+st=h then 1 else 0)+(if st<=h/\h-st∈L then 1 else 0):=by
   by_cases c:x+st=h
   .have e:h-st=x:=by lia
    rw[av c,e,av ⟨by lia,bp⟩,au (fun z=>n1 z.2)]
   .rw[au c];by_cases d:st<=h/\h-st∈L
    .rw[av d,av ⟨d.1,cW _ d.2⟩]
    .rw[au d,au];rintro⟨z1,z2⟩;rcases bg.mp z2 with z|z
     .lia
     .exact d ⟨z1,z⟩
  rw[e1,e2];lia
def wt:List Nat->Nat
 |[]=>0
 |n::ns=>(if n=2 then 1 else 2)+wt ns
theorem IA(hs:0<st):kL h (Ca m st n)<=if n=2 then 1 else 2:=by
 have c:=Cd (h:=h) (st:=st) (L:=(List.range m).filter fun h=>decide (h / st % n+1<n)) (i8.sublist yY);refine a8 c ?_;by_cases e:n=2
 .rw[av e];by_cases c1:h∈(List.range m).filter fun h=>decide (h / st % n+1<n)
  .rw[av c1,au]
   .lia
   .rintro⟨z1,z2⟩;have d1:h / st % n+1<n:=dE (fE.mp c1).2;have d2:(h-st) / st % n+1<n:=dE (fE.mp z2).2;have d3:h / st=(h-st) / st+1:=by
     have:=Nat.add_div_right (h-st) hs;rw[show h-st+st=h by lia] at this;exact this
    obtain⟨_,d4⟩:=AB d2;rw[<-d3] at d4;lia
  .rw[au c1];split <;> lia
 .rw[au e];split <;> split <;> lia
theorem FM:∀ {ns:List Nat} {st:Nat},0<st->(∀x∈ns,0<x)->kL h (bx m st ns)<=wt ns
 |[],_,_,_=>aN _
 |n::ns,st,hs,hn=>by
  show kL h (Ca m st n++bx m (st*n) ns)<=_+wt ns;rw[oQ];have h1:=IA (m:=m) (n:=n) (h:=h) hs;have h2:=FM (m:=m) (h:=h) (ns:=ns) (st:=st*n) (qC hs (hn n bp)) fun x hx=>hn x (cW _ hx);lia
theorem FN:∀ {ns:List Nat},(∀x∈ns,2<=x)->3 ^ wt ns<=pr ns*pr ns
 |[],_=>aN _
 |n::ns,hn=>by
  have ih:=FN (ns:=ns) fun x hx=>hn x (cW _ hx);have h2:=hn n bp;show 3 ^ ((if n=2 then 1 else 2)+wt ns)<=n*pr ns*(n*pr ns);rw[Nat.pow_add,Nat.mul_mul_mul_comm];refine zD ?_ ih;by_cases c:n=2
  .rw[av c,c];decide
  .rw[au c];have:3<=n:=by lia
   exact zD this this
theorem QI(hn:∀x∈ns,2<=x)(hp:pr ns<=32):wt ns<=8:=by
 refine ux fun z=>?_;have h1:3 ^ 9<=3 ^ wt ns:=Nat.pow_le_pow_right (by decide) (by lia);have h2:=FN hn;have h3:pr ns*pr ns<=32*32:=zD hp hp;have h4:(3:Nat) ^ 9=19683:=by decide
 lia
theorem FO{ns:List Nat}(hn:∀x∈ns,2<=x)(h0:ns≠[])(hp:pr ns<=32):bS (pr ns) (di ((mw ns).map ij)):=by
 have Mp:∀x∈ns,0<x:=fun x hx=>by have:=hn x hx;lia
 have q:∀q∈mw ns,q.1<q.2/\q.2<pr ns:=fun q hq=>by
  obtain⟨a,b⟩:=vM.mp hq;exact QH Mp b a
 have n1:2<=pr ns:=by
  cases ns with
  |nil=>exact absurd rfl h0
  |cons n ns=>
   have h2:=hn n bp;have:∀ {l:List Nat},(∀x∈l,2<=x)->1<=pr l:=fun {l}=>by
    induction l with
    |nil=>intro _;exact aN _
    |cons x l ih=>intro hl;exact qC (by have:=hl x bp;lia) (ih fun y hy=>hl y (cW _ hy))
   have h3:=this (l:=ns) fun x hx=>hn x (cW _ hx);show 2<=n*pr ns;exact a8 h2 (Nat.le_mul_of_pos_right n h3)
 have mem:∀t∈di ((mw ns).map ij),∃q∈mw ns,t=ij q\/t=sU (ij q):=fun t ht=>by
  rcases mv.mp ht with z|z
  .obtain⟨q,hq,e⟩:=bh.mp z;exact⟨q,hq,.inl e.symm⟩
  .obtain⟨q,hq,e⟩:=bh.mp z;exact⟨q,hq,.inr (by rw[e])⟩
 have rg:∀t∈di ((mw ns).map ij),((0<=t.1/\t.1<pr ns)/\(0<=t.2/\t.2<pr ns))/\t.1≠t.2:=fun t ht=>by
  obtain⟨p,hq,e⟩:=mem t ht;obtain⟨a,b⟩:=q p hq;rcases e with rfl|rfl
  .exact⟨⟨⟨by show (0:Int)<=(p.1:Int);lia,by show (p.1:Int)<(pr ns:Int);lia⟩,by show (0:Int)<=(p.2:Int);lia,by show (p.2:Int)<(pr ns:Int);lia⟩,by show ((p.1:Nat):Int)≠(p.2:Nat);lia⟩
  .exact⟨⟨⟨by show (0:Int)<=(p.2:Int);lia,by show (p.2:Int)<(pr ns:Int);lia⟩,by show (0:Int)<=(p.1:Int);lia,by show (p.1:Int)<(pr ns:Int);lia⟩,by show ((p.2:Nat):Int)≠(p.1:Nat);lia⟩
 have nd:(di ((mw ns).map ij)).Nodup:=DJ (DK (xL (by decide) hn)) fun u hu=>by
  obtain⟨p,hq,rfl⟩:=bh.mp hu;have:=(q p hq).1;show (p.1:Int)<(p.2:Int);lia
 refine⟨n1,hp,nd,fun t ht=>(rg t ht).1,fun t ht=>(rg t ht).2,fun h=>?_,fun h=>?_,fun a b ha hb=>?_⟩
 .rw[<-(B9 (ps:=(mw ns).map ij)).filter (fun t=>decide (t.1=h)) |>.length_eq,nj,aW];rfl
 .by_cases c:0<=h/\h<pr ns
  .have:=FM (m:=pr ns) (h:=h.toNat) (ns:=ns) (st:=1) (by decide) Mp;have e:=vL (h:=h.toNat) (qs:=mw ns);rw[mY c.1] at e;rw[e];exact a8 this (QI hn hp)
  .have e:(di ((mw ns).map ij)).filter (fun t=>decide (t.1=h))=[]:=qc.mpr fun t ht e=>c ((show t.1=h from dE e) ▸ (rg t ht).1.1);rw[e];exact bT _
 .have z6:∀v,v<pr ns->(∃k,d8 (di ((mw ns).map ij)) k 0 v)/\∃k,d8 (di ((mw ns).map ij)) k v 0:=by
   intro v;induction v using Nat.strongRecOn with
   |ind v ih=>
    intro hv;rcases Nat.eq_zero_or_pos v with e|e
    .subst e;exact⟨⟨0,rfl⟩,0,rfl⟩
    .obtain⟨u,hu,uu⟩:=FL Mp e hv;obtain⟨⟨k,w⟩,l,w'⟩:=ih u hu (by lia);have t:T (di ((mw ns).map ij)) u v:=mv.mpr (.inl (bh.mpr ⟨(u,v),vM.mpr ⟨by show u<pr ns;lia,uu⟩,rfl⟩));have t':T (di ((mw ns).map ij)) v u:=B8 t;exact⟨⟨k+1,u,w,t⟩,l+1,d8.cons t' w'⟩
  obtain⟨_,k,w⟩:=z6 a ha;obtain⟨⟨l,w'⟩,_⟩:=z6 b hb;exact⟨_,w.trans w'⟩
end jn
namespace PyProof.Rows
open PySem
section
variable {prog:Program} {w:World} {A:Around} {E:Value->Shared->Prop} {s:Shared} {κ:SortKind} {a₀:Array Keyed} {pd:Array (Nat×Nat×Nat)} {ck nu:Keyed->Int}
structure Nu(nu:Keyed->Int)(a₀:Array Keyed):Prop where
 up:∀i j,i<j->j<a₀.size->kk nu a₀ i<kk nu a₀ j
 bd:∀x∈a₀.toList,0<=nu x/\nu x<64
structure SK(κ:SortKind)(a₀:Array Keyed)(pd:Array (Nat×Nat×Nat))(nu:Keyed->Int)(k:Nat)(st:SortSt):Prop where
 q:SQ κ a₀ pd st
 rest:∀j,k<=j->(arrOf st)[j]?=a₀[j]?
 nu:∀i j,i<k->k<=j->j<a₀.size->kk nu (arrOf st) i<kk nu (arrOf st) j
theorem SK.bd{k:Nat}{st:SortSt}(N:Nu nu a₀)(h:SK κ a₀ pd nu k st){i:Nat}(hi:i<a₀.size):0<=kk nu (arrOf st) i/\kk nu (arrOf st) i<64:=by
 obtain⟨p,e,m⟩:=h.q.at hi;unfold kk;rw[e];exact N.bd p m
theorem SK.later{k:Nat}{st:SortSt}(N:Nu nu a₀)(h:SK κ a₀ pd nu k st){i j:Nat}(hi:k<=i)(tG:i<j)(hj:j<a₀.size):kk nu (arrOf st) i<kk nu (arrOf st) j:=by
 rw[eM (h.rest i hi),eM (h.rest j (by lia))];exact N.up i j tG hj
theorem SK.up{k:Nat}{st:SortSt}(N:Nu nu a₀)(h:SK κ a₀ pd nu k st){m:Nat}(hm:k<=m):SK κ a₀ pd nu m st:=
 ⟨h.q,fun j hj=>h.rest j (by lia),fun i j hi hj hz=>by
  by_cases c:i<k
  .exact h.nu i j c (by lia) hz
  .exact h.later N (by lia) (by lia) hz⟩
theorem SK.lt{k:Nat}{st:SortSt}(N:Nu nu a₀)(h:SK κ a₀ pd nu k st){i j:Nat}(hi:i<j)(hk:k<=j)(hj:j<a₀.size):kk nu (arrOf st) i<kk nu (arrOf st) j:=by
 by_cases c:i<k
 .exact h.nu i j c hk hj
 .exact h.later N (by lia) hi hj
def wz(ck nu:Keyed->Int)(a:Array Keyed)(hi:Nat):Prop:=∀i j,i<=j->j<hi->64*kk ck a i+kk nu a i<=64*kk ck a j+kk nu a j
def Ei(ck nu:Keyed->Int)(a:Array Keyed)(hi:Nat):Prop:=∀i j,i<=j->j<hi->64*kk ck a j+kk nu a j<=64*kk ck a i+kk nu a i
theorem FP{st:SortSt}{n ok:Nat}{Q:Bool->SortSt->Prop}(hC:oM prog w A s κ a₀ ck)(N:Nu nu a₀)(hn:n<=a₀.size)(h1:1<=ok)(bZ:ok<=n)(hB:SK κ a₀ pd nu ok st)(hs:wz ck nu (arrOf st) ok)(h:∀aD,SK κ a₀ pd nu n aD->wz ck nu (arrOf aD) n->Q true aD):wpS (model prog w) A E s (binarySort' 0 n ok) Q st:=by
 rw[binarySort'_eq];simp only[gk];rw[show max ok 1=ok by lia];refine aJ (dO (dW (I:=fun k c aD=>c=(none,())/\SK κ a₀ pd nu k aD/\wz ck nu (arrOf aD) k) (Q:=fun c aD=>c=(none,())/\SK κ a₀ pd nu n aD/\wz ck nu (arrOf aD) n) ?_ (fun c aD hh=>?_) ⟨rfl,hB,hs⟩) ?_)
 .rintro k c aD KB BS ⟨rfl,wv,so⟩;refine aJ (dO (dW (I:=fun x c n0=>(∃l r,c=(none,l,r)/\l<=r/\r<=k/\r<=l+(k-x)/\(∀i,i<l->64*kk ck (arrOf aD) i+kk nu (arrOf aD) i<=64*kk ck (arrOf aD) k+kk nu (arrOf aD) k)/\(∀i,r<=i->i<k->64*kk ck (arrOf aD) k+kk nu (arrOf aD) k<=64*kk ck (arrOf aD) i+kk nu (arrOf aD) i))/\n0=aD)
   (Q:=fun c n0=>(∃l r,c=(none,l,r)/\l<=k/\(∀i,i<l->64*kk ck (arrOf aD) i+kk nu (arrOf aD) i<=64*kk ck (arrOf aD) k+kk nu (arrOf aD) k)/\(∀i,l<=i->i<k->64*kk ck (arrOf aD) k+kk nu (arrOf aD) k<=64*kk ck (arrOf aD) i+kk nu (arrOf aD) i))/\n0=aD) ?_ ?_ ⟨⟨_,_,rfl,bT _,aN _,by lia,fun i h=>by lia,fun i h h'=>by lia⟩,rfl⟩) ?_)
  .rintro x c e8 _ hx ⟨⟨l,r,rfl,Mg,hr,Hv,f1,f2⟩,rfl⟩;dsimp only;by_cases xv:l>=r
   .rw[av xv];exact aF ⟨⟨_,_,rfl,by lia,f1,fun i hi kC=>f2 i (by lia) kC⟩,rfl⟩
   .rw[au xv];refine aJ (fV hC wv.q (by lia) (by lia) fun b eb=>?_);have nn:=wv.lt N (i:=(l+r) / 2) (j:=k) (by lia) (aN _) (by lia);have b1:=wv.bd N (i:=(l+r) / 2) (by lia);have b2:=wv.bd N (i:=k) (by lia);cases b
    .have e:=iq eb.symm;refine aF ⟨⟨_,_,rfl,by lia,hr,by lia,fun i hi=>?_,f2⟩,rfl⟩;have:=so i ((l+r) / 2) (by lia) (by lia);lia
    .have e:=dE eb.symm;refine aF ⟨⟨_,_,rfl,by lia,by lia,by lia,f1,fun i hi kC=>?_⟩,rfl⟩;have:=so ((l+r) / 2) i (by lia) (by lia);lia
  .rintro c e8 ⟨⟨l,r,rfl,Mg,hr,Hv,f1,f2⟩,rfl⟩;exact⟨⟨_,_,rfl,by lia,f1,fun i hi kC=>f2 i (by lia) kC⟩,rfl⟩
  .rintro c e8 ⟨⟨l,r,rfl,hl,f1,f2⟩,rfl⟩;dsimp only;refine aJ (xu wv.q (by lia) (by lia) fun gI jB hg=>aF ?_);have ee:∀ (key:Keyed->Int) i,kk key (arrOf gI) i=if i=l then kk key (arrOf e8) k else if l<i/\i<=k then kk key (arrOf e8) (i-1) else kk key (arrOf e8) i:=fun key i=>by
    unfold kk;rw[hg i];split
    .rfl
    .split <;> rfl
   refine⟨rfl,⟨jB,fun j hj=>?_,fun i j hi hj hz=>?_⟩,fun i j h2 h3=>?_⟩
   .rw[hg j,au (by lia),au (by lia)];exact wv.rest j (by lia)
   .rw[ee nu j,au (by lia),au (by lia),ee nu i];split
    .exact wv.lt N (by lia) (by lia) hz
    .split
     .exact wv.lt N (by lia) (by lia) hz
     .exact wv.lt N (by lia) (by lia) hz
   .rw[ee ck,ee ck,ee nu,ee nu];by_cases c1:i=l
    .rw[av c1,av c1];by_cases c2:j=l
     .rw[av c2,av c2];exact fL _
     .have c4:l<j/\j<=k:=by lia
      rw[au c2,au c2,av c4,av c4];exact f2 (j-1) (by lia) (by lia)
    .rw[au c1,au c1];by_cases c3:l<i/\i<=k
     .have c2:¬ j=l:=by lia
      have c4:l<j/\j<=k:=by lia
      rw[av c3,av c3,au c2,au c2,av c4,av c4];exact so _ _ (by lia) (by lia)
     .rw[au c3,au c3];by_cases c2:j=l
      .rw[av c2,av c2];exact f1 i (by lia)
      .rw[au c2,au c2];by_cases c4:l<j/\j<=k
       .rw[av c4,av c4];exact so _ _ (by lia) (by lia)
       .rw[au c4,au c4];exact so _ _ (by lia) (by lia)
 .obtain⟨h2,h3,h4⟩:=hh;have e:max ok n=n:=by lia
  rw[e] at h3 h4;exact⟨h2,h3,h4⟩
 .rintro c aD ⟨rfl,wv,so⟩;exact aF (h aD wv so)
theorem xM{st:SortSt}{bf n:Nat}{Q:Option (Option Nat)×Nat->SortSt->Prop}(hC:oM prog w A s κ a₀ ck)(N:Nu nu a₀)(hn:bf<=a₀.size)(h1:1<=n)(h2:n<=bf)(hB:SK κ a₀ pd nu n st)(so:wz ck nu (arrOf st) n)(h:∀m,n<=m->m<=bf->wz ck nu (arrOf st) m->(m=bf\/kk ck (arrOf st) m<kk ck (arrOf st) (m-1))->Q (none,m) st):
  wpS (model prog w) A E s (forIn [n:bf] ((none:Option (Option Nat)),n) fun _ r=>do
   let some gO <- ltAt' r.2 (r.2-1)|pure (ForInStep.done (some none,r.2))
   if gO then pure (ForInStep.done (none,r.2)) else pure (ForInStep.yield (none,r.2+1))) Q st:=by
 refine dO (dW (I:=fun i c aD=>aD=st/\c=(none,i)/\wz ck nu (arrOf st) i) (Q:=fun c aD=>aD=st/\∃m,c=(none,m)/\n<=m/\m<=bf/\wz ck nu (arrOf st) m/\(m=bf\/kk ck (arrOf st) m<kk ck (arrOf st) (m-1))) ?_ ?_ ⟨rfl,rfl,so⟩) ?_
 .rintro i c rZ VC Ab ⟨rfl,rfl,xw⟩;dsimp only;have nn:=hB.lt N (i:=i-1) (j:=i) (by lia) (by lia) (by lia);refine aJ (fV hC hB.q (by lia) (by lia) fun b eb=>?_);cases b
  .have e:=iq eb.symm;refine aF ⟨rfl,rfl,fun x y r6 hy=>?_⟩;by_cases c1:y<i
   .exact xw x y r6 c1
   .have:y=i:=by lia
    subst this;by_cases c2:x=y
    .rw[c2];exact fL _
    .have:=xw x (y-1) (by lia) (by lia);lia
  .exact aF ⟨rfl,_,rfl,by lia,by lia,xw,.inr (dE eb.symm)⟩
 .rintro c rZ ⟨rfl,rfl,xw⟩;have:max n bf=bf:=by lia
  rw[this] at xw |-;exact⟨rfl,_,rfl,by lia,by lia,xw,.inl rfl⟩
 .rintro c rZ ⟨rfl,m,rfl,m1,m2,xw,e⟩;exact h m m1 m2 xw e
theorem SK.rev{st aD:SortSt}{b i:Nat}(N:Nu nu a₀)(hB:SK κ a₀ pd nu b st)(hb:b<=i)(hi:i<=a₀.size)(hq:SQ κ a₀ pd aD)(hg:∀k,(arrOf aD)[k]?=if b<=k/\k<i then (arrOf st)[b+i-1-k]? else (arrOf st)[k]?):SK κ a₀ pd nu i aD:=
 ⟨hq,fun j hj=>by rw[hg j,au (by lia)];exact hB.rest j (by lia),fun x j hx hj hz=>by
  rw[dJ hg,dJ hg,au (by lia:¬ (b<=j/\j<i))];split
  .exact hB.lt N (by lia) (by lia) hz
  .exact hB.lt N (by lia) (by lia) hz⟩
theorem Ei.rev{st aD:SortSt}{b i:Nat}(N:Nu nu a₀)(hB:SK κ a₀ pd nu b st)(hb:b<=i)(hi:i<=a₀.size)(hg:∀k,(arrOf aD)[k]?=if b<=k/\k<i then (arrOf st)[b+i-1-k]? else (arrOf st)[k]?)(de:Ei ck nu (arrOf st) b)(d1:∀x y,x<b->b<=y->y<i->kk ck (arrOf st) y<kk ck (arrOf st) x)(d2:∀x,b<=x->x<i->kk ck (arrOf st) x=kk ck (arrOf st) (i-1)):Ei ck nu (arrOf aD) i:=fun x y r6 hy=>by
 rw[dJ hg,dJ hg,dJ hg,dJ hg];by_cases cy:b<=y
 .rw[av (by lia:b<=y/\y<i),av (by lia:b<=y/\y<i)];have by1:=hB.bd N (i:=b+i-1-y) (by lia);by_cases cx:b<=x
  .rw[av (by lia:b<=x/\x<i),av (by lia:b<=x/\x<i)];have e1:=d2 (b+i-1-x) (by lia) (by lia);have e2:=d2 (b+i-1-y) (by lia) (by lia);by_cases c:x=y
   .rw[c];exact fL _
   .have:=hB.later N (i:=b+i-1-y) (j:=b+i-1-x) (by lia) (by lia) (by lia);lia
  .rw[au (by lia:¬ (b<=x/\x<i)),au (by lia:¬ (b<=x/\x<i))];have:=d1 x (b+i-1-y) (by lia) (by lia) (by lia);have bx:=hB.bd N (i:=x) (by lia);lia
 .rw[au (by lia:¬ (b<=y/\y<i)),au (by lia:¬ (b<=y/\y<i)),au (by lia:¬ (b<=x/\x<i)),au (by lia:¬ (b<=x/\x<i))];exact de x y r6 (by lia)
theorem vO{a:Array Keyed}{b:Nat}:∀k,a[k]?=if b<=k/\k<b+1 then a[b+(b+1)-1-k]? else a[k]?:=fun k=>by
 split
 .rename_i c;rw[show b+(b+1)-1-k=k by lia]
 .rfl
theorem xN{st:SortSt}{bf n:Nat}{Q:Option Nat->SortSt->Prop}(hC:oM prog w A s κ a₀ ck)(N:Nu nu a₀)(hn:bf<=a₀.size)(h1:1<=n)(h2:n<=bf)(hB:SK κ a₀ pd nu n st)(de:Ei ck nu (arrOf st) n)(h:∀n aD,SK κ a₀ pd nu n aD->1<=n->n<=bf->wz ck nu (arrOf aD) n->Q (some n) aD):wpS (model prog w) A E s (Ft 0 bf n) Q st:=by
 unfold Ft;simp only[gk];refine aJ (ix hB.q (by lia) fun e8 Ks hg=>?_);have r9:SK κ a₀ pd nu n e8:=⟨Ks,fun j hj=>by rw[hg j,au (by lia)];exact hB.rest j hj,fun i j hi hj hz=>by
  rw[dJ hg,dJ hg,au (by lia:¬ (0<=j/\j<n))];split
  .exact hB.nu _ _ (by lia) hj hz
  .exact hB.nu _ _ hi hj hz⟩
 refine aJ (xM hC N hn h1 h2 r9 (fun i j tG hj=>?_) fun m m1 m2 so _=>?_)
 .rw[dJ hg,dJ hg,dJ hg,dJ hg,av (by lia),av (by lia),av (by lia),av (by lia)];exact de _ _ (by lia) (by lia)
 .exact aF (h m e8 (r9.up N m1) (by lia) m2 so)
theorem xO{st:SortSt}{bf n:Nat}{Q:Option Nat->SortSt->Prop}(hC:oM prog w A s κ a₀ ck)(N:Nu nu a₀)(hn:bf<=a₀.size)(h1:1<=n)(h2:n<bf)(hB:SK κ a₀ pd nu n st)(de:Ei ck nu (arrOf st) n)(d1:∀x,x<n->kk ck (arrOf st) n<kk ck (arrOf st) x)(h:∀n aD,SK κ a₀ pd nu n aD->1<=n->n<=bf->wz ck nu (arrOf aD) n->Q (some n) aD):wpS (model prog w) A E s (Fu 0 bf n) Q st:=by
 unfold Fu;simp only[gk];refine aJ (jc (fN ⟨rfl,?_⟩));refine aJ (dO (dW (I:=fun i c aD=>∃q b,c=(none,i,q)/\i=b+(q+1)/\SK κ a₀ pd nu b aD/\Ei ck nu (arrOf aD) b/\(∀x y,x<b->b<=y->y<i->kk ck (arrOf aD) y<kk ck (arrOf aD) x)/\∀x,b<=x->x<i->kk ck (arrOf aD) x=kk ck (arrOf aD) (i-1))
  (Q:=fun c aD=>∃i q b,c=(none,i,q)/\i<=bf/\i=b+(q+1)/\SK κ a₀ pd nu b aD/\Ei ck nu (arrOf aD) b/\(∀x y,x<b->b<=y->y<i->kk ck (arrOf aD) y<kk ck (arrOf aD) x)/\∀x,b<=x->x<i->kk ck (arrOf aD) x=kk ck (arrOf aD) (i-1)) ?_ ?_ ⟨0,n,rfl,rfl,hB,de,fun x y hx hy TQ=>by rw[show y=n by lia];exact d1 x hx,fun x hx o5=>by rw[show x=n by lia];rfl⟩) ?_)
 .rintro i c gI VC Ab ⟨q,b,rfl,rfl,jB,ww,d3,e3⟩;dsimp only;have step:∀aD,SQ κ a₀ pd aD->(∀k,(arrOf aD)[k]?=if b<=k/\k<b+(q+1) then (arrOf gI)[b+(b+(q+1))-1-k]? else (arrOf gI)[k]?)->kk ck (arrOf gI) (b+(q+1))<kk ck (arrOf gI) (b+(q+1)-1)->
    SK κ a₀ pd nu (b+(q+1)) aD/\Ei ck nu (arrOf aD) (b+(q+1))/\(∀x y,x<b+(q+1)->b+(q+1)<=y->y<b+(q+1)+1->kk ck (arrOf aD) y<kk ck (arrOf aD) x):=fun aD hq hg lt=>by
   refine⟨jB.rev N (by lia) (by lia) hq hg,Ei.rev N jB (by lia) (by lia) hg ww d3 e3,fun x y hx hy TQ=>?_⟩;rw[show y=b+(q+1) by lia,dJ hg,dJ hg,au (by lia)];split
   .rw[e3 (b+(b+(q+1))-1-x) (by lia) (by lia)];exact lt
   .have:=d3 x (b+(q+1)-1) (by lia) (by lia) (by lia);lia
  refine aJ (fV hC jB.q (by lia) (by lia) fun b3 Zi=>?_);cases b3
  .have Qt:=iq Zi.symm;dsimp only;rw[au (by decide)];refine aJ (fV hC jB.q (by lia) (by lia) fun b4 eb4=>?_);cases b4
   .have e4':=iq eb4.symm;have eq:kk ck (arrOf gI) (b+(q+1))=kk ck (arrOf gI) (b+(q+1)-1):=by lia
    refine aF ⟨q+1,b,rfl,rfl,jB,ww,fun x y hx hy TQ=>?_,fun x hx o5=>?_⟩
    .by_cases c:y<b+(q+1)
     .exact d3 x y hx hy c
     .rw[show y=b+(q+1) by lia,eq];exact d3 x _ hx (by lia) (by lia)
    .rw[show b+(q+1)+1-1=b+(q+1) by lia];by_cases c:x<b+(q+1)
     .rw[e3 x hx c,eq]
     .rw[show x=b+(q+1) by lia]
   .exact aF ⟨_,_,_,rfl,by lia,rfl,jB,ww,d3,e3⟩
  .have Qt:=dE Zi.symm;dsimp only;rw[av rfl];split
   .rename_i cq;rw[show b+(q+1)-(q+1)=b by lia];refine aJ (ix jB.q (by lia) fun ph VN hg=>aF ?_);obtain⟨s1,s2,s3⟩:=step ph VN hg Qt;exact⟨0,b+(q+1),rfl,rfl,s1,s2,s3,fun x hx o5=>by rw[show x=b+(q+1) by lia];rfl⟩
   .rename_i cq;have cq:q=0:=by lia
    subst cq;obtain⟨s1,s2,s3⟩:=step gI jB.q vO Qt;exact aF ⟨0,b+(0+1),rfl,rfl,s1,s2,s3,fun x hx o5=>by rw[show x=b+(0+1) by lia];rfl⟩
 .rintro c gI ⟨q,b,rfl,e,jB,ww,d3,e3⟩;have:max (n+1) bf=bf:=by lia
  rw[this] at e d3 e3 |-;exact⟨_,_,_,rfl,by lia,e,jB,ww,d3,e3⟩
 .rintro c gI ⟨i,q,b,rfl,hi,rfl,jB,ww,d3,e3⟩;dsimp only;split
  .rename_i cq;rw[show b+(q+1)-(q+1)=b by lia];refine aJ (ix jB.q (by lia) fun ph VN hg=>?_);exact xN hC N hn (by lia) hi (jB.rev N (by lia) (by lia) VN hg) (Ei.rev N jB (by lia) (by lia) hg ww d3 e3) h
  .rename_i cq;have cq:q=0:=by lia
   subst cq;exact xN hC N hn (by lia) hi (jB.rev N (by lia) (by lia) jB.q vO) (Ei.rev N jB (by lia) (by lia) vO ww d3 e3) h
theorem AC{st:SortSt}{bf:Nat}{Q:Option Nat->SortSt->Prop}(hC:oM prog w A s κ a₀ ck)(N:Nu nu a₀)(hn:bf<=a₀.size)(h1:1<=bf)(hB:SK κ a₀ pd nu 0 st)(h:∀n aD,SK κ a₀ pd nu n aD->1<=n->n<=bf->wz ck nu (arrOf aD) n->Q (some n) aD):wpS (model prog w) A E s (countRun' 0 bf) Q st:=by
 rw[kW];simp only[gk];refine aJ (xM hC N hn (aN 1) h1 (hB.up N (bT 1)) (fun i j tG hj=>by rw[show i=j by lia];exact fL _) fun n n1 n2 so e=>?_);dsimp only;by_cases e1:(n==bf)=true
 .rw[av e1];exact aF (h n st (hB.up N (by lia)) n1 n2 so)
 rw[au e1];have g1:¬ (n=bf):=by simpa using e1
 have dG:kk ck (arrOf st) n<kk ck (arrOf st) (n-1):=e.resolve_left g1;by_cases e2:n > 1
 .rw[av e2];refine aJ (fV hC hB.q (by lia) (by lia) fun b2 eb=>?_);cases b2
  .have e3:=iq eb.symm;dsimp only;rw[au (by decide)];have eq:∀k,0<=k->k<n->kk ck (arrOf st) k=kk ck (arrOf st) (n-1):=fun k _ BS=>by
    have a1:=so 0 k (by lia) BS;have a2:=so k (n-1) (by lia) (by lia);have c0:=hB.bd N (i:=0) (by lia);have c1:=hB.bd N (i:=k) (by lia);have c2:=hB.bd N (i:=n-1) (by lia);lia
   refine aJ (ix hB.q (by lia) fun e8 Ks hg=>?_);have TR:∀k,(arrOf e8)[k]?=if 0<=k/\k<n then (arrOf st)[0+n-1-k]? else (arrOf st)[k]?:=hg
   refine xO hC N hn n1 (by lia) (hB.rev N (by lia) (by lia) Ks TR) (Ei.rev N hB (by lia) (by lia) TR (fun i j tG hj=>by lia) (fun x y hx _ _=>by lia) eq) (fun x hx=>?_) h;rw[dJ TR,dJ TR,au (by lia:¬ (0<=n/\n<n)),av (by lia:0<=x/\x<n),eq (0+n-1-x) (by lia) (by lia)];exact dG
  .exact aF (h n st (hB.up N (by lia)) n1 n2 so)
 .rw[au e2];have:n=1:=by lia
  subst this;refine xO hC N hn n1 (by lia) (hB.up N (by lia)) (fun i j tG hj=>by rw[show i=j by lia];exact fL _) (fun x hx=>?_) h;rw[show x=1-1 by lia];exact dG
theorem AD{st:SortSt}{Q:Unit->SortSt->Prop}(hC:oM prog w A s κ a₀ ck)(N:Nu nu a₀)(ha:arrOf st=a₀)(hk:kindOf st=κ)(hf:failedOf st=none)(Ml:pendingOf st=#[])(h2:2<=a₀.size)(Hu:a₀.size<64)(h:∀aD,(arrOf aD).Perm a₀->failedOf aD=none->wz ck nu (arrOf aD) a₀.size->Q () aD):wpS (model prog w) A E s sortRuns' Q st:=by
 rw[sortRuns'_eq];refine aJ (eG ?_);dsimp only;have hmr:minRun' a₀.size a₀.size 0=a₀.size:=by
  obtain⟨f,hf⟩:∃f,a₀.size=f+1:=⟨a₀.size-1,by lia⟩
  have:minRun' (f+1) a₀.size 0=a₀.size:=by rw[minRun'_succ,av Hu];rfl
  rwa [<-hf] at this
 rw[ha];simp only[hmr];have hB:SK κ a₀ #[] nu 0 st:=⟨⟨by rw[ha],hk,hf,Ml⟩,fun j _=>by rw[ha],fun i j hi _ _=>absurd hi (zy _)⟩
 refine aJ (dO (dW
  (I:=fun x c aD=>(x=0/\c=(none,0)/\SK κ a₀ #[] nu 0 aD)\/(1<=x/\c=(none,a₀.size)/\SQ κ a₀ #[(0,a₀.size,0)] aD/\wz ck nu (arrOf aD) a₀.size))
  (Q:=fun c aD=>c=(none,a₀.size)/\SQ κ a₀ #[(0,a₀.size,0)] aD/\wz ck nu (arrOf aD) a₀.size) ?step ?fin (.inl ⟨rfl,rfl,hB⟩)) ?post)
 case fin=>
  rintro c aD (⟨hx,_,_⟩|⟨_,hc,hD⟩)
  .lia
  .exact⟨hc,hD⟩
 case step=>
  rintro x c aD _ hx (⟨rfl,rfl,wv⟩|⟨hx1,rfl,hD⟩)
  .dsimp only;rw[au (by lia)];simp only[uY,qz,gk];have fin:∀ {gI:SortSt},SK κ a₀ #[] nu a₀.size gI->wz ck nu (arrOf gI) a₀.size->SQ κ a₀ #[(0,a₀.size,0)] (setPending gI ((pendingOf gI).push (0,a₀.size,0)))/\wz ck nu (arrOf (setPending gI ((pendingOf gI).push (0,a₀.size,0)))) a₀.size:=fun {gI} k so=>⟨⟨k.q.perm,k.q.kind,k.q.failed,by show (pendingOf gI).push _=_;rw[k.q.pend];rfl⟩,so⟩
   refine aJ (AC hC N (aN _) (by lia) wv fun m e8 r9 hm1 L9 lB=>?_);dsimp only;by_cases dG:m<a₀.size
   .rw[av dG];refine aJ (jc (fN ⟨rfl,?_⟩));refine aJ (FP hC N (aN _) hm1 L9 r9 lB fun gI jB U4=>?_);simp only[qx,f8,eJ];refine aJ (eG ?_);have hb:(pendingOf gI).back?=none:=by rw[jB.q.pend];rfl
    rw[hb];dsimp only;exact aJ (eS (aF (.inr ⟨by lia,rfl,fin jB U4⟩)))
   .rw[au dG];have hm:m=a₀.size:=by lia
    subst hm;refine aJ (eG ?_);have hb:(pendingOf e8).back?=none:=by rw[r9.q.pend];rfl
    rw[hb];dsimp only;exact aJ (eS (aF (.inr ⟨by lia,rfl,fin r9 lB⟩)))
  .dsimp only;rw[av (aN _)];exact aF ⟨rfl,hD⟩
 case post=>
  rintro c aD ⟨rfl,hD⟩;dsimp only;refine aJ (dO (dW (I:=fun _ c n0=>n0=aD/\c=(none,())) (Q:=fun c n0=>n0=aD/\c=(none,())) ?_ (fun _ _ hh=>hh) ⟨rfl,rfl⟩) ?_)
  .rintro x c n0 _ _ ⟨rfl,rfl⟩;refine aJ (eG ?_);rw[av (by rw[hD.1.pend];exact aN 1)];exact aF ⟨rfl,rfl⟩
  .rintro c n0 ⟨rfl,rfl⟩;exact aF (h _ hD.1.perm hD.1.failed hD.2)
end
end PyProof.Rows
namespace L2
open PySem PySem.Spec PyProof.Rows
def AE(scope:Scope)(cD:List (Str×Addr))(qual:Str)(f c L:Addr):Env:=
 { scope:=scope,locals:=L,globals:=mainGlobals,cells:=cD,qual:=qual++".<locals>.",func:=some f,code:=.ref c,frame:=some L,builtins:=builtinsNs }
def oU(X:Cx)(NB:List Str)(scope:Scope)(cD:List (Str×Addr))(qual:Str)(f c:Addr)(s:Shared)(H:Hp):Cx:=
 { X with A:=X.A.in1.in1.deeper (AE scope cD qual f c s.heap.objs.size),N:=NB,s₀:=s,H₀:=H,env:=AE scope cD qual f c s.heap.objs.size,outer:=X.stack,stack:=AE scope cD qual f c s.heap.objs.size::X.stack,ex:=[],fn:=fun _=>false,pn:=[],xe:=fun _ _=>False }
structure xP(X:Cx)(NB:List Str)(src:List (Option Nat))(scope:Scope)(qual:Str)(params:Arguments)(body:Expr)(y:Str):Prop where
 bs:ge NB src scope X
 bind:∀cD pm c xk v,bindArgs (PySem.W.kla_fn "<lambda>" qual params body scope cD pm (.ref c) xk) ⟨[v],[]⟩=pure [(y,v)]
 y0:NB[0]?=some y
 s0:src[0]?=some none
 ly:scope.names.lookup y=some .local
 vC:∀z∈scope.names,z.2≠.cell
 co:scope.isCoroutine=false
 gen:scope.isGenerator=false
section
variable {X:Cx} {ae:List (Addr×Obj)} {σ:St} {H:Hp} {s:Shared} {NB:List Str} {src:List (Option Nat)} {scope:Scope} {qual:Str} {params:Arguments} {body:Expr} {y:Str} {cD:List (Str×Addr)} {f c:Addr} {h₁:Heap} {t₁:Nat} {v:V} {u:Value}
theorem IC(I:aO X ae σ H s)(S:xP X NB src scope qual params body y)(hd:X.A.handled=none)(c1:∀x c,cD.lookup x=some c->X.env.cells.lookup x=some c)(c2:∀x,(x,NameKind.free)∈scope.names->∃c,cD.lookup x=some c)(hn:h₁.Ns s.heap.objs.size (fun x=>[(y,u)].lookup x))(hk:∀b o,s.heap.get? b=some o->h₁.get? b=some o)(rv:bz v u):
  aO (oU X NB scope cD qual f c s H) [] ((yz src σ).set 0 (some v)) H { s with heap:=h₁,toks:=t₁ }:=by
 have vv:∀x c,cD.lookup x=some c->∃v,s.heap.IsCell c v:=fun x c e=>I.cell x c (c1 x c e);have B:=S.bs;refine⟨⟨I.ok.mod,B.kind,rfl,rfl,aN _,fun x y c e1 e2=>I.ok.inj x y c (c1 x c e1) (c1 y c e2),fun x hx=>?_,(fun x c z e=>by cases z),fun _=>hd,Around.frames_deeper I.ok.frames,.inr ⟨rfl,rfl⟩,(fun b hb=>by cases hb),I.bs,a8 I.ok.Ez I.sz,(fun b o e hb=>by cases hb),(fun b hb=>by cases hb),I.stack,I.va⟩,
  rfl,I.bare,Un.kept hk,⟨_,hn,fun i x w e1 e2 e3=>?_⟩,fun x c e=>?_,I.bZ.fresh (aN _),fun x c e=>I.jR x c (c1 x c e),fun p hp=>absurd (show p∈([]:List (Addr×Obj)) from hp) (by simp),I.bZ.kept hk,?_⟩
 .have hx:scope.names.lookup x=some .cell\/scope.names.lookup x=some .free:=hx;rcases hx with z|z
  .exact absurd rfl (S.vC _ (jD z))
  .exact c2 x (jD z)
 .have e1:NB[i]?=some x:=e1;cases i with
  |zero=>
   rw[S.y0] at e1;cases e1;have hl:0<(yz src σ).length:=by
    unfold yz;rw[aW];exact(cJ.mp S.s0).1
   rw[mV hl] at e2;cases e2;exact⟨u,rv,.inl ⟨S.ly,by simp⟩⟩
  |succ i=>
   rw[mX (by lia)] at e2;obtain⟨j,hj,hv⟩:=By e2;obtain⟨hN,hF⟩:=B.src (i+1) x j e1 hj;obtain⟨m0,E5,LV⟩:=I.loc;have z7:=jD hF;have kx:=B.free _ z7 rfl;have Pd:Op X.env.scope x:=by
    rcases kx with z|z
    .exact .inr (.inl z)
    .exact .inr (.inr z)
   obtain⟨u',r,l⟩:=LV j x w hN hv Pd;obtain⟨c',hc⟩:=c2 x z7;refine⟨u',r,.inr ⟨.inr hF,c',hc,?_⟩⟩;rcases l with ⟨Km,_⟩|⟨_,c'',e,z⟩
   .have E6:X.env.scope.names.lookup x=some .local:=Km;rcases kx with z|z <;> (rw[z] at E6;cases E6)
   .rw[c1 x c' hc] at e;cases e;obtain⟨o,ho,HJ⟩:=z;exact⟨o,hk _ _ ho,HJ⟩
 .obtain⟨v,o,ho,HJ⟩:=vv x c e;exact⟨v,o,hk _ _ ho,HJ⟩
 .show ((yz src σ).set 0 (some v)).length=NB.length;unfold yz;rw[kQ,aW];exact B.len
theorem FQ(hr:cj k X.A)(S:xP X NB src scope qual params body y)(I:aO X ae σ H s)(hf:H f=some (sJ f qual params body scope X.env.cells c))(hc:H c=some (mf c qual))(rv:bz v u)(hb:∀cD s H,PE (oU X NB scope cD qual f c s H) body te)(h:te ((yz src σ).set 0 (some v)) H Q):
  wpAny (model X.prog X.w) X.A.in1.in1 (call (.ref f) [u]) (EP X ae σ Q) (fun _ _=>False) s:=by
 obtain⟨cD,pm,xk,c1,c2,LU⟩:=(I.bZ f _ hf).1;have Vp:s.heap.CodeRec (.ref c) qual:=(I.bZ c _ hc).1;have Fk:X.A.in1.in1.depth<recursionLimit:=by
  have:=hr.dp;show X.A.depth<_;lia
 refine nC (PySem.W.kla_callFunE Fk LU rfl S.co S.gen rfl Vp ?_);rw[S.bind];refine wpAny_pure (wpAny_newFunctionEnv S.vC (fun x hx=>by rw[bL.mp hx];exact S.ly) (fun h₁ xn Qg=>⟨I.nolimit.fresh _ Qg,?_⟩) S.bs.kind);have Mb:∀b o,s.heap.get? b=some o->h₁.get? b=some o:=fun b o e=>Qg.extBut b o (aQ (aS e)) (cB _ e);refine PySem.W.kla_codeExpr ?_;have J:=IC (f:=f) (c:=c) (t₁:=s.toks+1) I S hr.hd c1 c2 xn Mb rv;refine jb (hb cD s H [] _ _ H Q J h) (fun w s' ⟨v',H',J',r',q'⟩=>?_) fun _ _ z=>z.elim;exact⟨v',H',I.Ke (ch:=[]) J'.os J'.base J'.bZ J'.bare (fun b hb=>by cases hb),r',q'⟩
end
def xQ(kz:Nat->Int)(a b:Nat):Prop:=64*kz a+a<=64*kz b+b
structure Ej(ns:List Nat)(kz:Nat->Int)(ps:List Keyed):Prop where
 len:ps.length=ns.length
 at_:∀ (i n:Nat),ns[i]?=some n->∃t u,ps[i]?=some (Value.int (kz n) t,Value.int (n:Int) u)
theorem Ej.mem(P:Ej ns kz ps)(h:p∈ps):∃n∈ns,∃t u,p=(Value.int (kz n) t,Value.int (n:Int) u):=by
 obtain⟨i,hi,e⟩:=uI h;have hn:i<ns.length:=by rw[<-P.len];exact hi
 obtain⟨t,u,e2⟩:=P.at_ i ns[i] (bH hn);rw[bH hi] at e2;exact⟨_,eX hn,t,u,by rw[<-e];exact bN e2⟩
theorem Ej.map(P:Ej ns kz ps):ps.map (fun p=>(numOf p.2).toNat)=ns:=by
 refine lX fun i=>?_;rw[bV];cases e:ns[i]? with
 |none=>
  have:ns.length<=i:=List.getElem?_eq_none_iff.mp e;rw[fX (by rw[P.len];exact this)];rfl
 |some n=>
  obtain⟨t,u,e2⟩:=P.at_ i n e;rw[e2];rfl
def TU(p:Keyed):Int:=numOf p.1
def QJ(p:Keyed):Int:=numOf p.2
theorem Ej.nu(P:Ej ns kz a.toList)(Mq:ns.Pairwise (·<·))(Hx:∀n∈ns,n<64):Nu QJ a:=by
 have g:∀ (i n:Nat),ns[i]?=some n->kk QJ a i=(n:Int):=fun i n e=>by
  obtain⟨t,u,e2⟩:=P.at_ i n e;unfold kk;rw[<-js,e2];rfl
 refine⟨fun i j tG hj=>?_,fun x hx=>?_⟩
 .have hj:j<ns.length:=by rw[<-P.len];simpa using hj
  rw[g i _ (bH (show i<ns.length by lia)),g j _ (bH hj)];have:=tq.mp Mq i j (by lia) hj tG;lia
 .obtain⟨n,hn,t,u,rfl⟩:=P.mem hx;have:=Hx n hn;show 0<=(n:Int)/\(n:Int)<64;lia
theorem Ej.cmp(P:Ej ns kz a.toList):oM prog w A s oneType' a TU:=fun x y hx hy Q E h=>by
 obtain⟨n,_,t,u,rfl⟩:=P.mem hx;obtain⟨m,_,t',u',rfl⟩:=P.mem hy;rw[keyLt'_oneType];exact oneLt_int h
theorem Ej.out(P:Ej ns kz a.toList)(hp:b.Perm a)(so:wz TU QJ b a.size):
  ∃out:List Nat,out.Perm ns/\out.Pairwise (xQ kz)/\aT (out.map fun (x:Nat)=>V.int (x:Int)) (b.map (·.2)).toList:=by
 have hl:b.toList.Perm a.toList:=jC.mp hp;have mem:∀p∈b.toList,∃n∈ns,∃t u,p=(Value.int (kz n) t,Value.int (n:Int) u):=fun p h=>P.mem (hl.mem_iff.mp h);refine⟨b.toList.map fun p=>(numOf p.2).toNat,by rw[<-P.map];exact hl.map _,?_,?_⟩
 .refine f9.mpr ?_;rw[tq];intro i j hi hj tG;have kC:i<b.size:=by simpa using hi
  have Qa:j<b.size:=by simpa using hj
  have q:=so i j (jN tG) (by rw[<-hp.size_eq];exact Qa);rw[cg kC,cg kC,cg Qa,cg Qa] at q;obtain⟨n,_,t,u,e⟩:=mem b[i] (by simp);obtain⟨m,_,t',u',e'⟩:=mem b[j] (by simp);have e1:b.toList[i]=b[i]:=by simp
  have e2:b.toList[j]=b[j]:=by simp
  rw[e1,e2];rw[e,e'] at q;rw[e,e'];exact q
 .rw[ng,cQ];have go:∀l:List Keyed,(∀p∈l,∃n∈ns,∃t u,p=(Value.int (kz n) t,Value.int (n:Int) u))->aT (l.map ((fun (x:Nat)=>V.int (x:Int)) ∘ fun p=>(numOf p.2).toNat)) (l.map (·.2)):=fun l=>by
   induction l with
   |nil=>intro _;exact .nil
   |cons x l ih=>
    intro h;obtain⟨n,_,t,u,rfl⟩:=h x bp;exact .cons ⟨u,rfl⟩ (ih fun p hp=>h p (cW _ hp))
  exact go _ mem
section
variable {X:Cx} {ae:List (Addr×Obj)} {σ:St} {H:Hp} {s:Shared}
theorem aO.QK(I:aO X ae σ H s)(f:gG X ae H a)(new:cC X.prog X.w (upd H a o) s.heap a o):aO X ae σ (upd H a o) s:=by
 have ne:∀ {b u},H b=some u->b≠a:=fun {b u} e z=>by rw[z,f.1] at e;cases e
 obtain⟨h,g,d,t,os⟩:=s;refine I.step (g':=g) (d':=d) (t':=t) (h':=h) (ch:=[a]) (fun b hb=>?_) (fun b o _ _ _ e _=>e) (fun b o _ _ _ e _=>⟨o.slots,e⟩) (fun b o hc _ n=>by rw[am (fun z=>hc (by simp[z]))];exact n)
  (fun b o _ e=>⟨o,e⟩) (fun b xs e=>by rw[am (ne e)];exact e) (fun b o u e=>by rw[am (ne e)];exact e) (fun b ps e=>⟨#[],by rw[am (ne e),e];simp⟩) (fun m hm=>hm) (fun b u e=>?_) I.bare
 .have e:b=a:=by simpa using hb
  subst e;exact⟨f.2.2.2.1,f.2.1,f.2.2.2.2.1,f.2.2.2.2.2⟩
 .by_cases hb:b=a
  .subst hb;rw[af] at e;cases e;exact new
  .rw[am hb] at e;exact(I.bZ b u e).jd (fun _ _ _ q=>q) (fun d q=>by rw[am (ne q)];exact q) fun d xs q=>by rw[am (ne q)];exact q
variable {NB:List Str} {src:List (Option Nat)} {scope:Scope} {qual:Str} {params:Arguments} {body:Expr} {y:Str} {f c:Addr} {te:TE} {k:Nat} {ns:List Nat} {kz:Nat->Int} {its:List Value} {a kS:Addr} {e1:Nat}
theorem xR{st:SortSt}{keys:Array Value}{e:Nat}{E:Value->Shared->Prop}{A:Around}(I:aO X ae σ H s)(fa:gG X ae H a)(fk:gG X ae H kS)(Mr:kS≠a)(oa:s.heap.get? a=some (seqObj "list" #[] e1))(ok:s.heap.get? kS=some (seqObj "list" keys e))(hk:keys.size<64)(Hu:(arrOf st).size<64)(hfl:failedOf st=none){out:List Nat}(hv:aT (out.map fun (x:Nat)=>V.int (x:Int)) ((arrOf st).map (·.2)).toList){P:PySem.Fin->Shared->Prop}(h:∀s',aO X ae σ (upd H a (.lst (out.map fun (x:Nat)=>V.int (x:Int)))) s'->P (.done (.ret .none)) s'):
  wpAny (model X.prog X.w) A (ksk_tail a false e1 (.ref kS) st) P E s:=by
 have s1:=m9 s.heap kS (Obj.mapSeq fun _=>(#[]:Array Value));have VO:(s.heap.update kS (Obj.mapSeq fun _=>(#[]:Array Value))).get? a=some (seqObj "list" #[] e1):=(s1.2 a Mr.symm).trans oa;have s2:=m9 (s.heap.update kS (Obj.mapSeq fun _=>(#[]:Array Value))) a (Obj.mapSeq fun _=>(arrOf st).map (·.2));obtain⟨c2,VP⟩:∃c2,((s.heap.update kS (Obj.mapSeq fun _=>(#[]:Array Value))).update a (Obj.mapSeq fun _=>(arrOf st).map (·.2))).get? a=some (seqObj "list" ((arrOf st).map (·.2)) c2):=⟨_,ny VO fun _=>(arrOf st).map (·.2)⟩
 have J1:=I.turned (t':=s.toks) (h':=s.heap.update kS (Obj.mapSeq fun _=>(#[]:Array Value))) (it:=kS) (fun b o hb q=>(s1.2 b hb).trans q) fk.1 fk.2.1 fk.2.2.2.1 fk.2.2.2.2.1 fk.2.2.2.2.2;have J2:=J1.turned (t':=s.toks) (h':=(s.heap.update kS (Obj.mapSeq fun _=>(#[]:Array Value))).update a (Obj.mapSeq fun _=>(arrOf st).map (·.2))) (it:=a) (fun b o hb q=>(s2.2 b hb).trans q) fa.1 fa.2.1 fa.2.2.2.1 fa.2.2.2.2.1 fa.2.2.2.2.2;have J3:=J2.QK fa (o:=.lst (out.map fun (x:Nat)=>V.int (x:Int))) ⟨?_,((arrOf st).map (·.2)).toList,c2,hv,by rw[VP]⟩
 .unfold ksk_tail;try dsimp only
  refine aA (lz ok rfl ?_ (by rw[gc];lia) (bT _));refine aA (wpAny_letGo ?_);refine aA (qE VO rfl ?_);simp only[f8,eJ];refine aA (lz VO rfl ?_ (bT _) (by rw[jE,gc];lia));rw[hfl];simp only[zh,f8,eJ];exact wpAny_pure (h _ J3)
 .have:=hv.length;rw[this,fZ,jE,gc];lia
theorem ID{keys:Array Value}{e:Nat}{E:Value->Shared->Prop}{A:Around}(I:aO X ae σ H s)(fa:gG X ae H a)(fk:gG X ae H kS)(Mr:kS≠a)(oa:s.heap.get? a=some (seqObj "list" #[] e1))(ok:s.heap.get? kS=some (seqObj "list" keys e))(hk:IntsAre keys.toList (ns.map kz))(hP:Ej ns kz (keys.zip its.toArray).toList)(hl:its.length=ns.length)(Hu:ns.length<64)(Mq:ns.Pairwise (·<·))(Hx:∀n∈ns,n<64){P:PySem.Fin->Shared->Prop}(h:∀s' (out:List Nat),out.Perm ns->out.Pairwise (xQ kz)->aO X ae σ (upd H a (.lst (out.map fun (x:Nat)=>V.int (x:Int)))) s'->P (.done (.ret .none)) s'):
  wpAny (model X.prog X.w) A (ksk_end a false its.toArray e1 (.ref kS) keys) P E s:=by
 have gJ:keys.size=ns.length:=by
  have h1:=hk.length;rw[fZ,aW] at h1;exact h1
 have hzs:(keys.zip its.toArray).size=ns.length:=by rw[Array.size_zip,gJ,cu,hl,qz]
 unfold ksk_end;simp only[f8,eJ];by_cases h2:its.toArray.size<2
 .rw[av h2,av h2];refine aA (wpAny_pure ?_);rw[StateT.run_pure];refine aA (wpAny_pure ?_);try dsimp only
  rw[cu,hl] at h2;obtain⟨out,o1,o2,o3⟩:=hP.out (b:=keys.zip its.toArray) (zB _) (fun i j tG hj=>by rw[hzs] at hj;rw[show i=j by lia];exact fL _);exact xR (st:=SortSt.mk' general' (keys.zip its.toArray) #[] 7 none) I fa fk Mr oa ok (by lia) (by show (keys.zip its.toArray).size<64;lia) rfl o3 fun s' J=>h s' out o1 o2 J
 .rw[au h2,au h2];rw[cu,hl] at h2;rw[ksk_kind hk (by lia)];refine aA (wpAny_pure ?_);refine aA (jb (AD (st:=SortSt.mk' oneType' (keys.zip its.toArray) #[] 7 none) (a₀:=keys.zip its.toArray) (ck:=TU) (nu:=QJ)
   (Q:=fun _ aD=>(arrOf aD).Perm (keys.zip its.toArray)/\failedOf aD=none/\wz TU QJ (arrOf aD) (keys.zip its.toArray).size)
   hP.cmp (hP.nu Mq Hx) rfl rfl rfl rfl (by lia) (by lia) fun aD a1 a2 a3=>⟨a1,a2,a3⟩) ?_ fun _ _ e=>e)
  rintro⟨⟨⟩,aD⟩ s' ⟨rfl,hp,hf,hs⟩;try dsimp only
  obtain⟨out,o1,o2,o3⟩:=hP.out hp hs;exact xR I fa fk Mr oa ok (by lia) (by rw[hp.size_eq];lia) hf o3 fun s' J=>h s' out o1 o2 J
theorem FR(hr:cj k X.A)(S:xP X NB src scope qual params body y)(hb:∀cD s H,PE (oU X NB scope cD qual f c s H) body te)(I:aO X ae σ H s)(hf:H f=some (sJ f qual params body scope X.env.cells c))(hc:H c=some (mf c qual))(hv:aT (ns.map fun (x:Nat)=>V.int (x:Int)) its)(Hu:ns.length<64)(Mq:ns.Pairwise (·<·))(Hx:∀n∈ns,n<64)(fa:gG X ae H a)(fk:gG X ae H kS)(Mr:kS≠a)(oa:s.heap.get? a=some (seqObj "list" #[] e1))(ok:s.heap.get? kS=some (seqObj "list" #[] 0))(VQ:∀n∈ns,∀H',aK H H'->te ((yz src σ).set 0 (some (.int (n:Nat)))) H' fun v QL=>v=.int (kz n)/\aK H' QL)(h:∀H' s' (out:List Nat),aK H H'->H' a=none->out.Perm ns->out.Pairwise (xQ kz)->aO X ae σ (upd H' a (.lst (out.map fun (x:Nat)=>V.int (x:Int)))) s'->P (.done (.ret .none)) s'):
  wpAny (model X.prog X.w) X.A.in1.in1 (ksk_rest a (.ref f) false its.toArray e1 (.ref kS)) P E s:=by
 have hl:its.length=ns.length:=by have:=hv.length;rw[aW] at this;exact this.symm
 unfold ksk_rest;refine aA (fN ?_);first
  |rw[List.forIn_toArray]
  |(rw[<-qj];simp only[List.toList_toArray])
  |rw[<-qj]
 have QM:∀ {p:Addr×Obj} {b:Addr} {o:Obj} {H':Hp} {s':Shared},gG X ae H b->H' b=none->s'.heap.get? b=some o->(∀v,o.data≠.cell v)->p=(b,o)->s'.heap.get? p.1=some p.2/\H' p.1=none/\p.1≠X.env.locals/\p.1∉X.fs/\∀v,p.2.data≠.cell v:=fun {p b o H' s'} F n e d z=>by
  subst z;exact⟨e,n,F.2.1,F.2.2.1,d⟩
 have two:∀ {H':Hp} {s':Shared} {oK:Obj} {VR:List (Addr×Obj)},aO X VR σ H' s'->(∀p∈ae,p∈VR)->H' a=none->H' kS=none->s'.heap.get? a=some (seqObj "list" #[] e1)->s'.heap.get? kS=some oK->(∀v,oK.data≠.cell v)->aO X (ae++[(kS,oK),(a,seqObj "list" #[] e1)]) σ H' s':=fun {H' s' oK VR} J sub na nk ea ek d=>J.l0 fun p hp=>by
  rcases bO.mp hp with z|z
  .exact J.pin p (dU _ (sub p z))
  .rcases bg.mp z with z|z
   .exact QM fk nk ek d z
   .exact QM fa na ea (fun v z=>by cases z) (bL.mp z)
 refine aA (ksk_fold (fun i s'=>∃H' kA e,aK H H'/\aO X (ae++[(kS,seqObj "list" kA e),(a,seqObj "list" #[] e1)]) σ H' s'/\IntsAre kA.toList ((ns.take i).map kz)) its 0 s
  ⟨H,#[],0,aK.refl _,two I (fun p z=>z) fa.1 fk.1 oa ok (fun v z=>by cases z),by simpa using IntsAre.nil⟩ ?step ?done)
 case step=>
  rintro j x s' hx ⟨H',kA,e,sm,J,hk⟩;simp only[gk] at hk |-;have hj:j<ns.length:=by rw[<-hl];exact(cJ.mp hx).1
  have Zj:ns[j]?=some ns[j]:=bH hj;obtain⟨u,hu,ru⟩:=hv.get (i:=j) (x:=V.int ((ns[j]:Nat):Int)) (by rw[bV,Zj];rfl);rw[hx] at hu;cases hu;refine aA (nA (jb (FQ hr S J (sm _ _ hf) (sm _ _ hc) ru hb (VQ ns[j] (eX hj) H' sm)) (fun w Hr he=>?_) fun _ _ hF=>hF.elim));obtain⟨v,QL,J2,⟨Bp,Qn⟩⟩:=he;obtain⟨rfl,KE⟩:=Qn;obtain⟨t2,rfl⟩:∃t,w=Value.int (kz ns[j]) t:=Bp;try dsimp only
  have nk:=J2.pin (kS,seqObj "list" kA e) (dU _ (dU _ (.head _)));have na:=J2.pin (a,seqObj "list" #[] e1) (dU _ (dU _ (.tail _ (.head _))));have s1:=m9 Hr.heap kS (Obj.mapSeq (·.push (.int (kz ns[j]) t2)));obtain⟨c2,VP⟩:∃c2,(Hr.heap.update kS (Obj.mapSeq (·.push (.int (kz ns[j]) t2)))).get? kS=some (seqObj "list" (kA.push (.int (kz ns[j]) t2)) c2):=⟨_,ny nk.1 (·.push (.int (kz ns[j]) t2))⟩
  have hz:kA.size<=64:=by
   have h1:=hk.length;rw[fZ,aW,jH] at h1;lia
  have J3:=(J2.l0 (pins':=ae) fun p hp=>J2.pin p (dU _ (fY _ hp))).turned (t':=Hr.toks) (h':=Hr.heap.update kS (Obj.mapSeq (·.push (.int (kz ns[j]) t2)))) (it:=kS) (fun b o hb q=>(s1.2 b hb).trans q) nk.2.1 fk.2.1 fk.2.2.2.1 fk.2.2.2.2.1 fk.2.2.2.2.2;refine aA (lz nk.1 rfl ?_ (by rw[gc];lia) (a8 (qA (Array.size_push ..)) (by rw[gc];lia)));refine wpAny_pure ⟨rfl,QL,_,c2,sm.trans KE,two J3 (fun p z=>z) na.2.1 nk.2.1 ((s1.2 a Mr.symm).trans na.1) VP (fun v z=>by cases z),?_⟩;have ek:(ns.take (j+1)).map kz=(ns.take j).map kz++[kz ns[j]]:=by rw[iP,Zj,zd,cY];rfl
  have ea:(kA.push (Value.int (kz ns[j]) t2)).toList=kA.toList++[Value.int (kz ns[j]) t2]:=by simp
  rw[ea,ek];exact ksk_snoc hk
 case done=>
  rintro s' ⟨H',kA,e,sm,J,hk⟩;have Km:IntsAre kA.toList (ns.map kz):=by
   have e3:ns.take (0+its.length)=ns:=mT (by lia);rw[e3] at hk;exact hk
  have nk:=J.pin (kS,seqObj "list" kA e) (dU _ (dU _ (.head _)));have na:=J.pin (a,seqObj "list" #[] e1) (dU _ (dU _ (.tail _ (.head _))));try dsimp only
  refine aA (listItems_at nk.1 rfl ?_);have hP:Ej ns kz (kA.zip its.toArray).toList:=by
   rw[ksk_zip];have l1:=Km.length;rw[aW] at l1;refine⟨by rw[ni,l1,hl,qz],fun i n hn=>?_⟩;have hi:i<ns.length:=(cJ.mp hn).1;obtain⟨u,hu,t',rfl⟩:=hv.get (i:=i) (x:=V.int ((n:Nat):Int)) (by rw[bV,hn];rfl);have Zk:i<kA.toList.length:=by rw[l1];exact hi
   obtain⟨m,t,em,en⟩:=Km.at i kA.toList[i] (bH Zk);rw[bV,hn] at en;cases en;refine⟨t,t',?_⟩;rw[uw];exact⟨by rw[bH Zk,em],hu⟩
  exact ID (J.l0 (pins':=ae) fun p hp=>J.pin p (dU _ (fY _ hp))) ⟨na.2.1,fa.2⟩ ⟨nk.2.1,fk.2⟩ Mr na.1 nk.1 Km hP hl Hu Mq Hx fun s2 out o1 o2 J2=>h H' s2 out sm na.2.1 o1 o2 J2
end
def Ms(X:Cx)(NB:List Str)(src:List (Option Nat))(qual:Str)(params:Arguments)(body:Expr)(scope:Scope)(te:TE):St->List V->List V->Hp->VK->Prop:=fun σ vs zs H Q=>
 ∃ (l f c:Addr) (ns:List Nat) (kz:Nat->Int),vs=[.ref l]/\zs=[.ref f]/\aZ X.K H l (ns.map fun (x:Nat)=>V.int (x:Int))/\ns.length<64/\ns.Pairwise (·<·)/\(∀n∈ns,n<64)/\H f=some (sJ f qual params body scope X.env.cells c)/\H c=some (mf c qual)/\
  (∀n∈ns,∀H',aK H H'->te ((yz src σ).set 0 (some (.int (n:Nat)))) H' fun v QL=>v=.int (kz n)/\aK H' QL)/\
  ∀ (r:Addr) (H':Hp) (out:List Nat),aK H H'->H' r=none->out.Perm ns->out.Pairwise (xQ kz)->Q (.ref r) (upd H' r (.lst (out.map fun (x:Nat)=>V.int (x:Int))))
theorem jo(hr:cj k X.A)(S:xP X NB src scope qual params body y)(hb:∀f c cD s H,PE (oU X NB scope cD qual f c s H) body te):
  Al X "sorted" ["key"] (Ms X NB src qual params body scope te):=by
 intro ae s σ H vs zs us ws Q I r rz h;obtain⟨l,f,c,ns,kz,rfl,rfl,hl,Hu,Mq,Hx,hf,hc,VQ,q⟩:=h;obtain⟨u1,rfl,r1⟩:=r.one;obtain rfl:u1=Value.ref l:=r1;obtain⟨w1,rfl,Vo⟩:=rz.one;obtain rfl:w1=Value.ref f:=Vo;obtain⟨its,rv,pl,hz⟩:=I.list hl;have hln:its.length=ns.length:=by have:=rv.length;rw[aW] at this;exact this.symm
 show wpAny (model X.prog X.w) X.A (call (.builtin "sorted") [.ref l] [(Str.ofString "key",.ref f)]) _ _ s;refine call_function_entry_kw kind_sorted plain_sorted entry_sorted (ksk_s1 _ _) ?_;unfold Builtin.«sorted»;refine aA (m:=checkCount "sorted" 1 1 _) (wpAny_pure ?_);refine aA (collect_list pl.isList ?_ (by rw[gc];lia));refine aA (u0 ?_ (by rw[gc];lia));have gJ:((s.heap.push (seqObj "list" #[] 0)).update s.heap.objs.size (Obj.mapSeq (·++its.toArray))).objs.size=s.heap.objs.size+1:=by
  rw[gx,iC]
 have CS:(((s.heap.push (seqObj "list" #[] 0)).update s.heap.objs.size (Obj.mapSeq (·++its.toArray))).push (seqObj "list" its.toArray 0)).get? (s.heap.objs.size+1)=some (seqObj "list" its.toArray 0):=by
  rw[<-gJ];exact cX _ rfl
 have keep:∀b o,s.heap.get? b=some o->(((s.heap.push (seqObj "list" #[] 0)).update s.heap.objs.size (Obj.mapSeq (·++its.toArray))).push (seqObj "list" its.toArray 0)).get? b=some o:=fun b o q=>by
  have dG:b<s.heap.objs.size:=aS q;rw[ir _ _ _ (by rw[gJ];exact aQ (eI dG)),m8 _ _ _ _ (aQ dG),ir _ _ _ (aQ dG)];exact q
 show wpAny _ _ _ _ _ { s with heap:=((s.heap.push (seqObj "list" #[] 0)).update s.heap.objs.size (Obj.mapSeq (·++its.toArray))).push (seqObj "list" its.toArray 0) };rw[gJ];have Df:(((s.heap.push (seqObj "list" #[] 0)).update s.heap.objs.size (Obj.mapSeq (·++its.toArray))).push (seqObj "list" its.toArray 0)).objs.size=s.heap.objs.size+2:=by rw[iC,gJ]
 generalize (((s.heap.push (seqObj "list" #[] 0)).update s.heap.objs.size (Obj.mapSeq (·++its.toArray))).push (seqObj "list" its.toArray 0))=h1 at *;refine aA (gy (wpAny_call_entry_kw slot_list_sort ⟨_,CS,rfl⟩ entry_list_sort ?body (ksk_l1 _ _)));case body=>
  have ht':=ksk_t1 f (s.heap.objs.size+1);show wpAny (model X.prog X.w) X.A.in1.in1 (Builtin.«list.sort» ⟨[.ref (s.heap.objs.size+1)],[(Str.ofString "key",.ref f)]⟩) _ _ _;rw[ht'];have s1:=m9 h1 (s.heap.objs.size+1) (Obj.mapSeq fun _=>(#[]:Array Value));obtain⟨e1,Mn⟩:∃e1,(h1.update (s.heap.objs.size+1) (Obj.mapSeq fun _=>(#[]:Array Value))).get? (s.heap.objs.size+1)=some (seqObj "list" #[] e1):=⟨_,ny CS fun _=>#[]⟩
  have hkS:((h1.update (s.heap.objs.size+1) (Obj.mapSeq fun _=>(#[]:Array Value))).push (seqObj "tuple" its.toArray 0)).objs.size=s.heap.objs.size+3:=by rw[iC,gx,Df]
  unfold ksk_tree;refine aA (listItems_at CS rfl ?_);refine aA (lz CS rfl ?_ (by rw[cu,gc];lia) (bT _));refine aA (qE Mn rfl ?_);refine aA (wpAny_newTuple ?_ (by show its.length<=_;rw[gc];lia));refine aA (u0 ?_ (bT _));refine gy ?_;have QN:∀b o,s.heap.get? b=some o->(((h1.update (s.heap.objs.size+1) (Obj.mapSeq fun _=>(#[]:Array Value))).push (seqObj "tuple" its.toArray 0)).push (seqObj "list" #[] 0)).get? b=some o:=fun b o e=>
   cB _ (cB _ ((s1.2 b (aQ (eI (aS e)))).trans (keep b o e)))
  have I2:aO X ae σ H { s with heap:=((h1.update (s.heap.objs.size+1) (Obj.mapSeq fun _=>(#[]:Array Value))).push (seqObj "tuple" its.toArray 0)).push (seqObj "list" #[] 0) }:=I.kept (t':=s.toks) QN;refine FR hr S (hb f c) I2 hf hc rv Hu Mq Hx (I.wK (by lia) (I.bZ.fresh (by lia))) (I.wK (b:=((h1.update (s.heap.objs.size+1) (Obj.mapSeq fun _=>(#[]:Array Value))).push (seqObj "tuple" its.toArray 0)).objs.size) (by lia) (I.bZ.fresh (by lia))) (by lia) (cB _ (cB _ Mn)) (cX _ rfl) VQ fun H' s' out sm na o1 o2 J=>⟨_,rfl,?_⟩
  exact wpAny_pure ⟨_,rfl,.ref (s.heap.objs.size+1),_,J,rfl,q _ H' out sm na o1 o2⟩
end L2
namespace pZ
open PySem L2
def top(i:Nat):Stmt:=PySem.Challenge.pw_neverwait_k31_orders.main.body.getD i (.Pass ⟨0,0,0,0⟩)
abbrev AF:Stmt:=top 7
abbrev vP:Stmt:=top 8
abbrev AG:Stmt:=top 9
abbrev Mt:Stmt:=top 11
structure Bl(mg:Str->Option Value):Prop where
 KG:mg "isinstance"=none
 int:mg "int"=none
 bool:mg "bool"=none
 tup:mg "tuple"=none
 lst:mg "list"=none
 str:mg "str"=none
 set:mg "set"=none
 len:mg "len"=none
 range:mg "range"=none
 sorted:mg "sorted"=none
 any:mg "any"=none
 max:mg "max"=none
 min:mg "min"=none
 aaf:mg "ValueError"=none
 all:mg "all"=none
def FS(K:PySem.W.Frag)(H:Hp)(x:V):Prop:=∃t,Ko K H x t/\(PySem.W.kitOne K t (.type "int")=some false\/(PySem.W.kitOne K t (.type "int")=some true/\PySem.W.kitOne K t (.type "bool")=some true))
theorem xS:PySem.W.kitOne K (.type "int") (.type "int")=some true:=by kernel_rfl
theorem mx:PySem.W.kitOne K (.type "int") (.type "bool")=some false:=by kernel_rfl
inductive Wh (K:PySem.W.Frag) (H:Hp):V->Option Int->Prop where
 |int (i:Int):Wh K H (.int i) (some i)
 |no {x:V} (h:FS K H x):Wh K H x none
def my(K:PySem.W.Frag):Sp:=fun vs H Q _=>∃x o,vs=[x]/\Wh K H x o/\Q (.bl o.isSome) H
section
variable {P:Program} {w:World} {K:PySem.W.Frag} {mg:Str->Option Value} {base:Heap}
theorem IE:aP ["thing"] ["thing"] (ao AF):=⟨rfl,rfl,rfl,by decide +kernel,rfl,by decide +kernel,by decide +kernel⟩
theorem FT(F:ii K "is_whole" "is_whole" AF f fd)(B:Bl mg):bD P w K mg base bb 1 f fd ["thing"] (my K):=by
 refine F.ok IE (fun vs H Q E h=>?_) (fun eL A outer s H vs Q E hr h=>?_)
 .obtain⟨x,o,rfl,_⟩:=h;rfl
 .obtain⟨x,o,rfl,W,k⟩:=h;refine⟨_,aq (a9 (jU (aE hW (by rfl) B.KG oo (aa (pv 0) (aa (jf (v:=.ty "int") rfl B.int yQ rfl) ag)))
   (nG (EB (aE hW (by rfl) B.KG oo (aa (pv 0) (aa (jf (v:=.ty "bool") rfl B.bool PyProof.Rows.boot_bool rfl) ag))))))),?_⟩
  cases W with
  |int i=>
   refine⟨_,rfl,_,_,_,.type "int",true,rfl,⟨rfl,xS⟩,.of (.int _),true,rfl,?_⟩;exact⟨_,rfl,_,_,_,.type "int",false,rfl,⟨rfl,mx⟩,.of (.int _),false,rfl,k⟩
  |no h=>
   obtain⟨t,ty,h|⟨h1,h2⟩⟩:=h
   .exact⟨_,rfl,_,_,_,t,false,rfl,⟨rfl,h⟩,ty,false,rfl,k⟩
   .refine⟨_,rfl,_,_,_,t,true,rfl,⟨rfl,h1⟩,ty,true,rfl,?_⟩;exact⟨_,rfl,_,_,_,t,true,rfl,⟨rfl,h2⟩,ty,true,rfl,k⟩
def iK(o:Option Int)(lo hi:Int):Bool:=match o with
 |some i=>decide (lo<=i)&&decide (i<=hi)
 |none=>false
def mz(K:PySem.W.Frag):Sp:=fun vs H Q _=>∃x o lo hi,vs=[x,.int lo,.int hi]/\Wh K H x o/\Q (.bl (iK o lo hi)) H
theorem FU:aP ["thing","least","most"] ["thing","least","most"] (ao vP):=⟨rfl,rfl,rfl,by decide +kernel,rfl,by decide +kernel,by decide +kernel⟩
theorem DL(F:ii K "is_whole_within" "is_whole_within" vP f fd)(W:dI P w K mg base bb 1 "is_whole" ["thing"] (my K)):bD P w K mg base bb 2 f fd ["thing","least","most"] (mz K):=by
 refine F.ok FU (fun vs H Q E h=>?_) (fun eL A outer s H vs Q E hr h=>?_)
 .obtain⟨x,o,lo,hi,rfl,_⟩:=h;rfl
 .obtain⟨x,o,lo,hi,rfl,wh,k⟩:=h;refine⟨_,aq (a9 (jU (aI W hr aH (aa (pv 0) ag)) (nG (EJ Ki Ki (pv 1) (pv 0) (pv 2))))),?_⟩;refine⟨_,rfl,x,o,rfl,wh,?_⟩;cases wh with
  |no h=>exact⟨false,rfl,k⟩
  |int i=>
   refine⟨true,rfl,_,rfl,_,rfl,_,_,rfl,rfl,_,rfl,?_⟩;show if decide (lo<=i)=true then _ else _
   have k':Q (.bl (decide (lo<=i)&&decide (i<=hi))) H:=k;by_cases h:lo<=i
   .rw[iu h] at k' |-;exact⟨_,rfl,_,_,rfl,rfl,k'⟩
   .rw[fc h] at k' |-;exact k'
def p6(K:PySem.W.Frag):Sp:=fun vs H Q _=>∃x o n,vs=[.int n,x]/\Wh K H x o/\Q (.bl (iK o 0 (n-1))) H
theorem IF:aP ["many","thing"] ["many","thing"] (ao AG):=⟨rfl,rfl,rfl,by decide +kernel,rfl,by decide +kernel,by decide +kernel⟩
theorem FV(F:ii K "is_house" "is_house" AG f fd)(W:dI P w K mg base bb 2 "is_whole_within" ["thing","least","most"] (mz K)):bD P w K mg base bb 3 f fd ["many","thing"] (p6 K):=by
 refine F.ok IF (fun vs H Q E h=>?_) (fun eL A outer s H vs Q E hr h=>?_)
 .obtain⟨x,o,n,rfl,_⟩:=h;rfl
 .obtain⟨x,o,n,rfl,wh,k⟩:=h;refine⟨_,aq (a9 (aI W hr aH (aa (pv 1) (aa ap (aa (aV jh (pv 0) ap) ag))))),?_⟩;exact⟨_,rfl,_,rfl,_,_,rfl,rfl,x,o,0,n-1,rfl,wh,k⟩
inductive Rw (K:PySem.W.Frag) (H:Hp):V->Option (List V)->Prop where
 |tup {p:Addr} {xs:List V} (h:H p=some (.tup xs)):Rw K H (.ref p) (some xs)
 |no {x:V} {t:Value} (ty:Ko K H x t) (h:PySem.W.kitOne K t (.type "tuple")=some false):Rw K H x none
def QO(o:Option (List V))(m:Int):Bool:=match o with
 |some xs=>decide ((xs.length:Int)=m)
 |none=>false
theorem Ce:PySem.W.kitOne K (.type "tuple") (.type "tuple")=some true:=by kernel_rfl
def FW(K:PySem.W.Frag):Sp:=fun vs H Q _=>∃x o m,vs=[x,.int m]/\Rw K H x o/\Q (.bl (QO o m)) H
theorem QP:aP ["thing","length"] ["thing","length"] (ao Mt):=⟨rfl,rfl,rfl,by decide +kernel,rfl,by decide +kernel,by decide +kernel⟩
theorem Mu(F:ii K "is_row" "is_row" Mt f fd)(B:Bl mg):bD P w K mg base bb 1 f fd ["thing","length"] (FW K):=by
 refine F.ok QP (fun vs H Q E h=>?_) (fun eL A outer s H vs Q E hr h=>?_)
 .obtain⟨x,o,m,rfl,_⟩:=h;rfl
 .obtain⟨x,o,m,rfl,W,k⟩:=h;refine⟨_,aq (a9 (jU (aE hW (by rfl) B.KG oo (aa (pv 0) (aa (jf (v:=.ty "tuple") rfl B.tup qb rfl) ag)))
   (nG (ku hU (aE aM (by rfl) B.len dN (aa (pv 0) ag)) (pv 1) (be _))))),?_⟩
  cases W with
  |@tup p xs h=>
   refine⟨_,rfl,_,_,_,.type "tuple",true,rfl,⟨rfl,Ce⟩,.of (.tup h),true,rfl,?_⟩;refine⟨_,rfl,_,_,rfl,.inr (c_.of h),_,rfl,rfl,?_⟩;have e:decide (V.int ((xs.length:Nat):Int)=V.int m)=decide (((xs.length:Nat):Int)=m):=by simp
   rw[e];exact k
  |no ty h=>exact⟨_,rfl,_,_,_,_,false,rfl,⟨rfl,h⟩,ty,false,rfl,k⟩
end
theorem bK(s:aK H H')(hD:H D=none):aK H (upd H' D o):=fun b u e=>by rw[am (ak e hD)];exact s b u e
abbrev IV(ns:List Int):List V:=ns.map V.int
abbrev NV(ns:List Nat):List V:=ns.map fun (x:Nat)=>V.int (x:Int)
theorem VS(Gy Gn:Hp->Prop)(hy:∀H,Gy H->t D σ H)(hn:∀H,Gn H->u D σ H)(ht:∀Y N:Hp->Prop,(∀H,Gy H->Y H)->(∀H,Gn H->N H)->c σ H fun b H1=>if b=true then Y H1 else N H1):O_ c t u D σ H:=ht _ _ hy hn
theorem uf(G:St->Hp->Prop)(hr:∀σ H,G σ H->u D σ H)(ht:∀N:St->Hp->Prop,(∀σ H,G σ H->N σ H)->t { D with nx:=N } σ H):O7 t u D σ H:=ht _ hr
abbrev Zs:=List (Addr×(Int×Int))
abbrev mR(u:Int×Int):HO:=.tup [.int u.1,.int u.2]
def zr(zs:Zs):List V:=zs.map fun z=>V.ref z.1
def zp(zs:Zs):List (Int×Int):=zs.map (·.2)
def PO(H:Hp)(zs:Zs):Prop:=∀z∈zs,H z.1=some (mR z.2)
theorem eA:zr (a++b)=zr a++zr b:=cY
theorem eC:zp (a++b)=zp a++zp b:=cY
theorem dz:(zr a).length=a.length:=aW _
theorem bu:(zp a).length=a.length:=aW _
theorem kG:zr a=(a.map (·.1)).map V.ref:=by unfold zr;rw[cQ];rfl
theorem rD{zs:Zs}{i:Nat}{x:V}(h:(zr zs)[i]?=some x):∃z,zs[i]?=some z/\x=.ref z.1:=by
 unfold zr at h;rw[bV] at h;cases e:zs[i]? with
 |none=>rw[e] at h;cases h
 |some z=>rw[e] at h;exact⟨z,rfl,(bN h).symm⟩
theorem PO.nil:PO H []:=fun z hz=>(nomatch hz)
theorem PO.same(h:PO H zs)(s:aK H H'):PO H' zs:=fun z hz=>s _ _ (h z hz)
theorem PO.putL(h:PO H zs)(e:H D=some (.lst xs)):PO (upd H D o) zs:=fun z hz=>by
 have:=h z hz;rw[am (by rintro rfl;rw[e] at this;cases this)];exact this
theorem PO.putN(h:PO H zs)(e:H D=none):PO (upd H D o) zs:=h.same (ai e)
theorem PO.append(h:PO H a)(h':PO H b):PO H (a++b):=fun z hz=>(bO.mp hz).elim (h z) (h' z)
theorem PO.one(h:H p=some (mR u)):PO H [(p,u)]:=fun z hz=>by rw[bL.mp hz];exact h
theorem xT{zs:Zs}{i:Nat}(h:i<zs.length):(zs.map (·.1)).getD i 0=zs[i].1:=by
 rw[b_,bV,bH h];rfl
theorem Cf(h:i<zs.length):(zp zs).getD i (0,0)=zs[i].2:=by
 unfold zp;rw[b_,bV,bH h];rfl
theorem DM(ho:PO H zs):∃g:Addr->Int×Int,(∀z∈zs,g z.1=z.2)/\∀ {as:List Addr},as.Perm (zs.map (·.1))->∃lT:Zs,lT.Perm zs/\as=lT.map (·.1):=by
 classical
 let f:Addr->Int×Int:=fun a=>match H a with
  |some (.tup [.int x,.int y])=>(x,y)
  |_=>(0,0)
 have e2:∀z∈zs,f z.1=z.2:=fun z hz=>by
  show (match H z.1 with|some (.tup [.int x,.int y])=>(x,y)|_=>(0,0))=z.2;rw[ho z hz]
 have e:(zs.map (·.1)).map (fun a=>(a,f a))=zs:=by
  rw[cQ];conv=>rhs;rw[<-lx zs]
  refine jt fun z hz=>?_;show (z.1,f z.1)=z;rw[e2 z hz]
 refine⟨f,e2,fun {as} h=>⟨as.map fun a=>(a,f a),?_,?_⟩⟩
 .have:=h.map (fun a=>(a,f a));rw[e] at this;exact this
 .rw[cQ];exact(lx as).symm
abbrev TV(us:List (Int×Int)):Prop:=us.Pairwise fun u v=>pk u<=pk v
theorem Cg(hl:H l=some (.lst (zr zs)))(ho:PO H zs)(hz:zs.length<=4096)(hb:∀u∈zp zs,0<=u.2/\u.2<64)(q:∀ (D:Addr) (lT:Zs),H D=none->lT.Perm zs->TV (zp lT)->Q (.ref D) (upd H D (.lst (zr lT)))):FE K [.ref l] H Q:=by
 obtain⟨g,hg,VT⟩:=DM ho;refine⟨l,zs.map (·.1),g,rfl,aZ.of (by rw[<-kG];exact hl),fun a ha=>?_,by rw[aW];exact hz,fun D wx hD hp so=>?_⟩
 .obtain⟨z,hz,rfl⟩:=bh.mp ha;rw[hg z hz];exact⟨c_.of (ho z hz),hb _ (bh.mpr ⟨z,hz,rfl⟩)⟩
 .obtain⟨lT,h1,rfl⟩:=VT hp;rw[<-kG];refine q D lT hD h1 ?_;unfold zp TV;rw[f9] at so |-;refine so.imp_of_mem fun {a b} ha hb h=>?_;rw[hg a (h1.mem_iff.mp ha),hg b (h1.mem_iff.mp hb)] at h;exact h
theorem xU(F:Nat->Int×Int)(bW:St->Prop)(hD:H0 D=none)(hn:n<=100000)(h0:bW σB)(hs:∀i σ H (R:V->St->Hp->Prop) (Kf:St->Hp->Prop),i<n->bW σ->aK H0 H->(∀σ2 p,bW σ2->H p=none->R (.ref p) σ2 (upd H p (mR (F i))))->g (.int (lo+i)) σ H fun σ2 H2=>tt σ2 H2 fun b H3=>if b=true then te σ2 H3 fun v H4=>R v σ2 H4 else Kf σ2 H3)(hd:∀zs H,aK H0 H->H D=some (.lst (zr zs))->PO H zs->zp zs=(List.range n).map F->(∀z∈zs,H0 z.1=none)->fin H):gC (Eb lo n) g tt te D fin σB (upd H0 D (.lst [])):=by
 refine eT (fun i ys σ H=>bW σ/\aK H0 H/\H D=some (.lst ys)/\∃zs:Zs,ys=zr zs/\PO H zs/\zp zs=(List.range i).map F/\∀z∈zs,H0 z.1=none) ⟨h0,ai hD,af,[],rfl,PO.nil,rfl,fun z hz=>nomatch hz⟩ ?_ ?_
 .rintro i ys σ H Kt Kf hi ⟨sh,sm,iX,zs,rfl,po,ep,fr⟩ kt kf;have hl:zs.length=i:=by rw[<-bu,ep,aW,cK]
  refine hs i σ H Kt Kf hi sh sm (fun σ2 p vQ hp=>?_)
  .have nD:D≠p:=ak iX hp;refine kt _ _ _ (by rw[am nD];exact iX) (by rw[dz,hl];exact bn hi (a8 hn (by decide))) ⟨vQ,bK (sm.trans (ai hp)) hD,af,zs++[(p,F i)],?_,?_,?_,?_⟩
   .rw[eA];rfl
   .refine PO.putL (xs:=zr zs) ?_ (by rw[am nD];exact iX);exact(po.putN hp).append (PO.one af)
   .rw[eC,ep,i_,cY];rfl
   .intro z hz;rcases bO.mp hz with z'|z'
    .exact fr z z'
    .rw[bL.mp z'];exact sm.free hp
 .rintro ys σ H ⟨_,sm,iX,zs,rfl,po,ep,fr⟩;exact hd zs H sm iX po ep fr
theorem rE{K:PySem.W.Frag}{a D:Addr}{AH:Zs}{g:TG}{tt:TT}{te:TE}{fin:Hp->Prop}{σB:St}{H0:Hp}(F:Int×Int->Int×Int)(bW:St->Prop)(ha:H0 a=some (.lst (zr AH)))(KH:PO H0 AH)(hD:H0 D=none)(hn:AH.length<=100000)(h0:bW σB)(hs:∀z σ H (R:V->St->Hp->Prop) (Kf:St->Hp->Prop),z∈AH->bW σ->aK H0 H->H z.1=some (mR z.2)->(∀σ2 p,bW σ2->H p=none->R (.ref p) σ2 (upd H p (mR (F z.2))))->g (.ref z.1) σ H fun σ2 H2=>tt σ2 H2 fun b H3=>if b=true then te σ2 H3 fun v H4=>R v σ2 H4 else Kf σ2 H3)(hd:∀zs H,aK H0 H->H D=some (.lst (zr zs))->PO H zs->zp zs=(zp AH).map F->(∀z∈zs,H0 z.1=none)->fin H):gC (EG K a) g tt te D fin σB (upd H0 D (.lst [])):=by
 refine eY (xs:=zr AH) (fun i ys σ H=>bW σ/\aK H0 H/\H D=some (.lst ys)/\∃zs:Zs,ys=zr zs/\PO H zs/\zp zs=((zp AH).take i).map F/\∀z∈zs,H0 z.1=none) ⟨h0,ai hD,af,[],rfl,PO.nil,rfl,fun z hz=>nomatch hz⟩ (fun i ys σ H _ z=>aZ.of (z.2.1 _ _ ha)) ?_ ?_
 .rintro i x ys σ H Kt Kf hx ⟨sh,sm,iX,zs,rfl,po,ep,fr⟩ kt kf;obtain⟨z,hz,rfl⟩:=rD hx;have hi:i<AH.length:=(cJ.mp hz).1;have KI:z∈AH:=dj hz;have hl:zs.length=i:=by rw[<-bu,ep,aW,jH,bu];lia
  refine hs z σ H Kt Kf KI sh sm (sm _ _ (KH z KI)) (fun σ2 p vQ hp=>?_)
  .have nD:D≠p:=ak iX hp;refine kt _ _ _ (by rw[am nD];exact iX) (by rw[dz,hl];exact bn hi (a8 hn (by decide))) ⟨vQ,bK (sm.trans (ai hp)) hD,af,zs++[(p,F z.2)],?_,?_,?_,?_⟩
   .rw[eA];rfl
   .refine PO.putL (xs:=zr zs) ?_ (by rw[am nD];exact iX);exact(po.putN hp).append (PO.one af)
   .have e2:(zp AH)[i]?=some z.2:=by unfold zp;rw[bV,hz];rfl
    rw[eC,ep,iP,e2,zd,cY];rfl
   .intro z hz;rcases bO.mp hz with z'|z'
    .exact fr z z'
    .rw[bL.mp z'];exact sm.free hp
 .rintro ys σ H ⟨_,sm,iX,zs,rfl,po,ep,fr⟩;rw[dz,<-bu,jG] at ep;exact hd zs H sm iX po ep fr
open jn
abbrev Ch:Stmt:=eO (top 26) 0
abbrev Mv:Stmt:=eO (top 26) 4
abbrev AI:Stmt:=eO (top 26) 8
theorem n12:¬ (("house_count":Str)="tie_list"):=by decide +kernel
theorem n13:¬ (("house_count":Str)="out_lists"):=by decide +kernel
theorem n14:¬ (("house_count":Str)="distances"):=by decide +kernel
def vR(n:Int)(tl ol ds:Addr):List (Str×V):=dH "distances" (.ref ds) (dH "out_lists" (.ref ol) (dH "tie_list" (.ref tl) (dH "house_count" (.int n) [])))
theorem IG(n:Int)(tl ol ds:Addr):(vR n tl ol ds).lookup ("house_count":Str)=some (.int n):=by
 unfold vR;rw[bJ,au n14,bJ,au n13,bJ,au n12,bJ,av rfl]
theorem Cj(n:Int)(tl ol ds:Addr){m:Str}(h1:¬ m="house_count")(h2:¬ m="tie_list")(h3:¬ m="out_lists")(h4:¬ m="distances"):(vR n tl ol ds).lookup m=none:=by
 unfold vR;rw[bJ,au h4,bJ,au h3,bJ,au h2,bJ,au h1];all_goals rfl
theorem IH(n:Int)(tl ol ds:Addr):(vR n tl ol ds).lookup ("distances":Str)=some (.ref ds):=by
 unfold vR;rw[bJ,av rfl]
def bX(H:Hp)(L:Addr->Prop)(l:Addr)(n:Nat)(r:Nat->List Nat):Prop:=∃bs:List Addr,H l=some (.lst (bs.map V.ref))/\(∀b∈bs,L b)/\Holds H bs n (fun h=>.lst (NV (r h)))
theorem bX.keep(R:bX H L l n r)(hl:L l)(k:∀b o,L b->H b=some o->H' b=some o):bX H' L l n r:=
 let ⟨bs,a,b,c⟩:=R
 ⟨bs,k _ _ hl a,b,c.mono fun j hj e=>k _ _ (b _ (by rw[b_,bH (by rw[c.1];exact hj)];exact eX _)) e⟩
theorem bX.row(R:bX H L l n r)(hh:h<n):∃ (bs:List Addr) (b:Addr),H l=some (.lst (bs.map V.ref))/\(bs.map V.ref)[h]?=some (V.ref b)/\H b=some (.lst (NV (r h)))/\L b:=by
 obtain⟨bs,a,b,c⟩:=R;have hl:h<bs.length:=by rw[c.1];exact hh
 refine⟨bs,bs[h],a,by rw[bV,bH hl];rfl,?_,b _ (eX _)⟩;have:=c.2 h hh;rw[b_,bH hl] at this;exact this
def II(H:Hp)(L:Addr->Prop)(tl:Addr)(ts:Ts):Prop:=L tl/\∃zs:Zs,H tl=some (.lst (zr zs))/\PO H zs/\(∀z∈zs,L z.1)/\(zp zs).Perm ts/\TV (zp zs)
theorem II.keep(h:II H L tl ts)(k:∀b o,L b->H b=some o->H' b=some o):II H' L tl ts:=
 let ⟨a,zs,b,c,d,e⟩:=h;⟨a,zs,k _ _ a b,fun z hz=>k _ _ (d z hz) (c z hz),d,e⟩
structure d9(C:Addr)(H:Hp)(L:Addr->Prop)(p:Addr)(n:Nat)(ts:Ts):Prop where
 mn:bS n ts
 ob:∃dx tl ol ds,H p=some (.ins C dx (vR n tl ol ds))/\L ol/\L ds/\bX H L ol n (dP n ts)/\bX H L ds n (fun h=>(List.range n).map (far ts h))/\II H L tl ts
theorem d9.keep(N:d9 C H L p n ts)(k:∀b o,L b->H b=some o->H' b=some o)(kp:∀o,H p=some o->H' p=some o):d9 C H' L p n ts:=
 let ⟨dx,tl,ol,ds,a,l1,l2,b,c,d⟩:=N.ob
 ⟨N.mn,dx,tl,ol,ds,kp _ a,l1,l2,b.keep l1 k,c.keep l2 k,d.keep k⟩
theorem d9.same(N:d9 C H L p n ts)(s:aK H H'):d9 C H' L p n ts:=N.keep (fun b o _ e=>s b o e) (fun o e=>s _ o e)
structure NT(K:PySem.W.Frag)(mg:Str->Option Value)(C:Addr):Prop where
 cl:Ec K C
 nH:hV K C "house_count"
 nT:hV K C "tie_list"
 nO:hV K C "out_lists"
 nD:hV K C "distances"
 IJ:mg "Net"=some (.ref C)
structure iL(P:Program)(w:World)(K:PySem.W.Frag)(mg:Str->Option Value)(base:Heap)(CX:yx)(k:Nat)(C:Addr)(x:Str)(ps:List Str)(sp:Sp):Prop where
 ex:∃f fd,LI K C x f/\jv K fd ps []/\bD P w K mg base CX k f fd ps sp
section
variable {P:Program} {w:World} {K:PySem.W.Frag} {mg:Str->Option Value} {base:Heap}
theorem IK:aP ["self","thing"] ["self","thing"] (ao AI):=⟨rfl,rfl,rfl,by decide +kernel,rfl,by decide +kernel,by decide +kernel⟩
theorem DN{i n:Nat}(h:i<n):iK (some (i:Int)) 0 ((n:Int)-1)=true:=by unfold iK;simp;lia
def rF(C:Addr):Sp:=fun vs H Q _=>∃ (L:Addr->Prop) (p:Addr) (n:Nat) (ts:Ts) (i:Nat),vs=[.ref p,.int i]/\d9 C H L p n ts/\i<n/\Q .cS H
theorem DO{f C:Addr}{fd:FuncData}(F:ii K "check_house" "Net.check_house" AI f fd)(T:NT K mg C)(HH:dI P w K mg base bb 3 "is_house" ["many","thing"] (p6 K)):
  bD P w K mg base bb 4 f fd ["self","thing"] (rF C):=by
 refine F.ok IK (fun vs H Q E h=>?_) (fun eL A outer s H vs Q E hr h=>?_)
 .obtain⟨L,p,n,ts,i,rfl,_⟩:=h;rfl
 .obtain⟨L,p,n,ts,i,rfl,N,hi,k⟩:=h;obtain⟨dx,tl,ol,ds,h1,_⟩:=N.ob;refine⟨_,aq (df (iF (g_ (aI HH hr aH (aa (nL (pv 0) rfl) (aa (pv 1) ag))))) dQ bq),?_⟩;refine⟨_,rfl,p,C,dx,_,_,rfl,h1,T.cl,T.nH,IG _ _ _ _,_,rfl,_,some (i:Int),n,rfl,.int _,_,rfl,?_⟩;rw[DN hi];exact iI k
theorem QR(n:Int)(tl ol ds:Addr):(vR n tl ol ds).lookup ("check_house":Str)=none:=Cj n tl ol ds (by decide +kernel) (by decide +kernel) (by decide +kernel) (by decide +kernel)
theorem QS(n:Int)(tl ol ds:Addr):(vR n tl ol ds).lookup ("far":Str)=none:=Cj n tl ol ds (by decide +kernel) (by decide +kernel) (by decide +kernel) (by decide +kernel)
theorem bj:(NV xs).length=xs.length:=aW _
theorem QT:aP ["self","one","other"] ["self","one","other"] (ao Mv):=⟨rfl,rfl,rfl,by decide +kernel,rfl,by decide +kernel,by decide +kernel⟩
def oe(C:Addr):Sp:=fun vs H Q _=>∃ (L:Addr->Prop) (p:Addr) (n:Nat) (ts:Ts) (i j:Nat),vs=[.ref p,.int i,.int j]/\d9 C H L p n ts/\i<n/\j<n/\Q (.int (far ts i j:Nat)) H
theorem IM(F:ii K "far" "Net.far" Mv f fd)(T:NT K mg C)(M:iL P w K mg base bb 4 C "check_house" ["self","thing"] (rF C)):
  bD P w K mg base bb 5 f fd ["self","one","other"] (oe C):=by
 obtain⟨fM,fdM,mM,bM,GM⟩:=M.ex;refine F.ok QT (fun vs H Q E h=>?_) (fun eL A outer s H vs Q E hr h=>?_)
 .obtain⟨L,p,n,ts,i,j,rfl,_⟩:=h;rfl
 .obtain⟨L,p,n,ts,i,j,rfl,N,hi,hj,k⟩:=h;obtain⟨dx,tl,ol,ds,h1,_,_,_,R,_⟩:=N.ob;refine⟨_,aj (b8 (bQ (pv 0) T.cl mM GM hr bM .nil aH (aa (pv 1) ag)))
   (aj (b8 (bQ (pv 0) T.cl mM GM hr bM .nil aH (aa (pv 2) ag)))
   (aq (a9 (ba aR (ba aR (nL (pv 0) rfl) (pv 1) (fun _ _=>rfl)) (pv 2) (fun _ _=>rfl))))),?_⟩
  refine⟨_,rfl,p,dx,_,rfl,h1,QR _ _ _ _,_,rfl,L,p,n,ts,i,rfl,N,hi,?_⟩;refine⟨_,rfl,p,dx,_,rfl,h1,QR _ _ _ _,_,rfl,L,p,n,ts,j,rfl,N,hj,?_⟩;obtain⟨bs,b,r1,r2,r3,_⟩:=R.row hi;have hg:(NV ((List.range n).map (far ts i)))[j]?=some (.int (far ts i j:Nat)):=by
   rw[bV,bV,gu hj];rfl
  exact⟨_,rfl,p,C,dx,_,_,rfl,h1,T.cl,T.nD,IH _ _ _ _,_,rfl,ds,_,_,_,rfl,rfl,aZ.of r1,aB r2,_,rfl,b,_,_,_,rfl,rfl,aZ.of r3,aB hg,k⟩
end
open PySem L2 jn
abbrev AJ:Stmt:=top 27
abbrev Mw:Stmt:=top 28
abbrev My:Stmt:=top 29
section
variable {P:Program} {w:World} {K:PySem.W.Frag} {mg:Str->Option Value} {base:Heap}
abbrev Mz:Stmt:=top 10
theorem QU:aP ["many","one","other"] ["many","one","other"] (ao Mz):=⟨rfl,rfl,rfl,by decide +kernel,rfl,by decide +kernel,by decide +kernel⟩
def FX:Sp:=fun vs H Q _=>∃ (n a b:Int),vs=[.int n,.int a,.int b]/\0<=a/\a<n/\0<=b/\b<n/\a≠b/\Q (.bl true) H
theorem MA(F:ii K "are_unlike_houses" "are_unlike_houses" Mz f fd)(HH:dI P w K mg base bb 3 "is_house" ["many","thing"] (p6 K)):
  bD P w K mg base bb 4 f fd ["many","one","other"] FX:=by
 refine F.ok QU (fun vs H Q E h=>?_) (fun eL A outer s H vs Q E hr h=>?_)
 .obtain⟨n,a,b,rfl,_⟩:=h;rfl
 .obtain⟨n,a,b,rfl,a1,a2,b1,b2,lF,k⟩:=h;refine⟨_,aq (a9 (jU (aI HH hr aH (aa (pv 0) (aa (pv 1) ag))) (jU (aI HH hr aH (aa (pv 0) (aa (pv 2) ag))) (nG (ku tH (pv 1) (pv 2) (be _)))))),?_⟩;refine⟨_,rfl,_,rfl,_,_,n,rfl,.int a,_,rfl,?_⟩;rw[av (show iK (some a) 0 (n-1)=true by unfold iK;simp;lia)];refine⟨_,rfl,_,rfl,_,_,n,rfl,.int b,_,rfl,?_⟩;rw[av (show iK (some b) 0 (n-1)=true by unfold iK;simp;lia)];refine⟨_,rfl,_,rfl,rfl,?_⟩;have e:(!decide (V.int a=V.int b))=true:=by simp[lF]
  rw[e];exact k
theorem QV:aP ["many","thing"] ["many","thing"] (ao Mw):=⟨rfl,rfl,rfl,by decide +kernel,rfl,by decide +kernel,by decide +kernel⟩
def FY:Sp:=fun vs H Q _=>∃ (n:Int) (p:Addr) (a b:Int),vs=[.int n,.ref p]/\H p=some (.tup [.int a,.int b])/\0<=a/\a<n/\0<=b/\b<n/\a≠b/\Q (.bl true) H
theorem MB(F:ii K "is_tie" "is_tie" Mw f fd)(R:dI P w K mg base bb 1 "is_row" ["thing","length"] (FW K))(U:dI P w K mg base bb 4 "are_unlike_houses" ["many","one","other"] FX):
  bD P w K mg base bb 5 f fd ["many","thing"] FY:=by
 refine F.ok QV (fun vs H Q E h=>?_) (fun eL A outer s H vs Q E hr h=>?_)
 .obtain⟨n,p,a,b,rfl,_⟩:=h;rfl
 .obtain⟨n,p,a,b,rfl,hp,a1,a2,b1,b2,lF,k⟩:=h;refine⟨_,aq (a9 (jU (aI R (hr.mono (by decide)) aH (aa (pv 1) (aa ap ag)))
   (nG (aI U hr aH (aa (pv 0) (aa (ba iG (pv 1) ap (fun _ _=>rfl)) (aa (ba iG (pv 1) ap (fun _ _=>rfl)) ag))))))),?_⟩
  refine⟨_,rfl,_,_,_,rfl,.tup hp,true,rfl,?_⟩;exact⟨_,rfl,_,rfl,p,_,_,_,rfl,rfl,c_.of hp,aB (j:=0) rfl,_,rfl,p,_,_,_,rfl,rfl,c_.of hp,aB (j:=1) rfl,n,a,b,rfl,a1,a2,b1,b2,lF,k⟩
theorem Ck:aP ["many","ties","tie"] ["many","ties"] (ao AJ):=⟨rfl,rfl,rfl,by decide +kernel,rfl,by decide +kernel,by decide +kernel⟩
theorem xV:PySem.W.kitOne K (.type "list") (.type "list")=some true:=by kernel_rfl
structure gn(H:Hp)(l:Addr)(n:Nat)(zs:Zs):Prop where
 mn:bS n (zp zs)
 at_:H l=some (.lst (zr zs))
 po:PO H zs
theorem gn.same(h:gn H l n zs)(s:aK H H'):gn H' l n zs:=⟨h.mn,s _ _ h.at_,h.po.same s⟩
def kH:Sp:=fun vs H Q _=>∃ (n:Nat) (l:Addr) (zs:Zs),vs=[.int n,.ref l]/\gn H l n zs/\∀H',aK H H'->Q .cS H'
theorem FZ(F:ii K "check_ties" "check_ties" AJ f fd)(B:Bl mg)(gF:∃t,mg "FEWEST_HOUSES"=some (.int 2 t))(gM:∃t,mg "MOST_HOUSES"=some (.int 32 t))(W:dI P w K mg base bb 2 "is_whole_within" ["thing","least","most"] (mz K))(T:dI P w K mg base bb 5 "is_tie" ["many","thing"] FY):
  bD P w K mg base bb 6 f fd ["many","ties"] kH:=by
 obtain⟨tF,gF⟩:=gF;obtain⟨tM,gM⟩:=gM;refine F.ok Ck (fun vs H Q E h=>?_) (fun eL A outer s H vs Q E hr h=>?_)
 .obtain⟨n,l,zs,rfl,_⟩:=h;rfl
 .refine⟨_,aj (df (iF (g_ (aI W (hr.mono (by decide)) aH (aa (pv 0) (aa (pL (v:=.int 2) rfl gF ⟨_,rfl⟩) (aa (pL (v:=.int 32) rfl gM ⟨_,rfl⟩) ag)))))) dQ bq)
   (aj (df (iF (g_ (aE hW (by rfl) B.KG oo (aa (pv 1) (aa (jf (v:=.ty "list") rfl B.lst mS rfl) ag))))) dQ bq)
   (aj (dC eF rfl (cw (pv 1)) (az (i:=2) Ck.nd rfl (Or.inl rfl)) (aq (df (iF (g_ (aI T hr aH (aa (pv 0) (aa (pv 2) ag))))) dQ bq)))
   (aq (df (aX tH (aE xj (by rfl) B.len dN (aa (cP (Dn rfl (by have:=hr.un;show (A.deeper _).units+8<_;lia)) (by rfl) B.set PyProof.Rows.boot_set (aa (pv 1) ag)) ag)) (aE aM (by rfl) B.len dN (aa (pv 1) ag)) (be _)) dQ bq)))),?_⟩
  obtain⟨n,l,zs,rfl,tt,k⟩:=h;obtain⟨fi,hl,po⟩:=id tt;have n1:=fi.n1;have n2:=fi.n2;refine⟨_,rfl,_,_,2,32,rfl,.int n,_,rfl,?_⟩;rw[show iK (some (n:Int)) 2 32=true by unfold iK;simp;lia];refine iI ?_;refine⟨_,rfl,_,_,_,.type "list",true,rfl,⟨rfl,xV⟩,.of (.lst hl),_,rfl,iI ?_⟩;refine⟨_,rfl,l,rfl,⟨_,aZ.of hl⟩,iT (K:=K) (a:=l) (xs:=zr zs) (fun i σ H2=>H2=H/\∃v,σ=[some (.int n),some (.ref l),v]) ⟨rfl,none,rfl⟩ (fun i σ H2 _ ⟨e,_⟩=>by rw[e];exact aZ.of hl) ?_ ?_⟩
  .rintro i x σ H2 hx ⟨rfl,v,rfl⟩;obtain⟨z,hz,rfl⟩:=rD hx;have KI:z∈zs:=dj hz;have Zl:z.2∈zp zs:=bh.mpr ⟨z,KI,rfl⟩;have r:=fi.rg _ Zl;exact⟨_,rfl,_,rfl,n,_,_,_,rfl,po z KI,r.1.1,r.1.2,r.2.1,r.2.2,fi.ne _ Zl,_,rfl,iI ⟨rfl,_,rfl⟩⟩
  .rintro σ H2 ⟨rfl,v,rfl⟩;have fm:(zp zs).length<=256:=fi.len;refine⟨_,rfl,l,zs.map (·.1),zp zs,rfl,aZ.of (by rw[<-kG];exact hl),by rw[aW,bu],fun i hi=>?_,fi.nd,fun y hy=>?_,by lia,fun D hD=>?_⟩
   .rw[bu] at hi;rw[xT hi,Cf hi];exact c_.of (po _ (eX hi))
   .have r:=fi.rg _ hy;lia
   .have nl:l≠D:=ak hl hD;refine⟨D,_,rfl,af,by lia,_,rfl,l,zr zs,rfl,.inl (aZ.of (by rw[am nl];exact hl)),rfl,_,rfl,?_⟩;have ez:(!decide (V.int (((zp zs).length:Nat):Int)=V.int (((zr zs).length:Nat):Int)))=false:=by rw[bu,dz];simp
    rw[ez];exact iI (k _ (ai hD))
end
abbrev xW:Stmt:=top 30
section
variable {P:Program} {w:World} {K:PySem.W.Frag} {mg:Str->Option Value} {base:Heap}
theorem og(S:St->Prop)(p q:Int×Int->Int)(h:Int)(hD:H D=none)(hl:H l=some (.lst (zr zs)))(po:PO H zs)(hn:zs.length<=1000)(s0:S σB)(hg:∀z σ H2 (Kt:V->St->Hp->Prop) (Kf:St->Hp->Prop),z∈zs->S σ->H2 z.1=some (mR z.2)->(∀σ2,S σ2->p z.2=h->Kt (.int (q z.2)) σ2 H2)->(∀σ2,S σ2->p z.2≠h->Kf σ2 H2)->
   g (.ref z.1) σ H2 fun σ2 H2=>tt σ2 H2 fun b H3=>if b=true then te σ2 H3 fun v H4=>Kt v σ2 H4 else Kf σ2 H3)(hd:fin (upd H D (.lst (IV (((zp zs).filter fun y=>decide (p y=h)).map q))))):gC (EG K l) g tt te D fin σB (upd H D (.lst [])):=by
 have nl:l≠D:=ak hl hD;have tk:∀ {i:Nat} {z:Addr×(Int×Int)},zs[i]?=some z->(zp zs).take (i+1)=(zp zs).take i++[z.2]:=fun {i z} hz=>by
  rw[iP,show (zp zs)[i]?=some z.2 by unfold zp;rw[bV,hz];rfl];rfl
 refine eY (xs:=zr zs) (fun i ys σ H2=>S σ/\ys=IV ((((zp zs).take i).filter fun y=>decide (p y=h)).map q)/\H2=upd H D (.lst ys)) ⟨s0,by simp,rfl⟩ (fun i ys σ H2 _ ⟨_,_,e⟩=>by rw[e];exact aZ.of (by rw[am nl];exact hl)) ?_ ?_
 .rintro i x ys σ H2 Kt Kf hx ⟨hS,ey,rfl⟩ kt kf;obtain⟨z,hz,rfl⟩:=rD hx;have KI:z∈zs:=dj hz;have hp:=po z KI;have na:z.1≠D:=ak hp hD;have hi:i<zs.length:=(cJ.mp hz).1;refine hg z σ _ Kt Kf KI hS (by rw[am na];exact hp) (fun σ2 s2 e=>?_) (fun σ2 s2 e=>?_)
  .refine kt _ _ _ af ?_ ⟨s2,?_,?_⟩
   .rw[ey,aW,aW];exact eU (ot _ _) (eU (List.length_take_le _ _) (bn (show i<1000 by lia) (by decide)))
   .rw[ey,tk hz,iO,cY];have:decide (p z.2=h)=true:=by simp[e]
    simp[eE,this]
   .rw[kr]
  .refine kf _ _ ⟨s2,?_,rfl⟩;have:decide (p z.2=h)=false:=by simp[e]
   rw[ey,tk hz,iO];simp[eE,this]
 .rintro ys σ H2 ⟨_,ey,rfl⟩;rw[dz,<-bu,jG] at ey;rw[ey];exact hd
theorem Oz:(["one","other","house"]:List Str).Nodup:=by decide +kernel
theorem Cm:aP ["many","ties","house","leading_out","leading_in"] ["many","ties"] (ao My):=⟨rfl,rfl,rfl,by decide +kernel,rfl,by decide +kernel,by decide +kernel⟩
theorem ME(F:ii K "check_balance" "check_balance" My f fd)(B:Bl mg)(gM:∃t,mg "MOST_TIES_OUT"=some (.int 8 t)):
  bD P w K mg base bb 1 f fd ["many","ties"] kH:=by
 obtain⟨tM,gM⟩:=gM;refine F.ok Cm (fun vs H Q E h=>?_) (fun eL A outer s H vs Q E hr h=>?_)
 .obtain⟨n,l,zs,rfl,_⟩:=h;rfl
 .obtain⟨n,l,zs,rfl,T,k⟩:=h;have fi:=T.mn;have n1:=fi.n1;have n2:=fi.n2;have fm:zs.length<=256:=by have:=fi.len;rw[bu] at this;exact this
  refine'⟨_,aq (dC eF rfl (bv rfl B.range (aa (pv 0) ag)) (az (i:=2) Cm.nd rfl (Or.inr rfl))
   (aj (aU (i:=3) Cm.nd rfl (Or.inl rfl) (aE aM (by rfl) B.len dN (aa ?c1 ag)))
   (aj (aU (i:=4) Cm.nd rfl (Or.inl rfl) (aE aM (by rfl) B.len dN (aa ?c2 ag)))
   (aj (df (aX tH (pv 3) (pv 4) (be _)) dQ bq)
   (aq (df (aX Kj (pv 3) (pL (v:=.int 8) rfl gM ⟨_,rfl⟩) (be _)) dQ bq)))))),?_⟩
  case c1=>
   refine' cI (g:=sn K 2 (fj (bA 0) (fj (bA 1) sj))) (NB:=["one","other","house"]) (src:=[none,none,some 2]) (br (by kernel_rfl)) rfl (cw (pv 1)) ?g ?t ?e;case g=>exact fun cl C s₃ H₃ fp=>dv (n:=2) rfl (aG (az (i:=0) Oz rfl (Or.inl rfl) (Or.inr rfl)) (aG (az (i:=1) Oz rfl (Or.inl rfl) (Or.inr rfl)) b9))
   case t=>exact fun cl C s₃ H₃ fp=>jj (aX hU (pv 0) (pv 2) (be _))
   case e=>exact fun cl C s₃ H₃ fp=>pv 0
  case c2=>
   refine' cI (g:=sn K 2 (fj (bA 0) (fj (bA 1) sj))) (NB:=["one","other","house"]) (src:=[none,none,some 2]) (br (by kernel_rfl)) rfl (cw (pv 1)) ?g ?t ?e;case g=>exact fun cl C s₃ H₃ fp=>dv (n:=2) rfl (aG (az (i:=0) Oz rfl (Or.inl rfl) (Or.inr rfl)) (aG (az (i:=1) Oz rfl (Or.inl rfl) (Or.inr rfl)) b9))
   case t=>exact fun cl C s₃ H₃ fp=>jj (aX hU (pv 1) (pv 2) (be _))
   case e=>exact fun cl C s₃ H₃ fp=>pv 1
  refine⟨_,rfl,n,rfl,by lia,by lia,dh (n:=n) (lo:=0) (fun i σ H2=>aK H H2/\∃a b c,σ=[some (.int n),some (.ref l),a,b,c]) ⟨aK.refl _,none,none,none,rfl⟩ ?_ ?_⟩
  .rintro i σ H2 hi ⟨sm,a,b,c,rfl⟩;have T2:=T.same sm;refine⟨_,rfl,l,rfl,⟨_,aZ.of T2.at_⟩,fun D hD=>og (fun σ=>∃a b,σ=[a,b,some (.int (0+(i:Int)))]) (·.1) (·.1) (0+(i:Int)) hD T2.at_ T2.po (by lia) ⟨_,_,rfl⟩ ?_ ?_⟩
   .rintro z σ H3 Kt Kf hj ⟨x,y,rfl⟩ ha kt kf;refine⟨z.1,_,rfl,c_.of ha,rfl,_,_,rfl,_,_,rfl,rfl,?_⟩;refine⟨_,rfl,_,rfl,rfl,_,rfl,?_⟩;refine gm (fun e=>?_) (fun e=>?_)
    .exact⟨_,rfl,kt _ ⟨_,_,rfl⟩ (by simpa using e)⟩
    .exact kf _ ⟨_,_,rfl⟩ (by simpa using e)
   .refine⟨D,_,rfl,.inl (aZ.of af),?_⟩;have KE:=bK (o:=.lst (IV (((zp zs).filter fun y=>decide (y.1=0+(i:Int))).map (·.1)))) (sm.trans (aK.refl _)) (H:=H) (by cases z:H D with|none=>rfl|some o=>rw[sm _ _ z] at hD;cases hD);have T3:=T.same KE;refine⟨_,rfl,l,rfl,⟨_,aZ.of T3.at_⟩,fun D' Zm=>og (fun σ=>∃a b,σ=[a,b,some (.int (0+(i:Int)))]) (·.2) (·.2) (0+(i:Int)) Zm T3.at_ T3.po (by lia) ⟨_,_,rfl⟩ ?_ ?_⟩
    .rintro z σ H3 Kt Kf hj ⟨x,y,rfl⟩ ha kt kf;refine⟨z.1,_,rfl,c_.of ha,rfl,_,_,rfl,_,_,rfl,rfl,?_⟩;refine⟨_,rfl,_,rfl,rfl,_,rfl,?_⟩;refine gm (fun e=>?_) (fun e=>?_)
     .exact⟨_,rfl,kt _ ⟨_,_,rfl⟩ (by simpa using e)⟩
     .exact kf _ ⟨_,_,rfl⟩ (by simpa using e)
    .refine⟨D',_,rfl,.inl (aZ.of af),?_⟩;rw[g7] at *;have q1:(IV (((zp zs).filter fun y=>decide (y.1=(i:Int))).map (·.1))).length=(IV (((zp zs).filter fun y=>decide (y.2=(i:Int))).map (·.2))).length:=by
      rw[aW,aW,aW,aW];exact fi.DC i
     have q2:(IV (((zp zs).filter fun y=>decide (y.1=(i:Int))).map (·.1))).length<=8:=by
      rw[aW,aW];exact fi.most i
     refine⟨_,rfl,_,rfl,rfl,_,rfl,?_⟩;rw[<-q1];rw[show (!decide (V.int (((IV (((zp zs).filter fun y=>decide (y.1=(i:Int))).map (·.1))).length:Nat):Int)=V.int (((IV (((zp zs).filter fun y=>decide (y.1=(i:Int))).map (·.1))).length:Nat):Int)))=false by simp];refine iI ?_;refine⟨_,rfl,_,_,rfl,rfl,_,rfl,?_⟩;rw[show decide ((((IV (((zp zs).filter fun y=>decide (y.1=(i:Int))).map (·.1))).length:Nat):Int) > 8)=false by rw[yL];lia];exact iI ⟨KE.trans (ai Zm),_,_,_,rfl⟩
  .rintro σ H2 ⟨sm,a,b,c,rfl⟩;exact k H2 sm
end
def IN:Expr:=match (bR xW).getD 1 (.Pass ⟨0,0,0,0⟩) with
 |.Return (some (.Call _ _ (k::_) _)) _=>k.value
 |_=>.Name "x" ⟨0,0,0,0⟩
def IP:Arguments:=match IN with
 |.Lambda a _ _ _=>a
 |_=>{ posonlyargs:=[],args:=[],vararg:=none,kwonlyargs:=[],kw_defaults:=[],kwarg:=none,defaults:=[] }
def IQ:Expr:=match IN with
 |.Lambda _ b _ _=>b
 |e=>e
def QW:Scope:=match IN with
 |.Lambda _ _ s _=>s
 |_=>{ kind:=.function,names:=[],isGenerator:=false,isCoroutine:=false }
def MG:Pos:=match IN with
 |.Lambda _ _ _ p=>p
 |_=>⟨0,0,0,0⟩
def KJ:Str:=("houses_out":Str)++".<locals>."++"<lambda>"
abbrev kM(Pt:Addr)(H:Hp):Prop:=cM MG KJ Pt H
def j4(Pt:Addr)(H H':Hp):Prop:=∀b o,H b=some o->b≠Pt->H' b=some o
theorem j4.of(a:aK H H'):j4 Pt H H':=fun c o h _=>a c o h
theorem kM.not(t:kM Pt H)(h:H b=some o)(n:∀ps,o≠.ik ps):b≠Pt:=by
 rintro rfl;rcases t with z|⟨c,z,_⟩ <;> · rw[h] at z;exact n _ (bN z)
theorem kM.same(t:kM Pt H)(e:aK H H'):kM Pt H':=by
 rcases t with z|⟨c,z,y⟩
 .exact .inl (e _ _ z)
 .exact .inr ⟨c,e _ _ z,e _ _ y⟩
theorem IR{n a b h:Int}(hn:0<n)(a0:0<=a)(a1:a<n)(b0:0<=b)(b1:b<n)(e:(a-h) % n=(b-h) % n):a=b:=by
 have h1:=Int.emod_emod_of_dvd (a-h) (Int.dvd_refl n);have q:(a-b) % n=0:=by
  have:a-b=(a-h)-(b-h):=by lia
  rw[this,Int.sub_emod,e,Int.sub_self,Int.zero_emod]
 obtain⟨c,hc⟩:=Int.dvd_of_emod_eq_zero q;have c0:c=0:=by
  rcases Int.lt_trichotomy c 0 with z|z|z
  .have:n*c<=n*(-1):=Eo (by lia) (by lia);lia
  .exact z
  .have:n*1<=n*c:=Eo (by lia) (by lia);lia
 rw[c0] at hc;lia
theorem sV{ts:Ts}{h:Int}(nd:ts.Nodup):((ts.filter fun y=>decide (y.1=h)).map (·.2)).Nodup:=by
 refine L2.nW (nd.filter _) fun x hx y hy e=>?_;have a:=(fE.mp hx).2;have b:=(fE.mp hy).2;simp at a b;exact g9 (a.trans b.symm) e
theorem DP{n:Nat}{ts:Ts}{h:Nat}(F:bS n ts)(hh:h<n){out:List Int}(ko:L_ (h:Int) (n:Int) ((ts.filter fun y=>decide (y.1=(h:Int))).map (·.2)) out):out.map V.int=NV (dP n ts h):=by
 obtain⟨ps,hp,rfl,hs⟩:=ko;have Dp:(ps.map (·.2)).Perm ((ts.filter fun y=>decide (y.1=(h:Int))).map (·.2)):=by
  have:=hp.map (·.2);rw[cQ] at this;refine this.trans (jJ ?_);conv=>rhs;rw[<-lx ((ts.filter fun y=>decide (y.1=(h:Int))).map (·.2))]
  rfl
 have mem:∀z,z∈ps.map (·.2)↔((h:Int),z)∈ts:=fun z=>by
  rw[Dp.mem_iff,bh];constructor
  .rintro⟨y,hy,rfl⟩;obtain⟨y1,y2⟩:=fE.mp hy;have:y.1=(h:Int):=by simpa using y2
   rw[<-this];exact y1
  .intro hz;exact⟨_,fE.mpr ⟨hz,by simp⟩,rfl⟩
 have nd:(ps.map (·.2)).Nodup:=Dp.nodup_iff.mpr (sV F.nd);have key:∀q∈ps,q.1=(q.2-(h:Int)) % (n:Int):=fun q hq=>by
  obtain⟨z,_,e⟩:=bh.mp (hp.mem_iff.mp hq);rw[<-e]
 have hn:(0:Int)<n:=by have:=F.n1;lia
 have sorted:(ps.map (·.2)).Pairwise fun x y=>(x-(h:Int)) % (n:Int)<(y-(h:Int)) % (n:Int):=by
  refine f9.mpr ?_;have VL:=f9.mp nd;refine(hs.and VL).imp_of_mem fun {x y} hx hy r6=>?_;have l1:=r6.1;rw[key x hx,key y hy] at l1;have ax:=F.rg _ ((mem x.2).mp (bh.mpr ⟨x,hx,rfl⟩));have ay:=F.rg _ ((mem y.2).mp (bh.mpr ⟨y,hy,rfl⟩));have ne:(x.2-(h:Int)) % (n:Int)≠(y.2-(h:Int)) % (n:Int):=fun z=>r6.2 (IR hn ax.2.1 ax.2.2 ay.2.1 ay.2.2 z);lia
 have e:ps.map (·.2)=(dP n ts h).map fun (o:Nat)=>(o:Int):=by
  refine oP (k:=fun z=>(z-(h:Int)) % (n:Int)) sorted ?_ fun z=>?_
  .refine f9.mpr ?_;exact xJ hh
  .rw[mem,bh];constructor
   .intro hz;have r:=F.rg _ hz;refine⟨z.toNat,(hX F hh).mpr ?_,by lia⟩;show (((h:Nat):Int),((z.toNat:Nat):Int))∈ts;rw[show ((z.toNat:Nat):Int)=z by lia];exact hz
   .rintro⟨o,ho,rfl⟩;exact(hX F hh).mp ho
 rw[e,cQ];rfl
section
variable {P:Program} {w:World} {K:PySem.W.Frag} {mg:Str->Option Value} {base:Heap}
theorem F3:aP ["many","ties","house","others"] ["many","ties","house"] (ao xW):=⟨rfl,rfl,rfl,by decide +kernel,rfl,by decide +kernel,by decide +kernel⟩
def vS(Pt:Addr):Sp:=fun vs H Q _=>∃ (n:Nat) (l:Addr) (h:Nat) (zs:Zs),vs=[.int n,.ref l,.int h]/\h<n/\gn H l n zs/\kM Pt H/\
 ∀ (r:Addr) (H':Hp),kM Pt H'->j4 Pt H H'->H r=none->H' r=some (.lst (NV (dP n (zp zs) h)))->Q (.ref r) H'
theorem IS(F:pe K "houses_out" "houses_out" xW f fd c)(B:Bl mg)(kb:K.In base)(hb:nX mg base)(hc:PySem.W.codeHdIn K c Pt=true):
  bD P w K mg base bb 1 f fd ["many","ties","house"] (vS Pt):=by
 refine F.ok F3 (fun vs H Q E h=>?_) (fun A outer s H vs Q E hr h=>?_)
 .obtain⟨n,l,h,zs,rfl,_⟩:=h;rfl
 .obtain⟨n,l,h,zs,rfl,hh,T,tb,k⟩:=h;have fi:=T.mn;have n1:=fi.n1;have fm:zs.length<=256:=by have:=fi.len;rw[bu] at this;exact this
  have LS:Qd (jX bb P w K mg base ["many","ties","house","others"] "houses_out" (ao xW) f (.ref c) A outer s H E).yw KJ IP IQ QW "other" "house" "many" 2 0:=
   ⟨⟨_,_,_,_,_,rfl⟩,fun _ _ _ _ _=>rfl,rfl,rfl,rfl,rfl,rfl,rfl,rfl,by decide +kernel,by decide +kernel,by decide +kernel,rfl,rfl,rfl,by decide,⟨by decide,by decide⟩,⟨by decide,by decide⟩⟩
  refine'⟨_,aj (fO (i:=3) (g:=sn K 2 (fj (bA 0) (fj (bA 1) sj))) (NB:=["one","other","house"]) (src:=[none,none,some 2]) (br (by kernel_rfl)) rfl (cw (pv 1)) ?g ?t ?e F3.nd rfl rfl rfl)
   (aq (a9 (iU (Am LS hr) rfl B.sorted p9 (aa (pv 3) ag) (l7 (qX (NB:=["other","house","many"]) (src:=[none,some 2,some 0]) (mh kb hb hc) (br (by kernel_rfl))) qN)))),?_⟩
  case g=>exact fun cl C s₃ H₃ fp=>dv (n:=2) rfl (aG (az (i:=0) Oz rfl (Or.inl rfl) (Or.inr rfl)) (aG (az (i:=1) Oz rfl (Or.inl rfl) (Or.inr rfl)) b9))
  case t=>exact fun cl C s₃ H₃ fp=>jj (aX hU (pv 0) (pv 2) (be _))
  case e=>exact fun cl C s₃ H₃ fp=>pv 1
  refine⟨_,rfl,l,rfl,⟨_,aZ.of T.at_⟩,fun D hD=>og (fun σ=>∃a b,σ=[a,b,some (.int (h:Int))]) (·.1) (·.2) (h:Int) hD T.at_ T.po (by lia) ⟨_,_,rfl⟩ ?_ ?_⟩
  .rintro z σ H3 Kt Kf hj ⟨x,y,rfl⟩ ha kt kf;refine⟨z.1,_,rfl,c_.of ha,rfl,_,_,rfl,_,_,rfl,rfl,?_⟩;refine⟨_,rfl,_,rfl,rfl,_,rfl,?_⟩;refine gm (fun e=>?_) (fun e=>?_)
   .exact⟨_,rfl,kt _ ⟨_,_,rfl⟩ (by simpa using e)⟩
   .exact kf _ ⟨_,_,rfl⟩ (by simpa using e)
  .generalize Zn:((zp zs).filter fun y=>decide (y.1=(h:Int))).map (·.2)=os;have Eh:os.length<=8:=by rw[<-Zn,aW];exact fi.most h
   have sm:aK H (upd H D (.lst (IV os))):=ai hD;refine⟨_,rfl,tb.same sm,fun f' c' H2 t2' eZ wF xb=>?_⟩;have t2:kM Pt H2:=t2';have jw:H2 D=some (.lst (IV os)):=eZ _ _ af ((tb.same sm).not af (by intro ps z;cases z));refine⟨D,f',c',os,h,n,rfl,rfl,aZ.of jw,(by lia),xb,wF,rfl,rfl,by lia,fun r out w_ ko=>?_⟩;rw[<-Zn] at ko;rw[DP fi hh ko];have KE:aK H2 (upd H2 r (.lst (NV (dP n (zp zs) h)))):=ai w_;refine k r _ (t2.same KE) (fun b o e hb=>KE _ _ (eZ b o (sm _ _ e) hb)) ?_ af;cases z:H r with
   |none=>rfl
   |some o=>
    by_cases hP:r=Pt
    .rcases t2 with q|⟨_,q,_⟩ <;> · rw[<-hP,w_] at q;cases q
    .rw[eZ r o (sm _ _ z) hP] at w_;cases w_
end
abbrev F5:Stmt:=top 31
abbrev AK:Stmt:=top 32
def gg(n:Nat)(R:List Nat)(f:Nat->Nat):List V:=(List.range n).map fun x=>if x∈R then V.int ((f x:Nat):Int) else .cS
theorem iY:(gg n R f).length=n:=by unfold gg;rw[aW,cK]
theorem h_(h:x<n):(gg n R f)[x]?=some (if x∈R then V.int ((f x:Nat):Int) else .cS):=by
 unfold gg;rw[bV,gu h];rfl
theorem rG(hs:s<n):(List.replicate n V.cS).set s (V.int 0)=gg n [s] (fun _=>0):=by
 apply lX;intro x;by_cases hx:x<n
 .rw[h_ hx];by_cases e:x=s
  .subst e;rw[mV (by rw[oq];exact hx),av (by simp)];rfl
  .rw[mX (fun z=>e z.symm),uz,av hx,au (by simp[e])]
 .rw[fX (by rw[kQ,oq];lia),fX (by rw[iY];lia)]
theorem xX(hv:v<n):(gg n R f).set v (V.int ((k:Nat):Int))=gg n (R++[v]) (put f v k):=by
 apply lX;intro x;by_cases hx:x<n
 .rw[h_ hx];by_cases e:x=v
  .subst e;rw[mV (by rw[iY];exact hx),av (by simp),iV]
  .rw[mX (fun z=>e z.symm),h_ hx,fv e];by_cases h:x∈R
   .rw[av h,av (fY _ h)]
   .rw[au h,au (fun z=>(bO.mp z).elim h fun z=>e (by simpa using z))]
 .rw[fX (by rw[kQ,iY];lia),fX (by rw[iY];lia)]
def QX(σ:St):Nat:=match σ[4]? with
 |some (some (V.int z))=>z.toNat
 |_=>0
theorem nbO:(["others"]:List Str).Nodup:=by decide +kernel
def rH(H:Hp)(ol:Addr)(n:Nat)(ts:Ts):Prop:=∃bs:List Addr,H ol=some (.lst (bs.map V.ref))/\Holds H bs n (fun h=>.lst (NV (dP n ts h)))
theorem rH.same(x:rH H ol n ts)(e:aK H H'):rH H' ol n ts:=let ⟨bs,a,b⟩:=x;⟨bs,e _ _ a,b.mono fun _ _ z=>e _ _ z⟩
theorem KL{as:List Addr}{i:Nat}{x:V}(h:(as.map V.ref)[i]?=some x):i<as.length/\x=.ref (as.getD i 0):=by
 rw[bV] at h;cases e:as[i]? with
 |none=>rw[e] at h;cases h
 |some a=>
  rw[e] at h;refine⟨(cJ.mp e).1,?_⟩;rw[b_,e];exact(bN h).symm
section
variable {P:Program} {w:World} {K:PySem.W.Frag} {mg:Str->Option Value} {base:Heap}
theorem lL:aP ["out_lists","start","distances","reached","at","house","other"] ["out_lists","start"] (ao F5):=⟨rfl,rfl,rfl,by decide +kernel,rfl,by decide +kernel,by decide +kernel⟩
def vT:Sp:=fun vs H Q _=>∃ (ol:Addr) (n s:Nat) (ts:Ts),vs=[.ref ol,.int s]/\bS n ts/\s<n/\rH H ol n ts/\
 ∀ (r:Addr) (H':Hp),aK H H'->H r=none->H' r=some (.lst (NV ((List.range n).map (far ts s))))->Q (.ref r) H'
theorem IT{f:Addr}{fd:FuncData}(F:ii K "distances_from" "distances_from" F5 f fd)(B:Bl mg):bD P w K mg base bb 1 f fd ["out_lists","start"] vT:=by
 refine F.ok lL (fun vs H Q E h=>?_) (fun eL A outer s H vs Q E hr h=>?_)
 .obtain⟨ol,n,s,ts,rfl,_⟩:=h;rfl
 .obtain⟨ol,n,st,ts,rfl,fi,hs,O,k⟩:=h;have n1:=fi.n1;have n2:=fi.n2;refine'⟨_,aj (fO (i:=2) (g:=bA 0) (NB:=["others"]) (src:=[none]) (br (by kernel_rfl)) rfl (cw (pv 0)) ?g ?t ?e lL.nd rfl rfl rfl)
   (aj (dR ap (hG (pv 2) (pv 1) dY))
   (aj (aU (i:=3) lL.nd rfl (Or.inl rfl) (ce (aa (pv 1) ag)))
   (aj (aU (i:=4) lL.nd rfl (Or.inl rfl) ap)
   (aj (wJ eF (aX oy (pv 4) (aE aM (by rfl) B.len dN (aa (pv 3) ag)) (be _))
    (aj (aU (i:=5) lL.nd rfl (Or.inl rfl) (ba aR (pv 3) (pv 4) (fun _ _=>rfl)))
    (aj (dC eF rfl (cw (ba aR (pv 0) (pv 5) (fun _ _=>rfl))) (az (i:=6) lL.nd rfl (Or.inl rfl))
     (aq (df (aX EI (ba aR (pv 2) (pv 6) (fun _ _=>rfl)) jT (be _))
      (aj (dR (aV cE (ba aR (pv 2) (pv 5) (fun _ _=>rfl)) ap) (hG (pv 2) (pv 6) dY))
      (aq (b8 (fK e_ iN iM cz (pv 3) (aa (pv 6) ag))))) bq)))
    (aq (Lz (i:=4) lL.nd rfl (Or.inl rfl) ap LA)))))
   (aq (a9 (pv 2))))))),?_⟩
  case g=>exact fun cl C s₃ H₃ fp=>az (i:=0) nbO rfl (Or.inl rfl) (Or.inr rfl)
  case t=>exact fun cl C s₃ H₃ fp=>cV
  case e=>exact fun cl C s₃ H₃ fp=>jT
  obtain⟨bs,Eh,KM,Kq⟩:=id O;refine⟨_,rfl,ol,rfl,⟨_,aZ.of Eh⟩,fun D hD=>?_⟩;have nol:ol≠D:=ak Eh hD;refine eY (xs:=bs.map V.ref) (fun i ys σ H2=>(∃a,σ=[a])/\ys=List.replicate i V.cS/\H2=upd H D (.lst ys)) ⟨⟨_,rfl⟩,rfl,rfl⟩ (fun i ys σ H2 _ ⟨_,_,e⟩=>by rw[e];exact aZ.of (by rw[am nol];exact Eh)) ?_ ?_
  .rintro i x ys σ H2 Kt Kf hx ⟨⟨a,rfl⟩,rfl,rfl⟩ kt kf;have hi:=(KL hx).1;refine kt _ _ _ af ?_ ⟨⟨_,rfl⟩,?_,by rw[kr]⟩
   .rw[oq];exact bn hi (by rw[KM];exact a8 n2 (by decide))
   .rw[yS]
  .rintro ys σ H2 ⟨_,rfl,rfl⟩;rw[aW,KM];refine⟨_,rfl,_,rfl,D,_,st,st,rfl,rfl,af,by rw[oq];exact eQ hs,?_⟩;rw[kr,rG hs];refine⟨_,rfl,by show 1<=sizeLine;decide,fun R hR=>?_⟩;have Ek:D≠R:=ak (H:=upd H D (.lst (gg n [st] (fun _=>0)))) af hR;have IU:H R=none:=by rw[am Ek.symm] at hR;exact hR
   refine wN (fun σ H2=>∃ (i:Nat) (Rs:List Nat) (f:Nat->Nat),i<=Rs.length/\yC n ts st i Rs f/\(∃a b,σ=[some (.ref ol),some (.int st),some (.ref D),some (.ref R),some (.int (i:Int)),a,b])/\aK H H2/\H2 D=some (.lst (gg n Rs f))/\H2 R=some (.lst (NV Rs)))
    (fun σ _=>n-QX σ) ⟨0,[st],fun _=>0,bT _,yC.start hs,⟨none,none,rfl⟩,bK (ai hD) IU,?_,af⟩ ?_ ?_
   .rw[am Ek,af]
   .rintro σ H2 ⟨i,Rs,f,hi,Bf,⟨a,b,rfl⟩,sm,jw,vU⟩;have hRn:Rs.length<=n:=et Bf.nd Bf.lt;refine⟨_,rfl,_,rfl,R,_,rfl,.inl (aZ.of vU),_,_,rfl,rfl,_,rfl,?_⟩;rw[bj];by_cases r_:i<Rs.length
    .rw[show decide ((i:Int)<((Rs.length:Nat):Int))=true by simp;lia];refine vp ?_;have hu:Rs[i]?=some Rs[i]:=bH r_;generalize Rs[i]=u at hu;have xY:u<n:=Bf.lt u (dj hu);have VU:(NV Rs)[i]?=some (.int (u:Int)):=by rw[bV,hu];rfl
     refine⟨_,rfl,_,rfl,R,_,_,_,rfl,rfl,aZ.of vU,aB VU,?_⟩;have VV:(bs.map V.ref)[u]?=some (.ref (bs.getD u 0)):=by
      rw[bV,b_,bH (by rw[KM];exact xY)];rfl
     have VW:=sm _ _ (Kq _ xY);refine⟨_,rfl,_,rfl,ol,_,_,_,rfl,rfl,aZ.of (sm _ _ Eh),aB VV,_,rfl,⟨_,aZ.of VW⟩,?_⟩;have nbD:bs.getD u 0≠D:=ak (Kq _ xY) hD;have nbR:bs.getD u 0≠R:=ak (Kq _ xY) IU;refine iT (K:=K) (xs:=NV (dP n ts u)) (fun j σ H3=>∃ (gR:List Nat) (f':Nat->Nat),yC n ts st i gR f'/\gR[i]?=some u/\(∀v∈(dP n ts u).take j,v∈gR/\f' v<=f' u+1)/\
      (∃b,σ=[some (.ref ol),some (.int st),some (.ref D),some (.ref R),some (.int (i:Int)),some (.int (u:Int)),b])/\aK H H3/\H3 D=some (.lst (gg n gR f'))/\H3 R=some (.lst (NV gR)))
      ⟨Rs,f,Bf,hu,fun v hv=>by simp at hv,⟨_,rfl⟩,sm,jw,vU⟩ (fun j σ H3 _ ⟨_,_,_,_,_,_,DQ,_⟩=>aZ.of (DQ _ _ (Kq _ xY))) ?_ ?_
     .rintro j x σ H3 hx ⟨gR,f',vV,pc,dn,⟨b',rfl⟩,DQ,mB,yB⟩;rw[bV] at hx;cases hv:(dP n ts u)[j]? with
      |none=>rw[hv] at hx;cases hx
      |some v=>
       rw[hv] at hx;obtain rfl:V.int ((v:Nat):Int)=x:=bN hx;have QY:v∈dP n ts u:=dj hv;have IW:v<n:=B5 fi xY QY;have VX:T ts u v:=(hX fi xY).mp QY;have tk:(dP n ts u).take (j+1)=(dP n ts u).take j++[v]:=by rw[iP,hv];rfl
       have F7:u∈gR:=dj pc;refine⟨_,rfl,_,rfl,D,_,_,_,rfl,rfl,aZ.of mB,aB (h_ IW),rfl,_,rfl,?_⟩;by_cases AL:v∈gR
       .rw[av AL];refine iI ⟨gR,f',vV,pc,fun x hx=>?_,⟨_,rfl⟩,DQ,mB,yB⟩;rw[tk] at hx;rcases bO.mp hx with z|z
        .exact dn x z
        .simp at z;subst z;exact⟨AL,vV.bd u pc _ AL⟩
       .rw[au AL];refine vp ?_;have QZ:(gg n gR f')[u]?=some (.int ((f' u:Nat):Int)):=by rw[h_ xY,av F7]
        refine⟨_,rfl,_,rfl,D,_,_,_,rfl,rfl,aZ.of mB,aB QZ,_,_,rfl,rfl,_,rfl,_,rfl,D,_,_,_,rfl,rfl,mB,by rw[iY];exact eQ IW,?_⟩;have e1:(gg n gR f').set v (.int (((f' u:Nat):Int)+1))=gg n (gR++[v]) (put f' v (f' u+1)):=by
         rw[show ((f' u:Nat):Int)+1=((f' u+1:Nat):Int) by lia,xX IW]
        rw[e1];have oO:(upd H3 D (.lst (gg n (gR++[v]) (put f' v (f' u+1))))) R=some (.lst (NV gR)):=by rw[am Ek.symm];exact yB
        have F8:gR.length<=n:=et vV.nd vV.lt;refine⟨_,rfl,.inl ⟨rfl,_,aZ.of oO⟩,_,rfl,R,_,_,rfl,rfl,oO,by rw[bj];exact bn (show gR.length<33 by lia) (by decide),?_⟩;have kC:i<gR.length:=(cJ.mp pc).1;have VY:u≠v:=fun z=>AL (z ▸ F7);refine⟨gR++[v],put f' v (f' u+1),vV.add pc IW VX AL,by rw[gW kC];exact pc,fun x hx=>?_,⟨_,rfl⟩,bK (bK DQ hD) IU,?_,?_⟩
        .rw[fv VY];rw[tk] at hx;rcases bO.mp hx with z|z
         .obtain⟨q1,q2⟩:=dn x z;exact⟨fY _ q1,by rw[fv (fun (z:x=v)=>AL (z ▸ q1))];exact q2⟩
         .simp at z;subst z;exact⟨by simp,by rw[iV];exact aN _⟩
        .rw[am Ek,af]
        .rw[af];show _=some (HO.lst (NV (gR++[v])));rw[show NV (gR++[v])=NV gR++[.int (v:Int)] by unfold NV;rw[cY];rfl]
     .rintro σ H3 ⟨gR,f',vV,pc,dn,⟨b',rfl⟩,DQ,mB,yB⟩;rw[bj,jG] at dn;have kC:i<gR.length:=(cJ.mp pc).1;have F8:gR.length<=n:=et vV.nd vV.lt;refine⟨_,rfl,_,_,rfl,rfl,⟨⟨i+1,gR,f',kC,vV.next pc (fun v t=>dn v ((hX fi xY).mpr t)),⟨_,_,rfl⟩,DQ,mB,yB⟩,?_⟩⟩;show n-((i:Int)+1).toNat<n-(i:Int).toNat;lia
    .rw[show decide ((i:Int)<((Rs.length:Nat):Int))=false by rw[yL];lia];have e:gg n Rs f=NV ((List.range n).map (far ts st)):=by
      unfold gg NV;rw[cQ];refine jt fun x hx=>?_;obtain⟨q1,q2⟩:=Bf.done fi (by lia) (bP.mp hx);rw[av q1,q2];rfl
     rw[e] at jw;refine iI ⟨_,rfl,k D H2 sm hD jw⟩
   .rintro σ H2 Q1 Q2 imp ⟨v,e1,v2,e2,p,ys,e3,e4,i1,i2,e5,e6,kk,e7,q⟩;exact⟨v,e1,v2,e2,p,ys,e3,e4,i1,i2,e5,e6,kk,e7,imp _ _ q⟩
end
theorem Q3:(["row"]:List Str).Nodup:=by decide +kernel
section
variable {P:Program} {w:World} {K:PySem.W.Frag} {mg:Str->Option Value} {base:Heap}
theorem IX:aP ["distances"] ["distances"] (ao AK):=⟨rfl,rfl,rfl,by decide +kernel,rfl,by decide +kernel,by decide +kernel⟩
def vW:Sp:=fun vs H Q _=>∃ (l:Addr) (ds:List Addr) (n:Nat) (o:Nat->List V),vs=[.ref l]/\H l=some (.lst (ds.map V.ref))/\n<=32/\Holds H ds n (fun j=>.lst (o j))/\(∀j,j<n->∀x∈o j,∃i,x=.int i)/\∀H',aK H H'->Q .cS H'
theorem F9(F:ii K "check_reached" "check_reached" AK f fd)(B:Bl mg):bD P w K mg base bb 1 f fd ["distances"] vW:=by
 refine F.ok IX (fun vs H Q E h=>?_) (fun eL A outer s H vs Q E hr h=>?_)
 .obtain⟨l,ds,n,o,rfl,_⟩:=h;rfl
 .obtain⟨l,ds,n,o,rfl,hl,n2,hh,hx,k⟩:=h;refine'⟨_,aq (df (g_ (aE (tZ rfl) (by rfl) B.any PyProof.Rows.boot_any (aa ?c ag))) dQ bq),?_⟩;case c=>
   refine' cI (g:=bA 0) (te:=l6 (YQ K false) (tC .cS) (a_ 0)) (NB:=["row"]) (src:=[none]) (br (by kernel_rfl)) rfl (cw (pv 0)) ?g ?t ?e;case g=>exact fun cl C s₃ H₃ fp=>az (i:=0) Q3 rfl (Or.inl rfl) (Or.inr rfl)
   case t=>exact fun cl C s₃ H₃ fp=>cV
   case e=>exact fun cl C s₃ H₃ fp=>ku C6 jT (pv 0) rfl
  refine⟨_,rfl,l,rfl,⟨_,aZ.of hl⟩,fun D hD=>?_⟩;have nl:l≠D:=ak hl hD;refine eY (xs:=ds.map V.ref) (fun i ys σ H2=>(∃a,σ=[a])/\ys=(List.replicate i false).map V.bl/\H2=upd H D (.lst ys)) ⟨⟨_,rfl⟩,rfl,rfl⟩ (fun i ys σ H2 _ ⟨_,_,e⟩=>by rw[e];exact aZ.of (by rw[am nl];exact hl)) ?_ ?_
  .rintro i x ys σ H2 Kt Kf hxi ⟨⟨a,rfl⟩,rfl,rfl⟩ kt kf;obtain⟨hi,rfl⟩:=KL hxi;rw[hh.1] at hi;have hd:=hh.2 i hi;have nd:ds.getD i 0≠D:=ak hd hD;have q1:(o i).all fq=true:=i9.mpr fun x o5=>by obtain⟨z,rfl⟩:=hx i hi x o5;rfl
   have q2:Tk .cS (o i)=false:=by
    unfold Tk;rw[uM];intro x o5;obtain⟨z,rfl⟩:=hx i hi x o5;exact fun z=>by cases z
   refine⟨_,rfl,_,_,rfl,.inl (aZ.of (by rw[am nd];exact hd)),rfl,q1,?_⟩;refine kt _ _ _ af ?_ ⟨⟨_,rfl⟩,?_,by rw[kr]⟩
   .rw[aW,oq];exact bn hi (a8 n2 (by decide))
   .rw[yS,cY,q2];rfl
  .rintro ys σ H2 ⟨_,rfl,rfl⟩;refine⟨D,_,rfl,aZ.of af,_,rfl,?_⟩;have e:(List.replicate (ds.map V.ref).length false).any id=false:=by
    rw[uM];intro x o5;rw[(List.mem_replicate.mp o5).2];decide
   rw[e];exact iI (k _ (ai hD))
end
theorem Zo:(["one","other"]:List Str).Nodup:=by decide +kernel
theorem Q4:(["house","many","ties"]:List Str).Nodup:=by decide +kernel
theorem VZ:(["house","self"]:List Str).Nodup:=by decide +kernel
def mD(p Pt:Addr)(H H':Hp):Prop:=∀b o,H b=some o->b≠p->b≠Pt->H' b=some o
theorem gn.mono(h:gn H l n zs)(e:mD p Pt H H')(hp:H p=some (.ins C dx fs))(tb:kM Pt H):gn H' l n zs:=
 ⟨h.mn,e _ _ h.at_ (fJ h.at_ hp (by intro z;cases z)) (tb.not h.at_ (by intro ps z;cases z)),fun z hz=>e _ _ (h.po z hz) (fJ (h.po z hz) hp (by intro z;cases z)) (tb.not (h.po z hz) (by intro ps z;cases z))⟩
theorem kM.mono(t:kM Pt H)(e:∀b o,H b=some o->b≠p->H' b=some o)(hp:H p=some (.ins C dx fs)):kM Pt H':=by
 rcases t with z|⟨c,z,y⟩
 .exact .inl (e _ _ z (fJ z hp (by intro q;cases q)))
 .exact .inr ⟨c,e _ _ z (fJ z hp (by intro q;cases q)),e _ _ y (fJ y hp (by intro q;cases q))⟩
theorem kM.full(t:kM Pt H):H Pt≠none:=by
 rcases t with z|⟨c,z,y⟩ <;> rw[z] <;> intro q <;> cases q
theorem mD.free(s:mD p Pt H H')(hp:H' p≠none)(tb:kM Pt H')(h:H' r=none):H r=none:=by
 cases z:H r with
 |none=>rfl
 |some o=>
  by_cases e1:r=p
  .subst e1;exact absurd h hp
  .by_cases e2:r=Pt
   .subst e2;exact absurd h tb.full
   .rw[s r o z e1 e2] at h;cases h
theorem KO(h:k [] H):fz σ H k:=h
theorem kJ{H:Hp}{p:Addr}{o:HO}(h:H p=some o):H p≠none:=by rw[h];intro z;cases z
section
variable {P:Program} {w:World} {K:PySem.W.Frag} {mg:Str->Option Value} {base:Heap}
theorem MH:aP ["self","many","ties"] ["self","many","ties"] (ao Ch):=⟨rfl,rfl,rfl,by decide +kernel,rfl,by decide +kernel,by decide +kernel⟩
def AM(C Pt:Addr):Sp:=fun vs H Q E=>∃ (p dx:Addr) (n:Nat) (l:Addr) (zs:Zs),vs=[.ref p,.int n,.ref l]/\H p=some (.ins C dx [])/\gn H l n zs/\kM Pt H/\
  ∀H',d9 C H' (fun a=>H a=none) p n (zp zs)->kM Pt H'->mD p Pt H H'->Q .cS H'
theorem IY{f C Pt:Addr}{fd:FuncData}(F:ii K "__init__" "Net.__init__" Ch f fd)(T:NT K mg C)(B:Bl mg)(CT:dI P w K mg base bb 6 "check_ties" ["many","ties"] kH)(CB:dI P w K mg base bb 1 "check_balance" ["many","ties"] kH)(HO':dI P w K mg base bb 1 "houses_out" ["many","ties","house"] (vS Pt))(DF:dI P w K mg base bb 1 "distances_from" ["out_lists","start"] vT)(CR:dI P w K mg base bb 1 "check_reached" ["distances"] vW):
  bD P w K mg base bb 7 f fd ["self","many","ties"] (AM C Pt):=by
 refine F.ok MH (fun vs H Q E h=>?_) (fun eL A outer s H vs Q E hr h=>?_)
 .obtain⟨p,dx,n,l,zs,rfl,_⟩:=h;rfl
 .have MJ:cj 1 _:=hr.mono (by decide);refine'⟨_,aj (b8 (aI CT hr aH (aa (pv 1) (aa (pv 2) ag))))
   (aj (b8 (aI CB MJ aH (aa (pv 1) (aa (pv 2) ag))))
   (aj (qK (pv 0) (pv 1) rfl)
   (aj (qK (pv 0) (aE rp (by rfl) B.sorted p9 (aa ?c1 ag)) rfl)
   (aj (qK (pv 0) ?c2 rfl)
   (aj (qK (pv 0) ?c3 rfl)
   (aq (b8 (aI CR MJ aH (aa (nL (pv 0) rfl) ag))))))))),?_⟩
  case c1=>
   refine' cI (g:=sn K 2 (fj (bA 0) (fj (bA 1) sj))) (te:=qL (bi (a_ 0) (bi (a_ 1) fz))) (NB:=["one","other"]) (src:=[none,none]) (br (by kernel_rfl)) rfl (cw (pv 2)) ?g ?t ?e;case g=>exact fun cl C s₃ H₃ fp=>dv (n:=2) rfl (aG (az (i:=0) Zo rfl (Or.inl rfl) (Or.inr rfl)) (aG (az (i:=1) Zo rfl (Or.inl rfl) (Or.inr rfl)) b9))
   case t=>exact fun cl C s₃ H₃ fp=>cV
   case e=>exact fun cl C s₃ H₃ fp=>cG (aa (pv 0) (aa (pv 1) ag))
  case c2=>
   refine' cI (g:=bA 0) (te:=oz (vS Pt) [] E0 (bi (a_ 1) (bi (a_ 2) (bi (a_ 0) fz)))) (NB:=["house","many","ties"]) (src:=[none,some 1,some 2]) (br (by kernel_rfl)) rfl (bv rfl B.range (aa (pv 1) ag)) ?g ?t ?e;case g=>exact fun cl C s₃ H₃ fp=>az (i:=0) Q4 rfl (Or.inl rfl) (Or.inr rfl)
   case t=>exact fun cl C s₃ H₃ fp=>cV
   case e=>exact fun cl C s₃ H₃ fp=>aI HO' MJ aH (aa (pv 1) (aa (pv 2) (aa (pv 0) ag)))
  case c3=>
   refine' cI (g:=bA 0) (te:=oz vT [] E0 (bi (LJ K (a_ 1) "out_lists") (bi (a_ 0) fz))) (NB:=["house","self"]) (src:=[none,some 0]) (br (by kernel_rfl)) rfl (bv rfl B.range (aa (pv 1) ag)) ?g ?t ?e;case g=>exact fun cl C s₃ H₃ fp=>az (i:=0) VZ rfl (Or.inl rfl) (Or.inr rfl)
   case t=>exact fun cl C s₃ H₃ fp=>cV
   case e=>exact fun cl C s₃ H₃ fp=>aI DF MJ aH (aa (nL (pv 1) rfl) (aa (pv 0) ag))
  obtain⟨p,dx,n,l,zs,rfl,hp,TT,tb,k⟩:=h;have fi:=TT.mn;have n1:=fi.n1;have n2:=fi.n2;have fm:zs.length<=256:=by have:=fi.len;rw[bu] at this;exact this
  refine⟨_,rfl,_,rfl,n,l,zs,rfl,TT,fun H1 s1=>?_⟩;refine⟨_,rfl,_,rfl,n,l,zs,rfl,TT.same s1,fun H2 s2=>?_⟩;have V0:aK H H2:=s1.trans s2;refine⟨_,rfl,_,rfl,p,C,dx,[],rfl,V0 _ _ hp,T.cl,T.nH,(by show 0<1000;decide),?_⟩
  let G1:Hp:=upd H2 p (.ins C dx (dH "house_count" (.int n) []))
  have d1:mD p Pt H G1:=fun b o e h1 _=>by show upd _ _ _ _=_;rw[am h1];exact V0 _ _ e
  have TW:G1 p=some (.ins C dx (dH "house_count" (.int n) [])):=af;have V1:gn G1 l n zs:=TT.mono d1 hp tb;have V2:kM Pt G1:=tb.mono (fun b o e h1=>by show upd _ _ _ _=_;rw[am h1];exact V0 _ _ e) hp;refine⟨_,rfl,l,rfl,⟨_,aZ.of V1.at_⟩,fun D hD=>?_⟩;refine rE (fun y=>y) (fun σ=>∃a b,σ=[a,b]) V1.at_ V1.po hD (by lia) ⟨_,_,rfl⟩ ?_ ?_
  .rintro z σ H3 R Kf hz ⟨a,b,rfl⟩ _ ha kk;refine⟨_,_,rfl,c_.of ha,rfl,_,_,rfl,_,_,rfl,rfl,?_⟩;exact⟨_,rfl,_,rfl,by show 2<=sizeLine;decide,fun t ht=>kk _ _ ⟨_,_,rfl⟩ ht⟩
  .intro wA H3 sm mB ML ez fr2;rw[List.map_id'] at ez;have Ee:wA.length=zs.length:=by rw[<-bu,ez,bu]
   refine KO ?_;refine Cg mB ML (by lia) (fun u hu=>by have:=(fi.rg u (ez ▸ hu)).2;lia) fun tl KR V3 pm Q5=>?_;have V4:H tl=none:=d1.free (kJ TW) V2 (sm.free V3);have Hq:∀z∈KR,H z.1=none:=fun z hz=>d1.free (kJ TW) V2 (fr2 z (pm.mem_iff.mp hz));have V5:H3 p=some (.ins C dx (dH "house_count" (.int n) [])):=sm _ _ TW;have MM:p≠tl:=ak V5 V3;refine⟨_,rfl,p,C,dx,_,rfl,by rw[am MM];exact V5,T.cl,T.nT,by show 1<1000;decide,?_⟩
   let G2:Hp:=upd (upd H3 tl (.lst (zr KR))) p (.ins C dx (dH "tie_list" (.ref tl) (dH "house_count" (.int n) [])))
   have q2:∀b o,H3 b=some o->b≠p->G2 b=some o:=fun b o e h1=>by
    show upd _ _ _ _=_;rw[am h1,am (ak e V3)];exact e
   have d2:mD p Pt H G2:=fun b o e h1 h2=>q2 _ _ (sm _ _ (d1 _ _ e h1 h2)) h1;have Zp:G2 tl=some (.lst (zr KR)):=by show upd _ _ _ _=_;rw[am MM.symm,af]
   have V6:PO G2 KR:=fun z hz=>q2 _ _ (ML z (pm.mem_iff.mp hz)) (fJ (ML z (pm.mem_iff.mp hz)) V5 (by intro z;cases z));have MN:G2 p=some (.ins C dx (dH "tie_list" (.ref tl) (dH "house_count" (.int n) []))):=af;have TT2:gn G2 l n zs:=TT.mono d2 hp tb;have MO:kM Pt G2:=V2.mono (fun b o e h1=>q2 _ _ (sm _ _ e) h1) TW;refine⟨_,rfl,n,rfl,by lia,by lia,fun D2 jw=>?_⟩;refine eT (n:=n) (lo:=0) (fun i ys σ H4=>(∃a,σ=[a,some (.int n),some (.ref l)])/\∃bs:List Addr,ys=bs.map V.ref/\(∀b∈bs,H b=none)/\Holds H4 bs i (fun h=>.lst (NV (dP n (zp zs) h)))/\j4 Pt G2 H4/\kM Pt H4/\H4 D2=some (.lst ys)/\∀b∈bs,b≠D2)
    ⟨⟨_,rfl⟩,[],rfl,(fun _ h=>nomatch h),Holds.nil,j4.of (ai jw),MO.same (ai jw),af,(fun _ h=>nomatch h)⟩ ?_ ?_
   .rintro i ys σ H4 Kt Kf hi ⟨⟨a,rfl⟩,bs,rfl,V7,hb,vX,OA,El,V8⟩ kt kf;have TT4:gn H4 l n zs:=TT2.mono (p:=p) (fun b o e _ h2=>vX _ _ e h2) MN MO;have OB:=vX _ _ MN (MO.not MN (by intro ps z;cases z));refine⟨_,rfl,_,rfl,_,rfl,n,l,i,zs,by rw[g7];rfl,hi,TT4,OA,fun r H5 t5 Bq sf hr5=>?_⟩;have V9:H r=none:=mD.free (fun b o e h1 h2=>vX _ _ (d2 _ _ e h1 h2) h2) (kJ OB) OA sf;have TX:H5 D2=some (.lst (bs.map V.ref)):=Bq _ _ El (OA.not El (by intro ps z;cases z));have Q6:r≠D2:=by rintro rfl;rw[El] at sf;cases sf
    have kX:∀b o sO,H5 b=some o->b≠D2->(upd H5 D2 sO) b=some o:=fun b o sO e h=>by rw[am h];exact e
    refine kt _ _ _ TX (by rw[aW,hb.1];exact bn hi (a8 n2 (by decide))) ⟨⟨_,rfl⟩,bs++[r],by rw[cY];rfl,?_,?_,?_,?_,af,?_⟩
    .intro b sM;rcases bO.mp sM with z|z
     .exact V7 b z
     .rw[bL.mp z];exact V9
    .refine Holds.snoc (hb.mono fun j hj e=>?_) (kX _ _ _ hr5 Q6);refine kX _ _ _ (Bq _ _ e (OA.not e (by intro ps z;cases z))) (V8 _ ?_);rw[b_,bH (by rw[hb.1];exact hj)];exact eX _
    .intro b o e h;exact kX _ _ _ (Bq _ _ (vX _ _ e h) h) (ak e jw)
    .rcases t5 with z|⟨c,z,y⟩
     .exact .inl (kX _ _ _ z (fJ z TX (by intro q;cases q)))
     .exact .inr ⟨c,kX _ _ _ z (fJ z TX (by intro q;cases q)),kX _ _ _ y (fJ y TX (by intro q;cases q))⟩
    .intro b sM;rcases bO.mp sM with z|z
     .exact V8 b z
     .rw[bL.mp z];exact Q6
   .rintro ys σ H4 ⟨_,bs,rfl,V7,hb,vX,OA,El,V8⟩;have OB:H4 p=some (.ins C dx (dH "tie_list" (.ref tl) (dH "house_count" (.int n) []))):=vX _ _ MN (MO.not MN (by intro ps z;cases z));have V_:H D2=none:=d2.free (kJ MN) MO jw;refine⟨_,rfl,p,C,dx,_,rfl,OB,T.cl,T.nO,by have h1:=dX "tie_list" (V.ref tl) (dH "house_count" (V.int n) []);have h2:=dX "house_count" (V.int n) [];simp at h2;lia,?_⟩
    let G3:Hp:=upd H4 p (.ins C dx (dH "out_lists" (.ref D2) (dH "tie_list" (.ref tl) (dH "house_count" (.int n) []))))
    have q3:∀b o,H4 b=some o->b≠p->G3 b=some o:=fun b o e h1=>by show upd _ _ _ _=_;rw[am h1];exact e
    have MP:G3 p=some (.ins C dx (dH "out_lists" (.ref D2) (dH "tie_list" (.ref tl) (dH "house_count" (.int n) [])))):=af;have d3:mD p Pt H G3:=fun b o e h1 h2=>q3 _ _ (vX _ _ (d2 _ _ e h1 h2) h2) h1;have Wa:kM Pt G3:=OA.mono q3 OB;have Zq:Holds G3 bs n (fun h=>.lst (NV (dP n (zp zs) h))):=hb.mono fun j hj e=>q3 _ _ e (fJ e OB (by intro z;cases z));have Wb:G3 D2=some (.lst (bs.map V.ref)):=q3 _ _ El (fJ El OB (by intro z;cases z));have O3:rH G3 D2 n (zp zs):=⟨bs,Wb,Zq⟩
    refine⟨_,rfl,n,rfl,by lia,by lia,fun D3 MQ=>?_⟩;refine eT (n:=n) (lo:=0) (fun i ys σ H6=>(∃a,σ=[a,some (.ref p)])/\∃ds:List Addr,ys=ds.map V.ref/\(∀b∈ds,H b=none)/\Holds H6 ds i (fun s=>.lst (NV ((List.range n).map (far (zp zs) s))))/\aK G3 H6/\H6 D3=some (.lst ys)/\∀b∈ds,b≠D3)
     ⟨⟨_,rfl⟩,[],rfl,(fun _ h=>nomatch h),Holds.nil,ai MQ,af,(fun _ h=>nomatch h)⟩ ?_ ?_
    .rintro i ys σ H6 Kt Kf hi ⟨⟨a,rfl⟩,ds,rfl,Wc,hd,IZ,MR,Pn⟩ kt kf;refine⟨_,rfl,p,C,dx,_,_,rfl,IZ _ _ MP,T.cl,T.nO,by rw[bJ,av rfl],_,rfl,D2,n,i,zp zs,by rw[g7];rfl,fi,hi,O3.same IZ,fun r H7 Wd MS hr7=>?_⟩;have e7D:H7 D3=some (.lst (ds.map V.ref)):=Wd _ _ MR;have Q6:r≠D3:=by rintro rfl;rw[MR] at MS;cases MS
     have V9:H r=none:=mD.free (fun b o e h1 h2=>IZ _ _ (d3 _ _ e h1 h2)) (kJ (IZ _ _ MP)) (Wa.same IZ) MS;have kX:∀b o sO,H7 b=some o->b≠D3->(upd H7 D3 sO) b=some o:=fun b o sO e h=>by rw[am h];exact e
     refine kt _ _ _ e7D (by rw[aW,hd.1];exact bn hi (a8 n2 (by decide))) ⟨⟨_,rfl⟩,ds++[r],by rw[cY];rfl,?_,?_,?_,af,?_⟩
     .intro b sM;rcases bO.mp sM with z|z
      .exact Wc b z
      .rw[bL.mp z];exact V9
     .refine Holds.snoc (hd.mono fun j hj e=>?_) (kX _ _ _ hr7 Q6);refine kX _ _ _ (Wd _ _ e) (Pn _ ?_);rw[b_,bH (by rw[hd.1];exact hj)];exact eX _
     .intro b o e;exact kX _ _ _ (Wd _ _ (IZ _ _ e)) (ak e MQ)
     .intro b sM;rcases bO.mp sM with z|z
      .exact Pn b z
      .rw[bL.mp z];exact Q6
    .rintro ys σ H6 ⟨_,ds,rfl,Wc,hd,IZ,MR,Pn⟩;have Q7:=IZ _ _ MP;refine⟨_,rfl,p,C,dx,_,rfl,Q7,T.cl,T.nD,by have h1:=dX "tie_list" (V.ref tl) (dH "house_count" (V.int n) []);have h2:=dX "house_count" (V.int n) [];have h3:=dX "out_lists" (V.ref D2) (dH "tie_list" (V.ref tl) (dH "house_count" (V.int n) []));simp at h2;lia,?_⟩;have q4:∀b o u,H6 b=some o->b≠p->(upd H6 p u) b=some o:=fun b o u e h1=>by rw[am h1];exact e
     refine⟨_,rfl,p,C,dx,_,_,rfl,af,T.cl,T.nD,by rw[bJ,av rfl],D3,ds,n,fun s=>NV ((List.range n).map (far (zp zs) s)),rfl,q4 _ _ _ MR (fJ MR Q7 (by intro z;cases z)),n2,hd.mono fun j hj e=>q4 _ _ _ e (fJ e Q7 (by intro z;cases z)),fun j hj x hx=>?_,fun H8 s8=>?_⟩
     .obtain⟨y,hy,rfl⟩:=bh.mp hx;exact⟨_,rfl⟩
     .have up:∀b o,G3 b=some o->b≠p->H8 b=some o:=fun b o e h1=>s8 _ _ (q4 _ _ _ (IZ _ _ e) h1);have We:H D3=none:=d3.free (kJ MP) Wa MQ;have Zr:∀b o,G2 b=some o->b≠p->b≠Pt->H8 b=some o:=fun b o e h1 h2=>up _ _ (q3 _ _ (vX _ _ e h2) h1) h1;refine k H8 ⟨fi,dx,tl,D2,D3,s8 _ _ af,V_,We,⟨bs,up _ _ Wb (fJ Wb MP (by intro z;cases z)),V7,Zq.mono fun j hj e=>up _ _ e (fJ e MP (by intro z;cases z))⟩,
       ⟨ds,s8 _ _ (q4 _ _ _ MR (fJ MR Q7 (by intro z;cases z))),Wc,hd.mono fun j hj e=>s8 _ _ (q4 _ _ _ e (fJ e Q7 (by intro z;cases z)))⟩,
       ⟨V4,KR,Zr _ _ Zp MM.symm (MO.not Zp (by intro ps z;cases z)),fun z hz=>Zr _ _ (V6 z hz) (fJ (V6 z hz) MN (by intro z;cases z)) (MO.not (V6 z hz) (by intro ps z;cases z)),Hq,((show (zp KR).Perm (zp wA) from pm.map _).trans (jJ ez)),Q5⟩⟩ ?_ fun b o e h1 h2=>up _ _ (d3 _ _ e h1 h2) h1
      exact Wa.mono up MP
end
theorem jp:NV xs++[.int (x:Int)]=NV (xs++[x]):=by unfold NV;rw[cY];rfl
theorem F_{xs:List Nat}{i:Nat}{x:V}(h:(NV xs)[i]?=some x):∃y,xs[i]?=some y/\x=.int (y:Int):=by
 unfold NV at h;rw[bV] at h;cases e:xs[i]? with
 |none=>rw[e] at h;cases h
 |some z=>rw[e] at h;exact⟨z,rfl,(bN h).symm⟩
end pZ
namespace L2
open PySem PySem.Spec PyProof.Rows
section
variable {X:Cx}
def TY(X:Cx)(H:Hp)(d:Nat)(x y:V):Prop:=∀ (ae:List (Addr×Obj)) (s:Shared) (σ:St) (A:Around) (u v:Value),aO X ae σ H s->A.units+d<cLine->bz x u->bz y v->SeqAt.EqAt A s u v true
theorem I0:TY X H 0 (.int i) (.int i):=by
 intro ae s σ A u v I hu rx ry;have h:=zW (A:=A) (s:=s) rx ry rfl rfl;rw[show sE (.int i) (.int i)=true by show decide (i=i)=true;simp] at h;exact h
theorem DR(I:aO X ae σ H s)(hu:A.units+d<cLine)(rx:aT xs us)(ry:aT ys vs)(he:∀i,i<xs.length->i<ys.length->TY X H d (xs.getD i .cS) (ys.getD i .cS)):∀j (h1:j<us.toArray.size) (h2:j<vs.toArray.size),SeqAt.EqAt A s us.toArray[j] vs.toArray[j] true:=by
 intro j h1 h2;have j1:j<xs.length:=by rw[rx.length];simpa using h1
 have j2:j<ys.length:=by rw[ry.length];simpa using h2
 have e1:xs[j]?=some (xs.getD j .cS):=by rw[b_,bH j1];rfl
 have e2:ys[j]?=some (ys.getD j .cS):=by rw[b_,bH j2];rfl
 obtain⟨u,VH,ru⟩:=rx.get e1;obtain⟨v,VI,rv⟩:=ry.get e2;have eu:us.toArray[j]=u:=by
  have:us[j]?=some us.toArray[j]:=by simp at h1 |-
  rw[VH] at this;exact(bN this).symm
 have ev:vs.toArray[j]=v:=by
  have:vs[j]?=some vs.toArray[j]:=by simp at h2 |-
  rw[VI] at this;exact(bN this).symm
 rw[eu,ev];exact he j j1 j2 ae s σ A u v I hu ru rv
theorem Ga:(List.range n).all (fun _=>true)=true:=i9.mpr fun _ _=>rfl
def KS(X:Cx)(Pz:Bool)(d:Nat):R2:=fun x y H Q=>∃p q xs ys,x=.ref p/\y=.ref q/\aZ X.K H p xs/\aZ X.K H q ys/\xs.length=ys.length/\(∀i,i<xs.length->i<ys.length->TY X H d (xs.getD i .cS) (ys.getD i .cS))/\Q (.bl (!Pz)) H
end
end L2
namespace pZ
open PySem L2 jn
section
variable {P:Program} {w:World} {K:PySem.W.Frag} {mg:Str->Option Value} {base:Heap}
end
end pZ
namespace L2
open PySem PySem.Spec PyProof.Rows
def rJ(P:Program)(w:World)(h:Heap)(vs:List Value)(ps:List (List gE×Addr×Value)):Prop:=vs.length=ps.length/\∀ (i:Nat) (v:Value),vs[i]?=some v->∃ (a:Addr) (o:Obj) (n:Nat) (b:Addr) (k:List gE) (x:Value),v=Value.ref a/\h.get? a=some o/\o.cls=.type "tuple"/\o.data=.seq #[.ref b,x] n/\(tupleKind (bU P w)).is h k b/\ps[i]?=some (k,b,x)
theorem xZ(x:(tupleKind (bU P w)).is h k b)(q:∀b o,(∃xs n,o.data=.seq xs n)->h.get? b=some o->h'.get? b=some o):(tupleKind (bU P w)).is h' k b:=by
 obtain⟨o,its,n,h1,h2,h3,h4⟩:=x;exact⟨o,its,n,q _ _ ⟨_,_,h3⟩ h1,h2,h3,h4⟩
theorem rJ.keeps(x:rJ P w h vs ps)(k:∀b o,(∃xs n,o.data=.seq xs n)->h.get? b=some o->h'.get? b=some o):rJ P w h' vs ps:=
 ⟨x.1,fun i v hv=>let ⟨a,o,n,b,kk,y,e1,e2,e3,e4,e5,e6⟩:=x.2 i v hv;⟨a,o,n,b,kk,y,e1,k a o ⟨_,_,e4⟩ e2,e3,e4,xZ e5 k,e6⟩⟩
theorem rK{P:Program}{w:World}{h h':Heap}{d:Addr}{xs:List (List gE×Addr×Value)}(x:h.DictOfH (tupleKind (bU P w)) d xs)(kd:∀o,h.get? d=some o->h'.get? d=some o)(q:∀b o,(∃xs n,o.data=.seq xs n)->h.get? b=some o->h'.get? b=some o):h'.DictOfH (tupleKind (bU P w)) d xs:=by
 obtain⟨o,es,ep,h1,h2,h3,h4,h5,h6⟩:=x;exact⟨o,es,ep,kd _ h1,h2,h3,h4,fun y hy=>xZ (h5 y hy) q,h6⟩
section
variable {prog:Program} {w:World} {A:Around} {E:Value->Shared->Prop} {s:Shared} {R:Result->Shared->Prop} {l d Ia:Addr}
theorem AN{vs:List Value}{ps:List (List gE×Addr×Value)}(hh:A.handled=none)(hu:A.units+4<cLine)(hlD:l≠d)(U_:l≠Ia)(Wf:d≠Ia):
  ∀ (k i:Nat) (j:Int) (t:Tok) (s:Shared) (cL:List (List gE×Addr×Value)),vs.length-i=k->i<=vs.length->s.heap.IsListIter Ia l i->s.heap.IsList l vs.toArray->rJ prog w s.heap vs ps->s.heap.DictOfH (tupleKind (bU prog w)) d cL->cL.length+k<=4096->
   (∀h' tk,(∀b o,b≠d->b≠Ia->s.heap.get? b=some o->h'.get? b=some o)->h'.DictOfH (tupleKind (bU prog w)) d ((ps.drop i).foldl (fun m p=>storedH m p.1 p.2.1 p.2.2) cL)->R (.ok (.ret .none)) { s with heap:=h',toks:=tk })->
   codeAny (model prog w) A (.builtin "dict.update.loop" ⟨[.ref d,.ref Ia,.int j t,.none],[]⟩) R s:=by
 intro k;induction k with
 |zero=>
  intro i j t s cL hk hi wu hl hp hD hz hR;refine jL oJ ?_;rw[mZ iw _];show wpAny _ A.in1 (pyNext (.ref Ia) >>= _) _ _ s;refine aA (y_ (show A.in1.handled=none from hh) wu hl (by simp;lia) fun h' eb=>?_);have hd:ps.drop i=[]:=by rw[List.drop_eq_nil_iff];have:=hp.1;lia
  have Zt:=hR h' s.toks (fun b o hb Ih e=>eb b o Ih e);rw[hd] at Zt;refine aA (wpAny_pure (wpAny_pure (Zt ?_)));refine rK hD (fun o e=>eb d o Wf e) fun b o hb e=>eb b o (fun z=>?_) e;obtain⟨oi,e1,_,d1⟩:=wu;obtain⟨xs,m,hb⟩:=hb;rw[z,e1] at e;cases e;rw[d1] at hb;cases hb
 |succ k ih=>
  intro i j t s cL hk hi wu hl hp hD hz hR;have dG:i<vs.length:=by lia
  refine jL oJ ?_;rw[mZ iw _];show wpAny _ A.in1 (pyNext (.ref Ia) >>= _) _ _ s;have hv:vs[i]?=some vs[i]:=bH dG;refine aA (yW wu hl (x:=vs[i]) (by simpa using hv) fun h1 L4 Dh=>?_);have Tp:∀b ob,(∃xs n,ob.data=.seq xs n)->s.heap.get? b=some ob->b≠Ia:=fun b ob ⟨xs,m,z⟩ e z'=>by
   obtain⟨oi,e1,_,d1⟩:=wu;rw[z',e1] at e;cases e;rw[d1] at z;cases z
  have k1:∀b ob,(∃xs n,ob.data=.seq xs n)->s.heap.get? b=some ob->h1.get? b=some ob:=fun b ob hb e=>(Dh.2 b (Tp b ob hb e)).trans e;have lR:rJ prog w h1 vs ps:=hp.keeps k1;have AO:h1.DictOfH (tupleKind (bU prog w)) d cL:=rK hD (fun o e=>(Dh.2 d Wf).trans e) k1;have yA:h1.IsList l vs.toArray:=by
   obtain⟨ol,q1,q2⟩:=hl;exact⟨ol,(Dh.2 l U_).trans q1,q2⟩
  obtain⟨a,o,n,b,kk,x,ea,P4,ec,ed,ek,ep⟩:=lR.2 i _ hv;rw[ea];have neD:∀b ob,(∃xs n,ob.data=.seq xs n)->h1.get? b=some ob->b≠d:=fun b ob ⟨xs,m,z⟩ e z'=>by
   obtain⟨oS,es,O1,q1,_,q4,_⟩:=AO;rw[z',q1] at e;cases e;rw[q4] at z;cases z
  have hT:Shared.TypeIs { s with heap:=h1 } (.ref a) "tuple":=⟨o,P4,ec⟩
  refine aA (gy ?_);show wpAny _ A.in1 (Sem.tryCatch (Builtin.Dict.pairItems (.ref a)) _ >>= _) _ _ _;refine aA (wpAny_tryCatch ?_);unfold Builtin.Dict.pairItems;refine aA (wpAny_typeOf hT ?_);rw[av (by decide)];refine aA (lq P4 ed (wpAny_pure ?_));show wpAny _ A.in1 (holding [.ref b,x] (dictSet d (.ref b) x)) _ _ _;refine gy (wpAny_dictSet_heap (s:={ s with heap:=h1 }) (show A.in1.units<cLine from by show A.units+1<cLine;lia) ek AO (fun h2 jw E_=>?_) (a8 (by lia:cL.length<=4096) (by decide)));refine wpAny_pure ⟨qB iw _,?_⟩;have Ab:i<ps.length:=by have:=hp.1;lia
  have Vb:ps.drop i=(kk,b,x)::ps.drop (i+1):=by
   rw[qa Ab];have:ps[i]?=some ps[i]:=bH Ab;rw[this] at ep;rw[bN ep]
  have fm:(storedH cL kk b x).length<=cL.length+1:=by
   unfold storedH;split
   .rw[aW];lia
   .rw[cp];simp
  have k2:∀b ob,(∃xs n,ob.data=.seq xs n)->h1.get? b=some ob->h2.get? b=some ob:=fun b ob hb e=>(E_.2 b (neD b ob hb e)).trans e;refine ih (i+1) _ _ { s with heap:=h2,toks:=_ } (storedH cL kk b x) (by lia) dG ?_ ?_ (lR.keeps k2) jw (by lia) fun h3 Vc k3 D3=>?_
  .obtain⟨oi,q1,q2⟩:=L4;exact⟨oi,(E_.2 Ia (cZ Wf)).trans q1,q2⟩
  .obtain⟨ol,q1,q2⟩:=yA;exact⟨ol,(E_.2 l hlD).trans q1,q2⟩
  .refine hR h3 Vc (fun b ob hb Ih e=>k3 b ob hb Ih ((E_.2 b hb).trans ((Dh.2 b Ih).trans e))) ?_;rw[Vb];exact D3
end
section
variable {prog:Program} {w:World} {A:Around} {E:Value->Shared->Prop} {s:Shared} {l:Addr}
theorem MT(h:Heap):(h.push { cls:=.type "dict",data:=.dict #[] }).DictOfH (tupleKind (bU P w)) h.objs.size []:=
 ⟨_,#[],0,cX _ rfl,⟨rfl,rfl,rfl⟩,rfl,rfl,(fun x hx=>nomatch hx),ja⟩
theorem AQ(hh:A.handled=none)(hu:A.units+8<cLine)(hl:s.heap.get? l=some { cls:=.type "list",data:=.seq vs.toArray n })(hp:rJ prog w s.heap vs ps)(hz:vs.length<=4096)(h:∀h' tk,h'.DictOfH (tupleKind (bU prog w)) s.heap.objs.size (ps.foldl (fun m p=>storedH m p.1 p.2.1 p.2.2) [])->(∀b o,s.heap.get? b=some o->h'.get? b=some o)->Q (.ref s.heap.objs.size) { s with heap:=h',toks:=tk }):
  wpAny (model prog w) A (call (.type "dict") [.ref l]) Q E s:=by
 refine callType_codes (Q₁:=fun obj s₁=>obj=.ref s.heap.objs.size/\s₁={ s with heap:=s.heap.push { cls:=.type "dict",data:=.dict #[] } }) F.kt_called_dict (F.kt_typeCall_dict_1 _) F.entry_dict_init (kt_code_dict_new _ ⟨rfl,rfl⟩) ?_;rintro obj s₁ ⟨rfl,rfl⟩;have KU:(s.heap.push { cls:=.type "dict",data:=.dict #[] }).DictOf (bU prog w) s.heap.objs.size []:=Heap.DictOf.new s.heap;have qS:(s.heap.push { cls:=.type "dict",data:=.dict #[] }).DictOfH (tupleKind (bU prog w)) s.heap.objs.size []:=MT s.heap;have gJ:(s.heap.push { cls:=.type "dict",data:=.dict #[] }).objs.size=s.heap.objs.size+1:=gY ..;have up:∀b o,s.heap.get? b=some o->(s.heap.push { cls:=.type "dict",data:=.dict #[] }).get? b=some o:=fun b o e=>cB _ e;have dG:l<s.heap.objs.size:=aS hl;refine⟨KU.typeIs,F.args_dict_init_2 _ _,?_⟩;generalize (s.heap.push { cls:=.type "dict",data:=.dict #[] })=hD at *;have hT:Shared.TypeIs { s with heap:=hD } (.ref l) "list":=⟨_,up _ _ hl,rfl⟩
 unfold Builtin.«dict.__init__»;refine aA ?_;unfold Builtin.Dict.selfAndRest;refine aA (wpAny_notOrdered_dict KU.typeIs (wpAny_pure ?_));show wpAny _ _ (Builtin.Dict.updateFrom "dict.__init__" s.heap.objs.size (.ref l) [] .none) _ _ _;unfold Builtin.Dict.updateFrom;refine aA (wpAny_typeOf hT ?_);rw[av (by decide)];refine aA (Mf (s:={ s with heap:=hD }) (show A.in1.handled=none from hh) (up _ _ hl) fun h1 tk1 k1=>?_);have yA:h1.get? l=some { cls:=.type "list",data:=.seq vs.toArray n }:=k1 _ _ (up _ _ hl);have wB:h1.IsList l vs.toArray:=⟨_,yA,rfl,n,rfl⟩
 rw[av (by rfl)];refine aA (fN ?_);refine aA (qp (s:={ s with heap:=h1,toks:=tk1 }) wB ?_);have Wg:s.heap.objs.size<h1.objs.size:=by
  obtain⟨o,es,ep,q1,q2⟩:=qS;exact aS (k1 _ _ q1)
 refine wpAny_pure ⟨qB iw _,?_⟩;refine AN (l:=l) (vs:=vs) (ps:=ps) (Ia:=h1.objs.size) (show A.in1.handled=none from hh) (show A.units+1+4<cLine by lia) (aQ dG) (aQ (lu dG Wg)) (aQ Wg) vs.length 0 0 0 _ [] (by simp) (bT _) ⟨_,cX _ rfl,rfl,rfl⟩ ?_ ?_ ?_ (by simpa using hz) fun h2 AR k2 D2=>?_
 .exact⟨_,cB _ yA,rfl,n,rfl⟩
 .exact hp.keeps fun b o _ e=>cB _ (k1 _ _ (up _ _ e))
 .exact rK qS (fun o e=>cB _ (k1 _ _ e)) fun b o _ e=>cB _ (k1 _ _ e)
 .refine⟨rfl,h h2 AR D2 fun b o e=>k2 b o (aQ (aS e)) (aQ (lu (aS e) Wg)) (cB _ (k1 _ _ (up _ _ e)))⟩
end
abbrev TK:=List gE×Addr×V
def du(m:List (List gE×V))(ps:List TK):List (List gE×V):=ps.foldl (fun m p=>qY m p.1 p.2.2) m
inductive KP (H:Hp):List TK->List (List gE×Addr×Value)->Prop where
 |nil:KP H [] []
 |cons {k:List gE} {b:Addr} {v:V} {u:Value} {ps:List TK} {us:List (List gE×Addr×Value)} (hb:H b=some (.tup (k.map kV))) (r:bz v u) (t:KP H ps us):KP H ((k,b,v)::ps) ((k,b,u)::us)
theorem KP.fold:∀ {ps:List TK} {us:List (List gE×Addr×Value)} {m:List (List gE×V)} {m':List (List gE×Addr×Value)},KP H ps us->KT H m m'->KT H (du m ps) (us.foldl (fun m p=>storedH m p.1 p.2.1 p.2.2) m')
 |[],_,_,_,.nil,r=>r
 |(k,b,v)::ps,_,m,m',.cons (us:=us) hb rv t,r=>by
  have:=KP.fold (ps:=ps) (us:=us) t (r.put k hb rv);exact this
theorem oW:∀ (ps:List TK) (m:List (List gE×V)),(du m ps).length<=m.length+ps.length
 |[],m=>by show m.length<=_;simp
 |p::ps,m=>by
  have h1:=oW ps (qY m p.1 p.2.2);have h2:=xp m p.1 p.2.2;show (du (qY m p.1 p.2.2) ps).length<=_;rw[dS];lia
theorem x_(ok:lA P w H h):∀ (ts:List Addr) (ps:List TK),ts.length=ps.length->(∀i,i<ps.length->∃k b v,ps[i]?=some (k,b,v)/\H (ts.getD i 0)=some (.tup [.ref b,v])/\H b=some (.tup (k.map kV)))->
  ∃us:List (List gE×Addr×Value),KP H ps us/\rJ P w h (ts.map Value.ref) us
 |[],[],_,_=>⟨[],.nil,rfl,fun i v hv=>by simp at hv⟩
 |[],_::_,e,_=>by simp at e
 |_::_,[],e,_=>by simp at e
 |t::ts,(k,b,v)::ps,e,hs=>by
  obtain⟨us,r,T⟩:=x_ ok ts ps (by simpa using e) fun i hi=>by
   obtain⟨k',b',v',h1,h2,h3⟩:=hs (i+1) (by simp;lia);exact⟨k',b',v',by simpa using h1,by simpa using h2,h3⟩
  obtain⟨k0,b0,v0,g1,g2,g3⟩:=hs 0 (by simp);have g1':(k,b,v)=(k0,b0,v0):=by simpa using g1
  cases g1';have g2':H t=some (.tup [.ref b,v]):=by simpa using g2
  obtain⟨_,its,rv,o,q1,q2,n,q3⟩:=ok t _ g2';cases rv with
  |cons ra rr=>
   cases rr with
   |cons rb rr2=>
    cases rr2;rename_i ka vb;obtain rfl:ka=Value.ref b:=ra;refine⟨(k,b,vb)::us,.cons g3 rb r,by simp[T.1],fun i x hx=>?_⟩;cases i with
    |zero=>
     have o5:Value.ref t=x:=by simpa using hx
     exact⟨t,o,n,b,k,vb,o5.symm,q1,q2,q3.1,nZ ok g3,rfl⟩
    |succ i=>exact T.2 i x (by simpa using hx)
section
variable {X:Cx}
def MU:List V->Hp->VK->Prop:=fun xs H Q=>∃ (l:Addr) (ts:List Addr) (ps:List TK),xs=[.ref l]/\H l=some (.lst (ts.map V.ref))/\ts.length=ps.length/\(∀i,i<ps.length->∃k b v,ps[i]?=some (k,b,v)/\H (ts.getD i 0)=some (.tup [.ref b,v])/\H b=some (.tup (k.map kV)))/\ps.length<=4096/\
 ∀D,H D=none->Q (.ref D) (upd H D (.dT (du [] ps)))
theorem AS(hc:X.calm=true)(hu:X.A.units+8<cLine):eK X (.type "dict") MU:=by
 intro ae s σ H xs us Q I r h;obtain⟨l,ts,ps,rfl,hl,fm,ht,hz,q⟩:=h;obtain⟨u1,rfl,r1⟩:=r.one;obtain rfl:u1=Value.ref l:=r1;obtain⟨z,its,n,rv,_,e⟩:=I.qQ hl;have Aj:its=ts.map Value.ref:=vB rv;subst Aj;obtain⟨vs,kv,T⟩:=x_ I.bZ ts ps fm ht;refine AQ (I.ok.hd hc) hu e T (by rw[aW,fm];exact hz) fun h' tk D k=>?_;have hs:sysModules<s.heap.objs.size:=lu (by decide:sysModules<mainGlobals) (I.mod.glob.keeps I.bk).lt;have nf:=I.bZ.fresh (aN s.heap.objs.size);have I2:aO X ae σ (upd H s.heap.objs.size (.dT (du [] ps))) { s with heap:=h',toks:=tk }:=by
  obtain⟨o,es,ep,h1,h2,h3,h4,_,h6⟩:=D;refine I.BB (t':=tk) k (qh (aN _)) ⟨?_,?_,_,KT.keeps (KP.fold kv .nil) fun b ys eb=>?_,o,es,ep,h1,h2,h3,h4,h6⟩
  .have:=oW ps [];exact a8 this (a8 (by simpa using hz) (by decide:4096<=sizeLine))
  .rw[k9];exact fG hs
  .rw[am (ak eb nf)];exact eb
 exact⟨.ref s.heap.objs.size,_,I2,rfl,q _ nf⟩
end
structure OC(K:PySem.W.Frag)(C:Addr):Prop where
 makes:PySem.W.makesIn K C=true
 init:PySem.W.findIn K (.ref C) "__init__"=some (some (.builtin "object.__init__"))
 keep:PySem.W.keepIn K (.ref C)=true
section
variable {X:Cx} {C:Addr} {x:Str} {p pos:Pos}
def Wi(C:Addr):TE:=fun _ H Q=>∀y dx,H y=none->H dx=none->dx≠y->Q (.ref y) (upd (upd H dx (.own y)) y (.ins C dx []))
theorem rL(M:OC X.K C)(hg:Gl X x)(hm:X.mg x=some (.ref C))(C2:(x==("__debug__":Str))=false:=by decide):PE X (.Call (.Name x p) [] [] pos) (Wi C):=by
 intro ae s σ H Q I h;refine lc (pK I hg hm ?_ C2);have I2:=aO.made (C:=C) I;have fin:wpAny (model X.prog X.w) X.A (call (.ref C) []) (EP X ae σ Q) X.xe s:=by
  refine nC ?_;refine C0 I.lZ M.makes M.init (fun self=>PySem.W.Looks.of_pure (PySem.W.oi_bind self)) ?_;have Y:=zo (M:=model X.prog X.w) I.lZ M.makes;have t1:PySem.W.Looks (model X.prog X.w) ((s.heap.push PySem.W.emptyDict).push (PySem.W.instObj C s.heap.objs.size)) (typeOf (.ref (s.heap.objs.size+1))) (.ref C):=(PySem.W.Looks.ld (by heap_get)).andThen .now;have t2:PySem.W.Looks (model X.prog X.w) ((s.heap.push PySem.W.emptyDict).push (PySem.W.instObj C s.heap.objs.size)) (isInstance (.ref (s.heap.objs.size+1)) (.type "object")) true:=t1.andThen (Y.top.keeps fun b o e=>cB _ (cB _ e));refine uK PySem.W.oi_plain PySem.W.entry_oi (@PySem.W.check_slot (model X.prog X.w) _ _ _ "object.__init__" "object" "__init__" (.ref (s.heap.objs.size+1)) [] [] _ PySem.W.oi_kind PySem.W.oi_split t2 (PySem.W.oi_args (.ref (s.heap.objs.size+1))) ?_);rw[PySem.W.oi_run];refine wpAny_pure (And.intro rfl ?_);exact⟨.ref (s.heap.objs.size+1),_,I2,rfl,h _ _ (I.bZ.fresh (qD _)) (I.bZ.fresh (aN _)) (aQ (i7 _))⟩
 exact PySem.W.callWith_K0 I.lZ M.keep fin
end
section
variable {X:Cx}
def Q8(X:Cx)(H:Hp)(p:Addr)(d:PyData):Prop:=(∀ae σ s,aO X ae σ H s->∃as,Reads s.heap (.ref p) d as/\(d.hasDict=true->sysModules∉as))/\d.showable=true/\d.depth<=4/\d.shown.length<=sizeLine
def Q9(X:Cx)(H:Hp)(x:V)(d:PyData):Prop:=(∃p,x=.ref p/\Q8 X H p d)\/(x=.cS/\d=.none)\/(∃b,x=.bl b/\d=.bool b)\/(∃i,x=.int i/\d=.int i/\i.natAbs.log2<1920)\/(∃y,x=.str y/\d=.str y/\(reprText y).length<=sizeLine)
theorem rM(hg:X.A.guards=some [])(hu:X.A.units+8<cLine):eK X (.builtin "repr") (fun xs H Q=>∃ (x:V) (d:PyData),xs=[x]/\Q9 X H x d/\Q (.str d.shown) H):=by
 intro ae s σ H xs us Q I r h;obtain⟨x,d,rfl,hx,q⟩:=h;obtain⟨u,rfl,ru⟩:=r.one;rcases hx with ⟨p,rfl,hr,h1,h3,h4⟩|⟨rfl,rfl⟩|⟨b,rfl,rfl⟩|⟨i,rfl,rfl,hi⟩|⟨y,rfl,rfl,hy⟩
 .obtain rfl:u=Value.ref p:=ru;obtain⟨as,rd,hs⟩:=hr ae σ s I;exact repr_of_reads' rd h1 hs hg (by lia) (fun b o e=>e) (fun h' u tk hk=>⟨.str d.shown,H,I.kept (t':=tk) hk,⟨u,rfl⟩,q⟩) h4
 .obtain rfl:u=Value.none:=ru;exact PySem.P.repr_of_none ⟨.str _,H,I.tok _,⟨_,rfl⟩,q⟩
 .obtain rfl:u=Value.bool b:=ru;refine PySem.P.repr_of_bool ⟨.str _,H,I.tok _,⟨_,rfl⟩,?_⟩;cases b <;> exact q
 .obtain⟨t,rfl⟩:∃t,u=Value.int i t:=ru;exact PySem.P.repr_of_int hi ⟨.str _,H,I.tok _,⟨_,rfl⟩,q⟩
 .obtain⟨t,rfl⟩:∃t,u=Value.str y t:=ru;exact PySem.P.repr_of_str ⟨.str _,H,I.tok _,⟨_,rfl⟩,q⟩ hy
end
end L2
namespace jn
abbrev eN(ts:Ts)(h:Int):Nat:=(ts.filter fun t=>decide (t.1=h)).length
theorem Cn:eN (ts++us) h=eN ts h+eN us h:=by unfold eN;rw[iO,cp]
theorem vY:eN [(a,b),(b,a)] h=(if a=h then 1 else 0)+(if b=h then 1 else 0):=by
 unfold eN;by_cases c1:a=h <;> by_cases c2:b=h <;> simp[c1,c2]
theorem Co:eN (di (ps++[(a,b)])) h=eN (di ps) h+((if a=h then 1 else 0)+(if b=h then 1 else 0)):=by
 rw[lJ,Cn];exact congrArg _ vY
theorem I_:di [(a,b)]=[(a,b),(b,a)]:=rfl
theorem Ja(ha:a<n)(hb:b<n)(pq:a≠b):yD n [(ci a,ci b),(ci b,ci a)]:=by
 have ne:ci a≠ci b:=fun e=>pq (dF e);refine⟨?_,?_,?_,?_,?_⟩
 .rw[fA];refine⟨fun h=>?_,by simp⟩;have:=bL.mp h;exact ne (congrArg Prod.fst this)
 .intro t ht;rcases bg.mp ht with rfl|ht
  .exact⟨⟨by lia,by lia⟩,⟨by lia,by lia⟩⟩
  .rw[bL.mp ht];exact⟨⟨by lia,by lia⟩,⟨by lia,by lia⟩⟩
 .intro t ht;rcases bg.mp ht with rfl|ht
  .exact ne
  .rw[bL.mp ht];exact fun e=>ne e.symm
 .intro h;by_cases c1:ci a=h <;> by_cases c2:ci b=h <;> simp[c1,c2]
 .intro h;have:=vY (a:=ci a) (b:=ci b) (h:=h);show eN [(ci a,ci b),(ci b,ci a)] h<=8;rw[this];split <;> split <;> lia
theorem bS.pair(F:bS n (di ps))(ha:a<n)(hb:b<n)(pq:a≠b)(h1:(ci a,ci b)∉ps)(h2:(ci b,ci a)∉ps)(d1:eN (di ps) (ci a)<=7)(d2:eN (di ps) (ci b)<=7):bS n (di (ps++[(ci a,ci b)])):=by
 rw[lJ,I_];have ne:ci a≠ci b:=fun e=>pq (dF e);refine F.app (pW F.pre (Ja ha hb pq) (fun t ht=>?_) fun h=>?_)
 .rcases bg.mp ht with rfl|ht
  .exact fun z=>(mv.mp z).elim h1 h2
  .rw[bL.mp ht];exact fun z=>(mv.mp z).elim h2 h1
 .show eN (di ps) h+eN [(ci a,ci b),(ci b,ci a)] h<=8;rw[vY];have m:=F.most h;by_cases c1:ci a=h
  .subst c1;rw[av rfl,au (fun e=>ne e.symm)];lia
  .by_cases c2:ci b=h
   .subst c2;rw[au c1,av rfl];lia
   .rw[au c1,au c2];exact m
theorem Jb(P:yD n ts):yD n (ts.map sU):=by
 have fl:∀h:Int,((ts.map sU).filter fun t=>decide (t.1=h)).length=(ts.filter fun t=>decide (t.2=h)).length:=fun h=>by
  rw[nj,aW];rfl
 have fl2:∀h:Int,((ts.map sU).filter fun t=>decide (t.2=h)).length=(ts.filter fun t=>decide (t.1=h)).length:=fun h=>by
  rw[nj,aW];rfl
 refine⟨?_,fun t ht=>?_,fun t ht=>?_,fun h=>?_,fun h=>?_⟩
 .refine f9.mpr (P.nd.imp fun {x y} r6 e=>r6 ?_);have e1:=congrArg Prod.fst e;have e2:=congrArg Prod.snd e;exact g9 e2 e1
 .obtain⟨u,hu,rfl⟩:=bh.mp ht;exact⟨(P.rg u hu).2,(P.rg u hu).1⟩
 .obtain⟨u,hu,rfl⟩:=bh.mp ht;exact fun e=>P.ne u hu e.symm
 .rw[fl,fl2,P.DC]
 .rw[fl,<-P.DC];exact P.most h
theorem MV(h:3<=m)(hk:k<m):pk m (pk m k)≠k:=by
 unfold pk;split <;> split <;> lia
theorem ya(n1:3<=n)(n2:n<=32)(pm:xs.Perm (List.range n)):bS n (di (sQ xs)):=by
 have F:=ue (by lia) n2 pm;have nd:xs.Nodup:=pm.nodup_iff.mpr i8;have hl:xs.length=n:=by rw[pm.length_eq,cK]
 have lt:∀x∈xs,x<n:=fun x hx=>bP.mp (pm.mem_iff.mp hx);obtain⟨P,one⟩:=vK nd lt (by lia);have Q:=Jb P;refine bS.perm ?_ hZ;refine F.app (pW P Q (fun t ht hm=>?_) fun h=>?_)
 .obtain⟨u,hu,rfl⟩:=bh.mp ht;obtain⟨k,hk,rfl⟩:=mr hu;obtain⟨j,hj,e⟩:=mr hm;have e1:xs.getD k 0=xs.getD (pk xs.length j) 0:=dF (congrArg Prod.fst e);have e2:xs.getD (pk xs.length k) 0=xs.getD j 0:=dF (congrArg Prod.snd e);have pj:=ud hj;have Zu:=ud hk;rw[cA hk,cA pj] at e1;rw[cA Zu,cA hj] at e2;have i1:=iW nd hk pj e1;have i2:=iW nd Zu hj e2;rw[<-i2] at i1;exact MV (by lia) hk i1.symm
 .have o1:=one h;have e:((sQ xs).map sU).filter (fun t=>decide (t.1=h))=((sQ xs).filter fun t=>decide (t.2=h)).map sU:=by rw[nj];rfl
  rw[e,aW,<-P.DC];lia
def lM(xs:List Nat):Ts:=(List.range xs.length).map fun k=>(ci (xs.getD k 0),ci (xs.getD ((k+1) % xs.length) 0))
theorem Gb:((List.range m).map fun k=>(k+1) % m).Perm (List.range m):=by
 cases m with
 |zero=>exact ju _
 |succ m=>
  rw[i_,cY,List.map_singleton,Nat.mod_self];have e:(List.range m).map (fun k=>(k+1) % (m+1))=(List.range m).map (·+1):=jt fun k hk=>kP (by have:=bP.mp hk;lia);rw[e];refine lV.trans ?_;rw[<-i_,mU];exact ju _
theorem kK:(lM xs).Perm (sQ xs):=by
 have h:=(Gb (m:=xs.length)).map fun k=>(ci (xs.getD (pk xs.length k) 0),ci (xs.getD k 0))
 rw[cQ] at h;refine List.Perm.trans (jJ ?_) h;unfold lM;refine jt fun k hk=>?_;have Km:=bP.mp hk;have:pk xs.length ((k+1) % xs.length)=k:=by
  by_cases c:k+1=xs.length
  .rw[c,Nat.mod_self];unfold pk;rw[av rfl];lia
  .rw[kP (by lia)];unfold pk;rw[au (by lia)];lia
 show _=(ci (xs.getD (pk xs.length ((k+1) % xs.length)) 0),ci (xs.getD ((k+1) % xs.length) 0));rw[this]
theorem bS.round(F:bS n ts)(nd:xs.Nodup)(lt:∀x∈xs,x<n)(c2:2<=xs.length)(hf:∀x∈xs,eN ts (ci x)<=7)(hn:∀t∈lM xs,t∉ts):bS n (ts++lM xs):=by
 have P:=DE F.pre nd lt c2 (fun t ht=>?_) (fun t ht=>hn t (kK.mem_iff.mpr ht))
 .exact(F.app P).perm (uE _ kK)
 .obtain⟨k,hk,rfl⟩:=mr ht;exact hf _ (kD (ud hk))
end jn
namespace pZ
open PySem L2 jn
abbrev MW:Stmt:=top 34
abbrev Gc:Stmt:=top 35
abbrev Gd:Stmt:=top 47
structure OE(mg:Str->Option Value):Prop where
 abs:mg "abs"=none
 divmod:mg "divmod"=none
 dict:mg "dict"=none
 zip:mg "zip"=none
 repr:mg "repr"=none
def aY(H:Hp)(p:Addr):Prop:=∃a b:Int,H p=some (.lst [.int a,.int b])/\0<=a/\0<=b/\b<4294967296
theorem aY.same(h:aY H p)(s:aK H H'):aY H' p:=let ⟨a,b,e,r⟩:=h;⟨a,b,s _ _ e,r⟩
theorem aY.full(h:aY H p):H p≠none:=by obtain⟨a,b,e,_⟩:=h;rw[e];intro z;cases z
theorem aY.ne(h:aY H p)(e:H q=none):q≠p:=by rintro rfl;exact h.full e
theorem aY.put(h:aY H p)(n:p≠q):aY (upd H q o) p:=let ⟨a,b,e,r⟩:=h;⟨a,b,by rw[am n];exact e,r⟩
theorem aY.neT(h:aY H p)(e:H q=some (.tup xs)):q≠p:=by rintro rfl;obtain⟨a,b,z,_⟩:=h;rw[e] at z;cases z
theorem PO.oX(h:PO H zs)(s:aL p H H')(hp:aY H p):PO H' zs:=fun z hz=>s _ _ (h z hz) (hp.neT (h z hz))
theorem Q_{j:Int}(h1:0<j)(h2:j<2 ^ 200):Nat.log2 j.natAbs<200:=(Nat.log2_lt (by lia)).mpr (by lia)
theorem Ge{X:Cx}:l4 X (binaryOp .FloorDiv) (rI (fun _ j=>0<j/\j<2 ^ 200) fun i j=>.int (i / j)):=Ph fun i j _ _ _ _ _ hc q=>by
 have h1:(0:Int)<j:=hc.1;have h2:j<2 ^ 200:=hc.2;refine PyProof.Rows.floordiv_int (by lia) (by rw[yG i (by lia)];exact q) (.inl (Eu ?_));exact lu (Q_ h1 h2) (by decide)
theorem vZ{X:Cx}:eK X (.builtin "divmod") (fun xs H Q=>∃i j,xs=[.int i,.int j]/\(0<j/\j<2 ^ 200)/\∀p,H p=none->Q (.ref p) (upd H p (.tup [.int (i / j),.int (i % j)]))):=by
 intro ae s σ H xs us Q I r h;obtain⟨i,j,rfl,⟨h1,h2⟩,q⟩:=h;obtain⟨u,w',rfl,⟨t,rfl⟩,⟨t',rfl⟩⟩:=EL r;refine PyProof.Rows.divmod_int (by lia) ?_ (.inl (Eu (lu (Q_ h1 h2) (by decide))));rw[yG i (by lia),yF i (by lia)];have hn:H s.heap.objs.size=none:=I.bZ.fresh (aN _);refine⟨.ref s.heap.objs.size,_,?_,rfl,q _ hn⟩;refine I.laid (fun b o e=>cB _ e) (aN _) ⟨by simp only[dS,List.length_nil];rw[gc];decide,[.int (i / j) s.toks,.int (i % j) (s.toks+1)],.cons ⟨_,rfl⟩ (.cons ⟨_,rfl⟩ .nil),?_⟩;exact⟨_,cX s.heap rfl,rfl,0,rfl,rfl⟩
section
variable {P:Program} {w:World} {K:PySem.W.Frag} {mg:Str->Option Value} {base:Heap}
theorem KW:aP ["_law_script","_law_k","_law_cell"] ["_law_script","_law_k"] (ao MW):=⟨rfl,rfl,rfl,by decide +kernel,rfl,by decide +kernel,by decide +kernel⟩
def Gf(K:PySem.W.Frag):Sp:=fun vs H Q _=>∃ (a:Addr) (ns:List Int) (k:Nat),vs=[.ref a,.int k]/\aZ K H a (ns.map V.int)/\k<64/\∀ (r:Addr) (H':Hp),aK H H'->H r=none->aY H' r->Q (.ref r) H'
theorem MX(F:ii K "_law_pot" "_law_pot" MW f fd)(B:Bl mg)(B2:OE mg):bD P w K mg base bb 1 f fd ["_law_script","_law_k"] (Gf K):=by
 refine F.ok KW (fun vs H Q E h=>?_) (fun eL A outer s H vs Q E hr h=>?_)
 .obtain⟨a,ns,k,rfl,_⟩:=h;rfl
 .obtain⟨a,ns,k,rfl,hS,hk,q⟩:=h;refine⟨_,(aj (aU (i:=2) KW.nd rfl (Or.inl rfl) (EC (aX oy (pv 1) (aE aM (by rfl) B.len dN (aa (pv 0) ag)) (be _)) (ba aR (pv 0) (pv 1) (fun _ _=>rfl)) ap))
   (aq (a9 (ce (aa (aE (ky rfl) (by rfl) B.max qe (aa ap (aa (aV jh (aE wP (by rfl) B2.abs PyProof.Rows.boot_abs (aa (pv 2) ag)) (aV zN ap ap)) ag))) (aa (aV cE (aV cE (aV hJ (aE wP (by rfl) B2.abs PyProof.Rows.boot_abs (aa (pv 2) ag)) ap) (aV jW ap (pv 1))) ap) ag)))))),?_⟩
  dsimp only;refine uf (fun σ Hc=>Hc=H/\∃c:Int,σ=[some (.ref a),some (.int k),some (.int c)]) ?_ ?_
  .rintro σ Hc ⟨rfl,c,rfl⟩;obtain⟨z,hz,z0⟩:∃z:Int,z=(if c<0 then -c else c)/\0<=z:=⟨_,rfl,by split <;> lia⟩
   have m0:0<=z % 2147483629:=qv _ (by decide);have m1:z % 2147483629<2147483629:=qi _ (by decide);refine⟨_,rfl,c,rfl,?_⟩;rw[<-hz];refine⟨_,_,rfl,rfl,⟨by decide,by decide,by decide⟩,_,_,rfl,rfl,0,_,rfl,_,rfl,c,rfl,?_⟩;rw[<-hz];refine⟨_,_,rfl,rfl,(by show (0:Int)<2147483629;decide),_,rfl,_,_,rfl,rfl,.inl ⟨by decide,by decide⟩,_,_,rfl,rfl,_,_,rfl,rfl,by show 2<=sizeLine;decide,fun r w_=>?_⟩;exact q r _ (ai w_) w_ ⟨_,_,af,by split <;> lia,by lia,by lia⟩
  .intro N hN;refine⟨_,rfl,_,rfl,a,_,rfl,.inl hS,_,_,rfl,rfl,_,rfl,gm (fun e=>?_) (fun e=>hN _ _ ⟨rfl,0,rfl⟩)⟩;have BS:k<ns.length:=by have:=dE e;rw[aW] at this;lia
   exact⟨_,rfl,_,rfl,a,_,_,.int ns[k],rfl,rfl,hS,aB (by rw[bV,bH BS];rfl),hN _ _ ⟨rfl,_,rfl⟩⟩
theorem Gg:aP ["_law_pot_here","_law_many","_law_digit"] ["_law_pot_here","_law_many"] (ao Gc):=⟨rfl,rfl,rfl,by decide +kernel,rfl,by decide +kernel,by decide +kernel⟩
def fT:Sp:=fun vs H Q _=>∃ (p:Addr) (m:Nat),vs=[.ref p,.int m]/\0<m/\m<2 ^ 200/\aY H p/\∀ (d:Nat) (H':Hp),d<m->aL p H H'->aY H' p->Q (.int d) H'
theorem Jc(F:ii K "_law_take" "_law_take" Gc f fd)(B2:OE mg):bD P w K mg base bb 1 f fd ["_law_pot_here","_law_many"] fT:=by
 refine F.ok Gg (fun vs H Q E h=>?_) (fun eL A outer s H vs Q E hr h=>?_)
 .obtain⟨p,m,rfl,_⟩:=h;rfl
 .obtain⟨p,m',rfl,m0',m1',⟨a,b,hp,a0,b0,b1⟩,q'⟩:=h;generalize hm:((m':Nat):Int)=m;have m0:0<m:=by lia
  have m1:m<2 ^ 200:=by lia
  have q:∀ (d a b:Int) (H':Hp),0<=d->d<m->0<=a->0<=b->b<4294967296->aL p H H'->H' p=some (.lst [.int a,.int b])->Q (.int d) H':=fun d a b H' h1 h2 h3 h4 h5 h6 h7=>by
   have:=q' d.toNat H' (by lia) h6 ⟨a,b,h7,h3,h4,h5⟩;rw[mY h1] at this;exact this
  refine⟨_,(aj (df (aX Kj (ba aR (pv 0) ap (fun _ _=>rfl)) ap (be _)) (aj (dR (aE vZ (by rfl) B2.divmod PyProof.Rows.boot_divmod (aa (ba aR (pv 0) ap (fun _ _=>rfl)) (aa (pv 1) ag))) (dv (n:=2) rfl (aG (hG (pv 0) ap dY) (aG (az (i:=2) Gg.nd rfl (Or.inl rfl)) b9))))
    (aq (a9 (pv 2)))) bq)
   (aj (dR (aV hJ (aV cE (aV jW (ba aR (pv 0) ap (fun _ _=>rfl)) ap) ap) ap) (hG (pv 0) ap dY))
   (aq (a9 (aV hJ (aV Ge (aV hJ (aV jW (ba aR (pv 0) ap (fun _ _=>rfl)) (ba aR (pv 0) ap (fun _ _=>rfl))) ap) ap) (pv 1)))))),?_⟩
  have g0:wU [V.int a,V.int b] 0=some (.int a):=aB (j:=0) rfl;have g1:wU [V.int a,V.int b] 1=some (.int b):=aB (j:=1) rfl;refine⟨_,rfl,p,_,_,_,rfl,rfl,aZ.of hp,g0,_,_,rfl,rfl,_,rfl,?_⟩;refine gm (fun e=>?_) (fun e=>?_)
  .refine⟨_,rfl,p,_,_,_,rfl,rfl,aZ.of hp,g0,_,rfl,_,_,rfl,⟨m0,by lia⟩,fun t ht=>?_⟩;have npt:p≠t:=ak hp ht;refine⟨t,_,rfl,c_.of af,rfl,_,_,rfl,?_⟩;refine⟨_,rfl,p,_,0,0,rfl,rfl,by rw[am npt];exact hp,eQ (j:=0) (by show 0<2;decide),_,_,rfl,rfl,_,rfl,?_⟩;exact q _ _ _ _ (qv _ (by lia)) (qi _ m0) (Int.ediv_nonneg a0 (by lia)) b0 b1 (fun c o e n=>by rw[am n,am (ak e ht)];exact e) af
  .refine⟨_,rfl,p,_,_,_,rfl,rfl,aZ.of hp,g1,_,_,rfl,rfl,.inl ⟨by lia,by lia⟩,_,_,rfl,rfl,_,_,rfl,rfl,(by show (0:Int)<2147483647;decide),?_⟩;refine⟨_,rfl,p,_,1,1,rfl,rfl,hp,eQ (j:=1) (by show 1<2;decide),?_⟩;have c0:0<=(b*48271+12345) % 2147483647:=qv _ (by decide);have c1:(b*48271+12345) % 2147483647<2147483647:=qi _ (by decide);refine⟨_,rfl,p,_,_,_,rfl,rfl,aZ.of af,aB (j:=1) rfl,_,rfl,p,_,_,_,rfl,rfl,aZ.of af,aB (j:=1) rfl,_,_,rfl,rfl,.inl ⟨by lia,by lia⟩,_,_,rfl,rfl,(by show (0:Int)<2147483629;decide),_,_,rfl,rfl,⟨by decide,by decide⟩,_,rfl,_,_,rfl,rfl,m0,?_⟩;exact q _ _ _ _ (qv _ (by lia)) (qi _ m0) a0 c0 (by lia) aL.upd af
theorem yb:∀ {xs:List Nat} {k:Nat},(NV xs).eraseIdx k=NV (xs.eraseIdx k)
 |[],_=>rfl
 |x::xs,0=>rfl
 |x::xs,k+1=>congrArg (V.int (x:Nat)::·) (yb (xs:=xs) (k:=k))
theorem rN:∀ {ls:List Nat} {k:Nat} (hk:k<ls.length),(ls[k]::ls.eraseIdx k).Perm ls
 |x::xs,0,_=>ju _
 |x::xs,k+1,h=>(List.Perm.swap x _ _).trans ((rN (ls:=xs) (k:=k) (by simpa using h)).cons x)
theorem Gh{xs ls:List Nat}{k v:Nat}{r:List Nat}(p:(xs++ls).Perm r)(h:ls[k]?=some v):(xs++[v]++ls.eraseIdx k).Perm r:=by
 refine List.Perm.trans ?_ p;rw[gv];refine uE _ ?_;obtain⟨hk,e⟩:=cJ.mp h;subst e;exact rN hk
theorem MY:aP ["_law_pot_here"] ["_law_pot_here"] (ao Gd):=⟨rfl,rfl,rfl,by decide +kernel,rfl,by decide +kernel,by decide +kernel⟩
def AT:Sp:=fun vs H Q _=>∃ (p:Addr),vs=[.ref p]/\aY H p/\∀ (d:Nat) (H':Hp),d<10 ^ 18->aL p H H'->aY H' p->Q (.int d) H'
theorem Jd(F:ii K "_law_beat" "_law_beat" Gd f fd)(D:dI P w K mg base bb 1 "_law_take" ["_law_pot_here","_law_many"] fT):bD P w K mg base bb 2 f fd ["_law_pot_here"] AT:=by
 refine F.ok MY (fun vs H Q E h=>?_) (fun eL A outer s H vs Q E hr h=>?_)
 .obtain⟨p,rfl,_⟩:=h;rfl
 .obtain⟨p,rfl,hp,q⟩:=h;refine⟨_,(aq (a9 (ba aR (ce (aa (aI D hr aH (aa (pv 0) (aa ap ag))) (aa (aI D hr aH (aa (pv 0) (aa (aV zN ap ap) ag))) ag))) (aI D hr aH (aa (pv 0) (aa ap ag))) (fun _ _=>rfl)))),?_⟩;refine⟨_,rfl,p,40,rfl,by decide,by decide,hp,fun d1 H1 hd1 s1 lR=>⟨_,rfl,_,_,rfl,rfl,⟨by decide,by decide,by decide⟩,p,10 ^ 18,rfl,by decide,by decide,lR,fun d2 H2 TZ s2 xI=>⟨by show 2<=sizeLine;decide,fun l hl=>?_⟩⟩⟩;have sl:=ai (o:=.lst [.int (d1:Int),.int (d2:Int)]) hl;refine⟨_,rfl,p,2,rfl,by decide,by decide,xI.same sl,fun d3 H3 Ra s3 mE=>?_⟩;have s4:=((s1.trans s2).trans (aL.of sl)).trans s3;have Zv:=s3 _ _ (af (H:=H2) (a:=l) (o:=.lst [.int (d1:Int),.int (d2:Int)])) (xI.ne hl);rcases(show d3=0\/d3=1 by lia) with rfl|rfl
  .exact⟨l,_,_,_,rfl,rfl,aZ.of Zv,aB (j:=0) rfl,q d1 H3 (by lia) s4 mE⟩
  .exact⟨l,_,_,_,rfl,rfl,aZ.of Zv,aB (j:=1) rfl,q d2 H3 TZ s4 mE⟩
end
end pZ
namespace jn
theorem rA.zero(Tr:rA n (List.range n) k ts)(hk:k<=n)(h:k<=x):eN ts (ci x)=0:=by
 unfold eN;rw[qc.mpr];· rfl
 intro t ht z;obtain⟨a,b,ha,hb,rfl⟩:=Tr.ends t ht;rw[List.take_range,zz hk] at ha;have:=bP.mp ha;have:=dF (dE z);lia
def ren(xs:List Nat)(t:Int×Int):Int×Int:=(ci (xs.getD t.1.toNat 0),ci (xs.getD t.2.toNat 0))
theorem rO{n:Nat}{xs:List Nat}(pm:xs.Perm (List.range n)){a b:Nat}(ha:a<n)(hb:b<n)(e:xs.getD a 0=xs.getD b 0):a=b:=by
 have xl:xs.length=n:=by have:=pm.length_eq;rwa [cK] at this
 rw[cA (by lia),cA (by lia)] at e;exact iW (pm.nodup_iff.mpr i8) (by lia) (by lia) e
theorem KY{n:Nat}{xs:List Nat}(pm:xs.Perm (List.range n)){a:Nat}(ha:a<n):xs.getD a 0<n:=by
 have xl:xs.length=n:=by have:=pm.length_eq;rwa [cK] at this
 exact bP.mp (pm.mem_iff.mp (kD (by lia)))
theorem Gi{n:Nat}{xs:List Nat}(pm:xs.Perm (List.range n)){b:Nat}(hb:b<n):∃a,a<n/\xs.getD a 0=b:=by
 have xl:xs.length=n:=by have:=pm.length_eq;rwa [cK] at this
 obtain⟨a,ha,e⟩:=lW.mp (pm.mem_iff.mpr (bP.mpr hb));exact⟨a,by lia,by rw[cA ha];exact e⟩
theorem Rb(h:T ts a b):T (ts.map (ren xs)) (xs.getD a 0) (xs.getD b 0):=bh.mpr ⟨_,h,rfl⟩
theorem yc:∀ {k b:Nat},d8 ts k a b->d8 (ts.map (ren xs)) k (xs.getD a 0) (xs.getD b 0)
 |0,b,h=>congrArg (fun x=>xs.getD x 0) (show a=b from h)
 |k+1,b,⟨c,w,t⟩=>⟨_,yc w,Rb t⟩
theorem d_:∀ {l:List α},(∀x∈l,c (f x)=d x)->((l.map f).filter c).length=(l.filter d).length
 |[],_=>rfl
 |x::l,h=>by
  rw[ff,eE,eE,h x bp];have ih:=d_ (l:=l) fun y hy=>h y (cW _ hy);split <;> simp[ih]
theorem bS.ren{n:Nat}{ts:Ts}{xs:List Nat}(F:bS n ts)(pm:xs.Perm (List.range n)):bS n (ts.map (ren xs)):=by
 have KZ:∀t∈ts,∃a b:Nat,a<n/\b<n/\t=(ci a,ci b):=fun t ht=>by
  obtain⟨⟨a0,a1⟩,⟨b0,b1⟩⟩:=F.rg t ht;exact⟨t.1.toNat,t.2.toNat,by lia,by lia,g9 (mY a0).symm (mY b0).symm⟩
 have c1:∀h:Int,(∃a,a<n/\h=ci (xs.getD a 0))\/∀a,a<n->ci (xs.getD a 0)≠h:=fun h=>by
  by_cases z:∃a,a<n/\h=ci (xs.getD a 0)
  .exact .inl z
  .exact .inr fun a ha e=>z ⟨a,ha,e.symm⟩
 have cf:∀h:Int,((ts.map (jn.ren xs)).filter fun t=>decide (t.1=h)).length=((ts.map (jn.ren xs)).filter fun t=>decide (t.2=h)).length/\((ts.map (jn.ren xs)).filter fun t=>decide (t.1=h)).length<=8:=fun h=>by
  rcases c1 h with ⟨a,ha,rfl⟩|no
  .rw[d_ (d:=fun t=>decide (t.1=ci a)) fun t ht=>?_,d_ (d:=fun t=>decide (t.2=ci a)) fun t ht=>?_]
   .exact⟨F.DC _,F.most _⟩
   .obtain⟨x,y,hx,hy,rfl⟩:=KZ t ht;exact zn.mpr ⟨fun e=>congrArg ci (rO pm hy ha (dF e)),fun e=>by have:=dF e;show ci (xs.getD y 0)=_;rw[this]⟩
   .obtain⟨x,y,hx,hy,rfl⟩:=KZ t ht;exact zn.mpr ⟨fun e=>congrArg ci (rO pm hx ha (dF e)),fun e=>by have:=dF e;show ci (xs.getD x 0)=_;rw[this]⟩
  .rw[d_ (d:=fun _=>false) fun t ht=>?_,d_ (d:=fun _=>false) fun t ht=>?_]
   .have z:ts.filter (fun _=>false)=[]:=qc.mpr fun x _ q=>nomatch q;rw[z];exact⟨rfl,bT _⟩
   .obtain⟨x,y,hx,hy,rfl⟩:=KZ t ht;exact fc (no y hy)
   .obtain⟨x,y,hx,hy,rfl⟩:=KZ t ht;exact fc (no x hx)
 refine⟨F.n1,F.n2,?_,fun t ht=>?_,fun t ht=>?_,fun h=>(cf h).1,fun h=>(cf h).2,fun a b ha hb=>?_⟩
 .refine(f9.mpr (F.nd.imp_of_mem fun {t u} ht hu ne e=>ne ?_));obtain⟨x,y,hx,hy,rfl⟩:=KZ t ht;obtain⟨x',y',o5,TQ,rfl⟩:=KZ u hu;have e1:x=x':=rO pm hx o5 (dF (congrArg Prod.fst e));have e2:y=y':=rO pm hy TQ (dF (congrArg Prod.snd e));rw[e1,e2]
 .obtain⟨u,hu,rfl⟩:=bh.mp ht;obtain⟨x,y,hx,hy,rfl⟩:=KZ u hu;have:=KY pm hx;have:=KY pm hy;exact⟨⟨by show (0:Int)<=ci _;lia,by show ci (xs.getD x 0)<_;lia⟩,⟨by show (0:Int)<=ci _;lia,by show ci (xs.getD y 0)<_;lia⟩⟩
 .obtain⟨u,hu,rfl⟩:=bh.mp ht;have:=F.ne u hu;obtain⟨x,y,hx,hy,rfl⟩:=KZ u hu;intro e;exact this (congrArg ci (rO pm hx hy (dF e)))
 .obtain⟨a',LR,rfl⟩:=Gi pm ha;obtain⟨b',sM,rfl⟩:=Gi pm hb;obtain⟨k,w⟩:=F.con a' b' LR sM;exact⟨k,yc w⟩
theorem Gj:∀ {xs:List α},(xs.flatMap fun x=>f x++g x).Perm (xs.flatMap f++xs.flatMap g)
 |[]=>.refl _
 |x::xs=>by
  rw[lh,lh,lh,gv,gv];refine uE _ (((Gj (xs:=xs)).append_left _).trans ?_);rw[<-gv,<-gv];exact List.Perm.append_right _ lV
theorem v3{α β γ:Type}{f:α->β->List γ}{ys:List β}:∀ {xs:List α},(xs.flatMap fun x=>ys.flatMap (f x)).Perm (ys.flatMap fun y=>xs.flatMap fun x=>f x y)
 |[]=>by
  rw[List.flatMap_nil,List.flatMap_eq_nil_iff.mpr fun y _=>List.flatMap_nil]
 |x::xs=>by
  rw[lh];refine((v3 (xs:=xs)).append_left _).trans ?_;refine(Gj (xs:=ys)).symm.trans (jJ ?_);exact congrArg (fun g=>ys.flatMap g) (funext fun y=>(lh (f:=fun x=>f x y)).symm)
theorem ug:∀ {l:List α},(l.filter c).map f=l.flatMap fun x=>if c x=true then [f x] else []
 |[]=>rfl
 |x::l=>by
  rw[eE,lh,<-ug (l:=l)];by_cases h:c x=true
  .rw[av h,av h];rfl
  .rw[au h,au h];rfl
def yd(ns:List Nat)(i h:Nat):List (Nat×Nat):=(List.range i).flatMap fun j=>if h / pr (ns.take j) % ns.getD j 0+1<ns.getD j 0 then [(h,h+pr (ns.take j))] else []
theorem Gk{m:Nat}{ns:List Nat}:((List.range m).flatMap (yd ns ns.length)).Perm ((List.range ns.length).flatMap fun j=>Ca m (pr (ns.take j)) (ns.getD j 0)):=by
 refine(v3 (f:=fun h j=>if h / pr (ns.take j) % ns.getD j 0+1<ns.getD j 0 then [(h,h+pr (ns.take j))] else [])).trans (jJ ?_);refine congrArg (fun f=>(List.range ns.length).flatMap f) (funext fun j=>?_);unfold Ca;rw[ug];refine congrArg (fun f=>(List.range m).flatMap f) (funext fun h=>?_);simp
def Je(b i h:Nat):List (Nat×Nat):=(List.range (b-h / b ^ i % b-1)).map fun k=>(h,h+(k+1)*b ^ i)
def DS(b i h:Nat):List (Nat×Nat):=(List.range i).flatMap fun j=>Je b j h
theorem Gm{f b:Nat}:((List.range (b ^ f)).flatMap (DS b f)).Perm (rC f b):=v3 (f:=fun h j=>Je b j h)
theorem j5(h:ps.Perm qs):(di ps).Perm (di qs):=by
 unfold di;exact List.Perm.flatMap_right _ h
theorem DT(n1:3<=n)(n2:n<=32):bS n (di (lM (List.range n))):=(ya n1 n2 (ju _)).perm (j5 kK)
end jn
namespace pZ
open PySem L2 jn
theorem mG:∀ {k:Nat},(List.replicate k [x]).flatten=List.replicate k x
 |0=>rfl
 |k+1=>by rw[k_,qm,mG,k_];rfl
theorem Go{A B:Prop}{b:Bool}(hb:b=true)(h:A):if b=true then A else B:=by rw[av hb];exact h
theorem ye{A B:Prop}{b:Bool}(hb:b=false)(h:B):if b=true then A else B:=by rw[au (by rw[hb];decide)];exact h
def mH(H:Hp)(D:Addr)(ts:Ts)(H2:Hp):Prop:=aK H H2/\∃zs:Zs,H2 D=some (.lst (zr zs))/\PO H2 zs/\zp zs=ts
theorem Jf(c:Nat->Bool)(bW:St->Prop)(hD:H0 D=none)(hn:n<=1000)(h0:bW σB)(hs:∀x σ H (Kt:V->St->Hp->Prop) (Kf:St->Hp->Prop),x<n->bW σ->aK H0 H->(∀σ2 H2,bW σ2->aK H H2->c x=true->Kt (.int (lo+(x:Nat))) σ2 H2)->(∀σ2 H2,bW σ2->aK H H2->c x=false->Kf σ2 H2)->
   g (.int (lo+(x:Nat))) σ H fun σ2 H2=>tt σ2 H2 fun b H3=>if b=true then te σ2 H3 fun v H4=>Kt v σ2 H4 else Kf σ2 H3)(hd:∀H,aK H0 H->H D=some (.lst (((List.range n).filter c).map fun (x:Nat)=>V.int (lo+(x:Int))))->fin H):gC (Eb lo n) g tt te D fin σB (upd H0 D (.lst [])):=by
 refine eT (fun i ys σ H=>bW σ/\aK H0 H/\H D=some (.lst ys)/\ys=((List.range i).filter c).map fun (x:Nat)=>V.int (lo+(x:Int))) ⟨h0,ai hD,af,rfl⟩ ?_ ?_
 .rintro i ys σ H Kt Kf hi ⟨sh,sm,iX,rfl⟩ kt kf;refine hs i σ H Kt Kf hi sh sm (fun σ2 H2 vQ s2 e=>?_) (fun σ2 H2 vQ s2 e=>?_)
  .refine kt _ _ _ (s2 _ _ iX) ?_ ⟨vQ,bK (sm.trans s2) hD,af,?_⟩
   .rw[aW];refine eU (ot _ _) ?_;rw[cK];exact bn (show i<1000 by lia) (by decide)
   .rw[i_,iO,cY];simp[eE,e]
  .refine kf _ _ ⟨vQ,sm.trans s2,s2 _ _ iX,?_⟩;rw[i_,iO];simp[eE,e]
 .rintro ys σ H ⟨_,sm,iX,rfl⟩;exact hd H sm iX
theorem oh:∀ {xs:List Nat} {j x:Nat},(NV xs).set j (.int (x:Int))=NV (xs.set j x)
 |[],_,_=>rfl
 |y::ys,0,x=>rfl
 |y::ys,j+1,x=>congrArg (V.int (y:Int)::·) (oh (xs:=ys) (j:=j) (x:=x))
theorem iZ(h:j<xs.length):(NV xs)[j]?=some (.int ((xs.getD j 0:Nat):Int)):=by
 unfold NV;rw[bV,b_,bH h];rfl
def dD(n:Nat)(ps:Ts):List Nat:=(List.range n).map fun (h:Nat)=>eN (di ps) (ci h)
theorem gh:(dD n ps).length=n:=by unfold dD;rw[aW,cK]
theorem i6(hh:h<n):(dD n ps).getD h 0=eN (di ps) (ci h):=by
 unfold dD;rw[b_,bV,gu hh];rfl
theorem yf(ha:a<n)(hb:b<n)(pq:a≠b):((dD n ps).set a (eN (di ps) (ci a)+1)).set b (eN (di ps) (ci b)+1)=dD n (ps++[(ci a,ci b)]):=by
 have ne:∀x y:Nat,ci x=ci y->x=y:=fun x y e=>dF e;refine lX fun i=>?_;by_cases hi:i<n
 .have g:∀qs:Ts,(dD n qs)[i]?=some (eN (di qs) (ci i)):=fun qs=>by unfold dD;rw[bV,gu hi];rfl
  rw[g,Co,zj,zj,g,kQ,gh];by_cases c1:b=i
  .subst c1;rw[av rfl,av hb,au (fun z=>pq (ne _ _ z)),av rfl,gk]
  .rw[au c1,au (fun z=>c1 (ne _ _ z))];by_cases c2:a=i
   .subst c2;rw[av rfl,av ha,av rfl]
   .rw[au c2,au (fun z=>c2 (ne _ _ z))];rfl
 .rw[fX (by rw[kQ,kQ,gh];lia),fX (by rw[gh];lia)]
theorem Gp:List.replicate n (V.int 0)=NV (dD n []):=by
 refine lX fun i=>?_;unfold NV dD;rw[cQ,uz,bV];by_cases hi:i<n
 .rw[av hi,gu hi];rfl
 .rw[au hi,fX (by rw[cK];lia)];rfl
theorem Gq(Pv:Nat->List V->St->Hp->Prop)(h0:Pv 0 [] σB H0)(hl:∀i ys σ H,i<=xs.length->Pv i ys σ H->c_ K H a xs)(hs:∀i x ys σ H (Kt:V->St->Hp->Prop) (Kf:St->Hp->Prop),xs[i]?=some x->Pv i ys σ H->
   (∀v σ2 H4,H4 D=some (.lst ys)->ys.length<sizeLine->Pv (i+1) (ys++[v]) σ2 (upd H4 D (.lst (ys++[v])))->Kt v σ2 H4)->(∀σ2 H3,Pv (i+1) ys σ2 H3->Kf σ2 H3)->
   g x σ H fun σ2 H2=>tt σ2 H2 fun b H3=>if b=true then te σ2 H3 fun v H4=>Kt v σ2 H4 else Kf σ2 H3)(hd:∀ys σ H,Pv xs.length ys σ H->fin H):gC (UJ K a) g tt te D fin σB H0:=by
 refine⟨fun i m σ H=>m=xs.length-i/\i<=xs.length/\∃ys,Pv i ys σ H,⟨xs.length,by simp,bT _,[],h0⟩,?_⟩;rintro i m σ H ⟨rfl,hi,ys,p⟩;have q:=hl i ys σ H hi p;by_cases dG:i<xs.length
 .refine .inr ⟨⟨xs,xs[i],q,by simp[dG]⟩,?_⟩;rintro x H' ⟨rfl,y⟩;exact hs i x ys σ _ (fun v σ2 H4=>∃ys,H4 D=some (.lst ys)/\ys.length<sizeLine/\∃m',m'<xs.length-i/\m'=xs.length-(i+1)/\i+1<=xs.length/\∃sO,Pv (i+1) sO σ2 (upd H4 D (.lst (ys++[v]))))
   (fun σ2 H3=>∃m',m'<xs.length-i/\m'=xs.length-(i+1)/\i+1<=xs.length/\∃sO,Pv (i+1) sO σ2 H3) (y xs q) p
   (fun v σ2 H4 z1 z2 z3=>⟨ys,z1,z2,_,by lia,rfl,dG,_,z3⟩) (fun σ2 H3 z=>⟨_,by lia,rfl,dG,_,z⟩)
 .have e:i=xs.length:=by lia
  subst e;exact .inl ⟨⟨xs,q,aN _⟩,hd ys σ H p⟩
theorem Jg(c:Int×Int->Bool)(bW:St->Prop)(ha:H0 a=some (.lst (zr zs)))(hD:H0 D=none)(hn:zs.length<=1000)(h0:bW σB)(hs:∀z σ H (Kt:V->St->Hp->Prop) (Kf:St->Hp->Prop),z∈zs->bW σ->aK H0 H->(∀σ2 H2,bW σ2->aK H H2->c z.2=true->Kt (.ref z.1) σ2 H2)->(∀σ2 H2,bW σ2->aK H H2->c z.2=false->Kf σ2 H2)->
   g (.ref z.1) σ H fun σ2 H2=>tt σ2 H2 fun b H3=>if b=true then te σ2 H3 fun v H4=>Kt v σ2 H4 else Kf σ2 H3)(hd:∀H,aK H0 H->H D=some (.lst (zr (zs.filter fun z=>c z.2)))->fin H):gC (EG K a) g tt te D fin σB (upd H0 D (.lst [])):=by
 refine eY (xs:=zr zs) (fun i ys σ H=>bW σ/\aK H0 H/\H D=some (.lst ys)/\ys=zr ((zs.take i).filter fun z=>c z.2)) ⟨h0,ai hD,af,rfl⟩ (fun i ys σ H _ z=>aZ.of (z.2.1 _ _ ha)) ?_ ?_
 .rintro i x ys σ H Kt Kf hx ⟨sh,sm,iX,rfl⟩ kt kf;obtain⟨z,hz,rfl⟩:=rD hx;have hi:i<zs.length:=(cJ.mp hz).1;have tk:zs.take (i+1)=zs.take i++[z]:=by rw[iP,hz];rfl
  refine hs z σ H Kt Kf (dj hz) sh sm (fun σ2 H2 vQ s2 e=>?_) (fun σ2 H2 vQ s2 e=>?_)
  .refine kt _ _ _ (s2 _ _ iX) ?_ ⟨vQ,bK (sm.trans s2) hD,af,?_⟩
   .rw[dz];exact eU (ot _ _) (eU (List.length_take_le _ _) (bn (show i<1000 by lia) (by decide)))
   .rw[tk,iO,eA];simp[eE,e,zr]
  .refine kf _ _ ⟨vQ,sm.trans s2,s2 _ _ iX,?_⟩;rw[tk,iO];simp[eE,e]
 .rintro ys σ H ⟨_,sm,iX,rfl⟩;rw[dz,jG] at iX;exact hd H sm iX
theorem DU:zp (zs.filter fun z=>c z.2)=(zp zs).filter c:=by
 unfold zp;rw[nj];rfl
theorem sW:(zr (zs.filter fun z=>c z.2)).length=((zp zs).filter c).length:=by rw[dz,<-bu,DU]
section
variable {K:PySem.W.Frag}
theorem Gr(po:PO H zs):zs.length=(zp zs).length/\∀i,i<(zp zs).length->c_ K H ((zs.map (·.1)).getD i 0) [.int ((zp zs).getD i (0,0)).1,.int ((zp zs).getD i (0,0)).2]:=by
 refine⟨bu.symm,fun i hi=>?_⟩;rw[bu] at hi;rw[xT hi,Cf hi];exact c_.of (po _ (eX hi))
end
theorem dA:(List.range (n+1)).flatMap f=(List.range n).flatMap f++f n:=by
 rw[i_,List.flatMap_append];simp
theorem p7:∀ {ns:List Nat} {x:Nat},pr (ns++[x])=pr ns*x
 |[],x=>by show x*1=1*x;lia
 |n::ns,x=>by show n*pr (ns++[x])=n*pr ns*x;rw[p7,Nat.mul_assoc]
theorem Gs:∀ {ns:List Nat} {st:Nat},bx m st ns=(List.range ns.length).flatMap fun j=>Ca m (st*pr (ns.take j)) (ns.getD j 0)
 |[],st=>rfl
 |n::ns,st=>by
  show Ca m st n++bx m (st*n) ns=_;rw[dS,mU,lh,Gs (ns:=ns)];congr 1
  .show Ca m st n=Ca m (st*1) n;rw[u7]
  .rw[List.flatMap_map];congr 1;funext j;show _=Ca m (st*(n*pr (ns.take j))) (ns.getD j 0);rw[Nat.mul_assoc]
theorem nV{α:Type}{g:Nat->List α}{M:Nat}(hg:∀x,(g x).length<=M):∀ {m:Nat},((List.range m).flatMap g).length<=m*M
 |0=>bT _
 |m+1=>by rw[dA,cp,Nat.succ_mul];have:=hg m;have:=nV hg (m:=m);lia
theorem ic:∀ {ns:List Nat} {i:Nat},(∀x∈ns,1<=x)->pr (ns.take i)<=pr ns
 |[],i,_=>by rw[List.take_nil];exact aN _
 |n::ns,0,h=>by
  show 1<=n*pr ns;have:∀ {l:List Nat},(∀x∈l,1<=x)->1<=pr l:=fun {l}=>by
   induction l with
   |nil=>intro _;exact aN _
   |cons x l ih=>intro hl;exact qC (hl x bp) (ih fun y hy=>hl y (cW _ hy))
  exact this (l:=n::ns) h
 |n::ns,i+1,h=>by
  show n*pr (ns.take i)<=n*pr ns;exact qg n (ic fun x hx=>h x (cW _ hx))
theorem mH.ext(hD:H D=none)(sm:aK H H2)(h1:H2 D=some (.lst (zr wA)))(AU:PO H2 wA)(ez:zp wA=ts)(s3:aK H2 H3)(po:PO H3 zs)(e:zp zs=us):mH H D (ts++us) (upd H3 D (.lst (zr wA++zr zs))):=
 ⟨bK (sm.trans s3) hD,wA++zs,by rw[af,eA],PO.putL (xs:=zr wA) ((AU.same s3).append po) (s3 _ _ h1),by rw[eC,ez,e]⟩
theorem Gu{xs:List V}{k:Nat}:ji xs none (some (k:Int))=xs.take k:=by
 have h1:HT.su xs.length 0 none=0:=rfl;have h2:HT.su xs.length xs.length (some (k:Int))=min k xs.length:=by
  unfold HT.su;simp;try lia
 unfold ji;rw[h1,h2,zE,uY,List.take_eq_take_iff];simp;try lia
theorem yg{xs:List V}{k:Nat}:ji xs (some (k:Int)) none=xs.drop k:=by
 have h1:HT.su xs.length 0 (some (k:Int))=min k xs.length:=by
  unfold HT.su;simp;try lia
 have h2:HT.su xs.length xs.length none=xs.length:=rfl;unfold ji;rw[h1,h2];by_cases c:k<=xs.length
 .rw[zz c];exact mT (by rw[lj];exact aN _)
 .rw[Nat.min_eq_right (by lia),List.drop_of_length_le (aN _),List.drop_of_length_le (by lia),List.take_nil]
theorem v4(ms:List β)(e G:β->V)(bW:St->Prop)(ha:H0 a=some (.lst (ms.map e)))(hD:H0 D=none)(hn:ms.length<=1000)(h0:bW σB)(hs:∀m σ H (R:V->St->Hp->Prop) (Kf:St->Hp->Prop),m∈ms->bW σ->aK H0 H->(∀σ2 H2,bW σ2->aK H H2->R (G m) σ2 H2)->
   g (e m) σ H fun σ2 H2=>tt σ2 H2 fun b H3=>if b=true then te σ2 H3 fun v H4=>R v σ2 H4 else Kf σ2 H3)(hd:∀H,aK H0 H->H D=some (.lst (ms.map G))->fin H):gC (EG K a) g tt te D fin σB (upd H0 D (.lst [])):=by
 refine eY (xs:=ms.map e) (fun i ys σ H=>bW σ/\aK H0 H/\H D=some (.lst ys)/\ys=(ms.take i).map G) ⟨h0,ai hD,af,rfl⟩ (fun i ys σ H _ z=>aZ.of (z.2.1 _ _ ha)) ?_ ?_
 .rintro i x ys σ H Kt Kf hx ⟨sh,sm,iX,rfl⟩ kt kf;rw[bV] at hx;cases hz:ms[i]? with
  |none=>rw[hz] at hx;cases hx
  |some m=>
   rw[hz] at hx;obtain rfl:e m=x:=bN hx;refine hs m σ H Kt Kf (dj hz) sh sm (fun σ2 H2 vQ s2=>?_);refine kt _ _ _ (s2 _ _ iX) ?_ ⟨vQ,bK (sm.trans s2) hD,af,?_⟩
   .rw[aW];exact eU (List.length_take_le' _ _) (eU hn (by decide))
   .rw[iP,hz,zd,cY];rfl
 .rintro ys σ H ⟨_,sm,iX,rfl⟩;rw[aW,jG] at iX;exact hd H sm iX
abbrev Gv:Stmt:=top 36
abbrev Gw:Stmt:=top 39
theorem DV:(["_law_k","_law_many"]:List Str).Nodup:=by decide +kernel
theorem oj:(["_law_house","_law_degrees"]:List Str).Nodup:=by decide +kernel
section
variable {P:Program} {w:World} {K:PySem.W.Frag} {mg:Str->Option Value} {base:Heap}
theorem MZ:aP ["_law_many"] ["_law_many"] (ao Gv):=⟨rfl,rfl,rfl,by decide +kernel,rfl,by decide +kernel,by decide +kernel⟩
def v5:Sp:=fun vs H Q _=>∃n:Nat,vs=[.int n]/\2<=n/\n<=32/\∀ (r:Addr) (zs:Zs) (H':Hp),aK H H'->H r=none->H' r=some (.lst (zr zs))->PO H' zs->zp zs=lM (List.range n)->Q (.ref r) H'
theorem Jh(F:ii K "_law_ring" "_law_ring" Gv f fd)(B:Bl mg):bD P w K mg base bb 1 f fd ["_law_many"] v5:=by
 refine F.ok MZ (fun vs H Q E h=>?_) (fun eL A outer s H vs Q E hr h=>?_)
 .obtain⟨n,rfl,_⟩:=h;rfl
 .obtain⟨n,rfl,n1,n2,q⟩:=h;refine'⟨_,(aq (a9 ?c1)),?_⟩;case c1=>
   refine' cI (g:=(bA 0)) (te:=(qL (bi (a_ 0) (bi (l6 (rI (fun _ j=>0<j) fun i j=>.int (i % j)) (l6 (zM fun i j=>.int (i+j)) (a_ 0) (tC (.int 1))) (a_ 1)) fz)))) (NB:=["_law_k","_law_many"]) (src:=[none,some 0]) (br (by kernel_rfl)) rfl (bv rfl B.range (aa (pv 0) ag)) ?g ?t ?e;case g=>exact fun cl C s₃ H₃ fp=>(az (i:=0) DV rfl (Or.inl rfl) (Or.inr rfl))
   case t=>exact fun cl C s₃ H₃ fp=>cV
   case e=>exact fun cl C s₃ H₃ fp=>(cG (aa (pv 0) (aa (aV hJ (aV cE (pv 0) ap) (pv 1)) ag)))
  refine⟨_,rfl,(n:Int),rfl,by lia,by lia,fun T0 M0=>?_⟩;refine xU (lo:=0) (n:=n) (fun k=>(ci k,ci ((k+1) % n))) (fun σ=>∃x,σ=[x,some (.int n)]) M0 (by lia) ⟨_,rfl⟩ ?_ ?_
  .rintro k σ H2 R Kf hk ⟨x,rfl⟩ KE kt;rw[g7];exact⟨_,rfl,_,rfl,_,_,rfl,rfl,_,rfl,_,_,rfl,rfl,(by show (0:Int)<(n:Int);lia),by show 2<=sizeLine;decide,fun t ht=>kt _ _ ⟨_,rfl⟩ ht⟩
  intro zs H2 s2 hT2 AU Ji _;refine q T0 zs H2 s2 M0 hT2 AU ?_;rw[Ji];unfold lM;rw[cK];refine jt fun k hk=>?_;have hk:=bP.mp hk;have BS:(k+1) % n<n:=jO _ (by lia);rw[b_,gu hk,b_,gu BS];rfl
theorem j6:aP ["_law_pot_here","_law_many","_law_more","_law_found","_law_degrees","_law_k","_law_some","_law_one","_law_other"] ["_law_pot_here","_law_many","_law_more"] (ao Gw):=⟨rfl,rfl,rfl,by decide +kernel,rfl,by decide +kernel,by decide +kernel⟩
def AV:Sp:=fun vs H Q _=>∃ (p:Addr) (n m:Nat),vs=[.ref p,.int n,.int m]/\2<=n/\n<=32/\m<=64/\aY H p/\∀ (r:Addr) (zs:Zs) (H':Hp),aL p H H'->aY H' p->H r=none->H' r=some (.lst (zr zs))->PO H' zs->bS n (di (zp zs))->Q (.ref r) H'
theorem Jj(F:ii K "_law_some_pairs" "_law_some_pairs" Gw f fd)(B:Bl mg)(D:dI P w K mg base bb 1 "_law_take" ["_law_pot_here","_law_many"] fT):bD P w K mg base bb 2 f fd ["_law_pot_here","_law_many","_law_more"] AV:=by
 refine F.ok j6 (fun vs H Q E h=>?_) (fun eL A outer s H vs Q E hr h=>?_)
 .obtain⟨p,n,m,rfl,_⟩:=h;rfl
 .obtain⟨p,n,m,rfl,n1,n2,m1,hp,q⟩:=h;refine'⟨_,(aj (dR (cG (aa (ce ag) (aa (aV zZ (ce (aa ap ag)) (pv 1)) ag))) (dv (n:=2) rfl (aG (az (i:=3) j6.nd rfl (Or.inl rfl)) (aG (az (i:=4) j6.nd rfl (Or.inr rfl)) b9))))
   (aj (dC eF rfl (nI rfl B.range (aa ap (aa (pv 1) ag))) (az (i:=5) j6.nd rfl (Or.inl rfl))
    (aj (fO (i:=6) (g:=(bA 0)) (tt:=(Bv (l6 (zM fun i j=>.bl (decide (i<j))) (l6 (EU K) (a_ 1) (a_ 0)) (tC (.int 7))))) (te:=(a_ 0)) (NB:=["_law_house","_law_degrees"]) (src:=[none,some 4]) (br (by kernel_rfl)) rfl (bv rfl B.range (aa (pv 5) ag)) ?g1 ?t1 ?e1 j6.nd rfl rfl rfl)
    (aj (aU (i:=7) j6.nd rfl (Or.inl rfl) (ba aR (pv 6) (aI D hr aH (aa (pv 0) (aa (aE aM (by rfl) B.len dN (aa (pv 6) ag)) ag))) (fun _ _=>rfl)))
    (aj (b8 (fK e_ iN iM cz (pv 3) (aa (cG (aa (pv 7) (aa (pv 5) ag))) ag)))
    (aq (dR (cG (aa (aV cE (ba aR (pv 4) (pv 7) (fun _ _=>rfl)) ap) (aa ap ag))) (dv (n:=2) rfl (aG (hG (pv 4) (pv 7) dY) (aG (hG (pv 4) (pv 5) dY) b9)))))))))
   (aj (dC eF rfl (bv rfl B.range (aa (pv 2) ag)) (az (i:=5) j6.nd rfl (Or.inl rfl))
    (aj (zI (i:=7) (j:=8) rfl j6.nd rfl rfl (by decide) rfl rfl (aa (aI D hr aH (aa (pv 0) (aa (pv 1) ag))) (aa (aI D hr aH (aa (pv 0) (aa (pv 1) ag))) ag)) (by rfl))
    (aq (df (PW.pt (zH (aX tH (pv 7) (pv 8) (be _)) (vc (aX oy (aE (ky rfl) (by rfl) B.max qe (aa (ba aR (pv 4) (pv 7) (fun _ _=>rfl)) (aa (ba aR (pv 4) (pv 8) (fun _ _=>rfl)) ag))) ap (be _))))) (aq (df (PW.pt (zH (aX (n9 hr.u) (cG (aa (pv 7) (aa (pv 8) ag))) (pv 3) rfl) (vc (aX (n9 hr.u) (cG (aa (pv 8) (aa (pv 7) ag))) (pv 3) rfl)))) (aj (b8 (fK e_ iN iM cz (pv 3) (aa (cG (aa (pv 7) (aa (pv 8) ag))) ag)))
      (aj (dR (aV cE (ba aR (pv 4) (pv 7) (fun _ _=>rfl)) ap) (hG (pv 4) (pv 7) dY))
      (aq (dR (aV cE (ba aR (pv 4) (pv 8) (fun _ _=>rfl)) ap) (hG (pv 4) (pv 8) dY))))) bq)) bq))))
   (aq (a9 (pv 3)))))),?_⟩
  case g1=>exact fun cl C s₃ H₃ fp=>(az (i:=0) oj rfl (Or.inl rfl) (Or.inr rfl))
  case t1=>exact fun cl C s₃ H₃ fp=>jj (aX oy (ba aR (pv 1) (pv 0) (fun _ _=>rfl)) ap (be _))
  case e1=>exact fun cl C s₃ H₃ fp=>(pv 0)
  refine⟨by show 0<=sizeLine;decide,fun Pr Rc=>⟨by show 1<=sizeLine;decide,fun L1 wB=>⟨_,rfl,L1,_,_,rfl,rfl,af,by lia,by lia,by rw[f_,p_];exact a8 (show 1*n<=32 by lia) (by decide),fun M hM=>?_⟩⟩⟩;rw[f_,mG,Gp];refine⟨by show 2<=sizeLine;decide,fun T0 M0=>⟨T0,_,rfl,c_.of af,rfl,_,_,rfl,_,_,rfl,rfl,?_⟩⟩;have sP:=ai (o:=.lst []) Rc;have s1:=sP.trans (ai (o:=.lst [.int 0]) wB);have s3:=ai (o:=.tup [.ref Pr,.ref M]) M0;have s2:=(s1.trans (ai (o:=.lst (NV (dD n []))) hM)).trans s3;have gP:=s3 _ _ (ai (o:=.lst (NV (dD n []))) hM _ _ (ai (o:=.lst [.int 0]) wB _ _ (af (H:=H) (a:=Pr) (o:=.lst (zr [])))));have gM:=s3 _ _ (af (H:=upd (upd H Pr (.lst [])) L1 (.lst [.int 0])) (a:=M) (o:=.lst (NV (dD n []))));have T4:Pr≠M:=ak (ai wB _ _ af) hM;have OF:H M=none:=s1.free hM;have Re:Pr≠p:=hp.ne Rc;have Hy:M≠p:=hp.ne OF;generalize upd (upd (upd (upd H Pr _) L1 _) M _) T0 _=H0 at *;refine⟨_,rfl,1,(n:Int),rfl,⟨by decide,by decide,by lia,by lia⟩,?_⟩;rw[show ((n:Int)-1).toNat=n-1 by lia];refine dh (lo:=1) (n:=n-1) (fun i σ Hc=>∃zs:Zs,(∃a b c d,σ=[some (.ref p),some (.int n),some (.int m),some (.ref Pr),some (.ref M),a,b,c,d])/\aL p H Hc/\aY Hc p/\Hc Pr=some (.lst (zr zs))/\PO Hc zs/\Hc M=some (.lst (NV (dD n (zp zs))))/\rA n (List.range n) (i+1) (di (zp zs))/\eN (di (zp zs)) (ci i)<=1)
   ⟨[],⟨none,none,none,none,rfl⟩,aL.of s2,hp.same s2,gP,PO.nil,gM,rA.start (by rw[cK];lia),bT _⟩ ?_ ?_
  .rintro i σ Hc hi ⟨zs,⟨a,b,c,d',rfl⟩,sc,lN,Jk,po,AW,Tr,dg⟩;have e1:(1:Int)+(i:Int)=((i+1:Nat):Int):=by lia
   rw[e1];have T5:zs.length=i:=by have:=Tr.len;rw[pX,bu] at this;lia
   refine⟨_,rfl,((i+1:Nat):Int),rfl,by lia,by lia,fun D1 AO=>?_⟩;rw[show (((i+1:Nat):Int)).toNat=i+1 from rfl];refine Jf (lo:=0) (n:=i+1) (fun x=>decide (eN (di (zp zs)) (ci x)<7)) (fun σ=>∃a,σ=[a,some (.ref M)]) AO (by lia) ⟨_,rfl⟩ ?_ ?_
   .rintro x σ H4 Kt Kf hx ⟨a',rfl⟩ vX kt kf;rw[g7] at kt |-;have o5:x<(dD n (zp zs)).length:=by rw[gh];lia
    refine⟨_,rfl,_,rfl,M,_,_,_,rfl,rfl,aZ.of (vX _ _ AW),aB (iZ o5),_,_,rfl,rfl,_,rfl,?_⟩;have ed:=i6 (ps:=zp zs) (show x<n by lia);refine gm (fun e=>?_) (fun e=>?_)
    .exact⟨_,rfl,kt _ _ ⟨_,rfl⟩ (aK.refl _) (iu (by have:=dE e;lia))⟩
    .exact kf _ _ ⟨_,rfl⟩ (aK.refl _) (fc (fun z=>e (iu (by lia))))
   .intro H4 vX El;have e0:((((List.range (i+1)).filter fun x=>decide (eN (di (zp zs)) (ci x)<7)).map fun (x:Nat)=>V.int (0+(x:Int))))=NV ((List.range (i+1)).filter fun x=>decide (eN (di (zp zs)) (ci x)<7)):=jt fun x _=>by rw[g7]
    rw[e0] at El;have ne:0<((List.range (i+1)).filter fun x=>decide (eN (di (zp zs)) (ci x)<7)).length:=uA (fE.mpr ⟨bP.mpr (i7 i),iu (show eN (di (zp zs)) (ci i)<7 by lia)⟩);have le:((List.range (i+1)).filter fun x=>decide (eN (di (zp zs)) (ci x)<7)).length<=i+1:=a8 (ot _ _) (by rw[cK];exact aN _);generalize hfs:(List.range (i+1)).filter (fun x=>decide (eN (di (zp zs)) (ci x)<7))=fs at *;have oY:=lN.same vX;refine⟨_,rfl,_,rfl,_,rfl,D1,_,rfl,.inl (aZ.of El),p,_,rfl,by rw[bj];exact ne,by rw[bj];lia,oY,fun d H5 hd s5 uh=>?_⟩;rw[bj] at hd;have nD1:D1≠p:=lN.ne AO;have hv:fs[d]?=some fs[d]:=bH hd;refine⟨D1,_,_,_,rfl,rfl,aZ.of (s5 _ _ El nD1),aB (iZ hd),?_⟩;have Zw:fs.getD d 0∈fs:=by rw[b_,hv];exact eX _
    generalize fs.getD d 0=sv at *;rw[<-hfs] at Zw;obtain⟨Df,lB⟩:=fE.mp Zw;have hsv:sv<i+1:=bP.mp Df;have hsd:eN (di (zp zs)) (ci sv)<7:=dE lB;have K0:=s5 _ _ (vX _ _ Jk) Re;have OG:=s5 _ _ (vX _ _ AW) Hy;have K7:PO H5 zs:=(po.same vX).oX s5 oY;refine⟨_,rfl,.inl ⟨rfl,_,aZ.of K0⟩,_,rfl,_,rfl,by show 2<=sizeLine;decide,fun t ht=>?_⟩;have st:=ai (o:=mR (ci sv,ci (i+1))) ht;refine⟨Pr,_,_,rfl,rfl,st _ _ K0,by rw[dz,T5];exact bn (show i<33 by lia) (by decide),?_⟩;have K8:(upd (upd H5 t (mR (ci sv,ci (i+1)))) Pr (.lst (zr zs++[.ref t]))) M=some (.lst (NV (dD n (zp zs)))):=by rw[am T4.symm];exact st _ _ OG
    have Rf:sv<(dD n (zp zs)).length:=by rw[gh];lia
    refine⟨_,rfl,_,rfl,M,_,_,_,rfl,rfl,aZ.of K8,aB (iZ Rf),_,_,rfl,rfl,by show 2<=sizeLine;decide,fun T hT=>?_⟩;have Rg:(upd (upd H5 t (mR (ci sv,ci (i+1)))) Pr (.lst (zr zs++[.ref t]))) Pr=some (.lst (zr zs++[.ref t])):=af;have o6:∀b,b≠Pr->(upd (upd H5 t (mR (ci sv,ci (i+1)))) Pr (.lst (zr zs++[.ref t]))) b=(upd H5 t (mR (ci sv,ci (i+1)))) b:=fun b n=>am n;have K9:PO (upd (upd H5 t (mR (ci sv,ci (i+1)))) Pr (.lst (zr zs++[.ref t]))) (zs++[(t,(ci sv,ci (i+1)))]):=PO.putL (xs:=zr zs) ((K7.same st).append (PO.one af)) (st _ _ K0);generalize upd (upd H5 t (mR (ci sv,ci (i+1)))) Pr _=H6 at *;have sT:=ai (o:=.tup [.int ((((dD n (zp zs)).getD sv 0:Nat):Int)+1),.int 1]) hT;refine⟨T,_,rfl,c_.of af,rfl,_,_,rfl,?_⟩;refine⟨_,rfl,_,rfl,M,_,(sv:Int),sv,rfl,rfl,sT _ _ K8,eQ (by rw[bj];exact Rf),?_⟩;have e2:(NV (dD n (zp zs))).set sv (V.int ((((dD n (zp zs)).getD sv 0:Nat):Int)+1))=NV ((dD n (zp zs)).set sv (eN (di (zp zs)) (ci sv)+1)):=by
     rw[i6 (by lia)];exact oh (x:=eN (di (zp zs)) (ci sv)+1)
    have OH:i+1<((dD n (zp zs)).set sv (eN (di (zp zs)) (ci sv)+1)).length:=by rw[kQ,gh];lia
    have z0:eN (di (zp zs)) (ci (i+1))=0:=Tr.zero (by lia) (aN _);generalize Zx:upd _ M _=H7;have gM7:H7 M=some (.lst (NV ((dD n (zp zs)).set sv (eN (di (zp zs)) (ci sv)+1)))):=by rw[<-Zx,af];exact congrArg (fun l=>some (HO.lst l)) e2
    have o7:∀b,b≠M->∀o,H6 b=some o->H7 b=some o:=fun b n o e=>by rw[<-Zx,am n];exact sT _ _ e
    refine⟨_,_,rfl,_,rfl,_,rfl,M,_,((i+1:Nat):Int),i+1,rfl,rfl,gM7,eQ (by rw[bj];exact OH),rfl,?_⟩;generalize Rh:upd H7 M _=H8;have e3:(NV ((dD n (zp zs)).set sv (eN (di (zp zs)) (ci sv)+1))).set (i+1) (V.int 1)=NV (dD n (zp zs++[(ci sv,ci (i+1))])):=by
     rw[<-yf (by lia) (by lia) (by lia),z0];exact oh (x:=1)
    have T6:H8 M=some (.lst (NV (dD n (zp zs++[(ci sv,ci (i+1))])))):=by rw[<-Rh,af];exact congrArg (fun l=>some (HO.lst l)) e3
    have o8:∀b,b≠M->∀o,H6 b=some o->H8 b=some o:=fun b n o e=>by rw[<-Rh,am n];exact o7 b n o e
    have ez:zp (zs++[(t,(ci sv,ci (i+1)))])=zp zs++[(ci sv,ci (i+1))]:=by rw[eC];rfl
    refine⟨zs++[(t,(ci sv,ci (i+1)))],⟨_,_,_,_,rfl⟩,fun b o e n=>?_,?_,?_,fun z hz=>?_,by rw[ez];exact T6,?_,?_⟩
    .refine o8 _ (ak e OF) _ ?_;rw[o6 _ (ak e Rc)];exact st _ _ (s5 _ _ (vX _ _ (sc _ _ e n)) n)
    .obtain⟨x,y,e,r⟩:=uh.same st;exact⟨x,y,o8 _ Hy.symm _ (by rw[o6 _ Re.symm];exact e),r⟩
    .refine o8 _ T4 _ ?_;rw[Rg,eA];rfl
    .have g:=K9 z hz;exact o8 _ (by rintro e;rw[e,K8] at g;cases g) _ g
    .rw[ez,lJ];exact Tr.add i8 (fun x hx=>bP.mp hx) (gu (by lia)) (by rw[List.take_range,zz (by lia)];exact Df) (by show eN _ _<8;lia)
    .rw[ez,Co,z0,au (fun z=>by have:=dF z;lia),av rfl];lia
  rintro σ Hc ⟨zs,⟨a,b,c,d',rfl⟩,sc,lN,Jk,po,AW,Tr,dg⟩;rw[show n-1+1=n by lia] at Tr;have F0:=Tr.mn n1 n2 (ju _);refine⟨_,rfl,(m:Int),rfl,by lia,by lia,?_⟩;refine dh (lo:=0) (n:=m) (fun i σ Hc=>∃zs:Zs,(∃a b c d,σ=[some (.ref p),some (.int n),some (.int m),some (.ref Pr),some (.ref M),a,b,c,d])/\aL p H Hc/\aY Hc p/\Hc Pr=some (.lst (zr zs))/\PO Hc zs/\Hc M=some (.lst (NV (dD n (zp zs))))/\bS n (di (zp zs)))
   ⟨zs,⟨_,_,_,_,rfl⟩,sc,lN,Jk,po,AW,F0⟩ ?_ ?_
  .clear F0 Tr dg po Jk AW lN sc zs;rintro i σ Hc hi ⟨zs,⟨a',b',c',d',rfl⟩,sc,lN,Jk,po,AW,Fi⟩;have T5:zs.length<=256:=by have:=Fi.len;rw[pX,bu] at this;lia
   refine⟨_,rfl,_,rfl,p,n,rfl,by lia,by lia,lN,fun a H4 ha s4 oY=>⟨_,rfl,_,rfl,p,n,rfl,by lia,by lia,oY,fun b H5 hb s5 uh=>⟨_,_,rfl,?_⟩⟩⟩;have M1:=(sc.trans s4).trans s5;have K0:=s5 _ _ (s4 _ _ Jk Re) Re;have OG:=s5 _ _ (s4 _ _ AW Hy) Hy;have K7:=(po.oX s4 lN).oX s5 oY;clear s4 s5 oY Jk AW po lN sc;dsimp only;have jd:∀Hd:Hp,aK H5 Hd->∃zs:Zs,(∃x1 x2 x3 x4,[some (V.ref p),some (.int n),some (.int m),some (.ref Pr),some (.ref M),some (.int (0+(i:Int))),b',some (.int (a:Nat)),some (.int (b:Nat))]=[some (.ref p),some (.int n),some (.int m),some (.ref Pr),some (.ref M),x1,x2,x3,x4])/\aL p H Hd/\aY Hd p/\Hd Pr=some (.lst (zr zs))/\PO Hd zs/\Hd M=some (.lst (NV (dD n (zp zs))))/\bS n (di (zp zs)):=fun Hd sd=>⟨zs,⟨_,_,_,_,rfl⟩,M1.trans (aL.of sd),uh.same sd,sd _ _ K0,K7.same sd,sd _ _ OG,Fi⟩
   have Wj:a<(dD n (zp zs)).length:=by rw[gh];exact ha
   have Zy:b<(dD n (zp zs)).length:=by rw[gh];exact hb
   refine⟨_,rfl,_,rfl,rfl,_,rfl,?_⟩;by_cases pq:a=b
   .exact ye (by subst pq;simp) (iI (jd _ (aK.refl _)))
   refine Go (by simp;lia) ⟨_,rfl,_,rfl,M,_,_,_,rfl,rfl,aZ.of OG,aB (iZ Wj),_,rfl,_,rfl,M,_,_,_,rfl,rfl,aZ.of OG,aB (iZ Zy),_,_,rfl,_,_,rfl,rfl,_,rfl,?_⟩;rw[i6 ha,i6 hb];refine gm (fun cm=>?_) (fun cm=>jd _ (aK.refl _));have cm:=dE cm;have da:eN (di (zp zs)) (ci a)<=7:=by split at cm <;> lia
   have db:eN (di (zp zs)) (ci b)<=7:=by split at cm <;> lia
   refine⟨_,rfl,_,rfl,by show 2<=sizeLine;decide,fun t1 Wk=>?_⟩;have rZ:=ai (o:=mR (ci a,ci b)) Wk;obtain⟨l1,l2⟩:=Gr (K:=K) (K7.same rZ);refine⟨_,rfl,t1,Pr,(ci a,ci b),zs.map (fun z:Addr×Int×Int=>z.1),zp zs,rfl,rfl,c_.of af,by rw[<-kG];exact aZ.of (rZ _ _ K0),by rw[aW];exact l1,l2,_,rfl,?_⟩;by_cases in1:(ci a,ci b)∈zp zs
   .exact ye (by simp[in1]) (iI (jd _ rZ))
   refine Go (by simp[in1]) ⟨_,rfl,_,rfl,by show 2<=sizeLine;decide,fun t2 Wl=>?_⟩;have e8:=rZ.trans (ai (o:=mR (ci b,ci a)) Wl);obtain⟨l1,l2⟩:=Gr (K:=K) (K7.same e8);refine⟨_,rfl,t2,Pr,(ci b,ci a),zs.map (fun z:Addr×Int×Int=>z.1),zp zs,rfl,rfl,c_.of af,by rw[<-kG];exact aZ.of (e8 _ _ K0),by rw[aW];exact l1,l2,_,rfl,?_⟩;by_cases Wm:(ci b,ci a)∈zp zs
   .exact ye (by simp[Wm]) (jd _ e8)
   have Rg:=e8 _ _ K0;have K8:=e8 _ _ OG;refine Go (by simp[Wm]) ⟨_,rfl,.inl ⟨rfl,_,aZ.of Rg⟩,_,rfl,_,rfl,by show 2<=sizeLine;decide,fun t ht=>?_⟩;have gI:=ai (o:=mR (ci a,ci b)) ht;refine⟨Pr,_,_,rfl,rfl,gI _ _ Rg,by rw[dz];exact eU T5 (by decide),?_⟩;have M2:=PO.putL (xs:=zr zs) ((K7.same (e8.trans gI)).append (PO.one af)) (gI _ _ Rg) (o:=.lst (zr zs++[.ref t]));have T7:∀x o,H x=some o->x≠p->x≠Pr->(upd (upd (upd (upd H5 t1 (mR (ci a,ci b))) t2 (mR (ci b,ci a))) t (mR (ci a,ci b))) Pr (.lst (zr zs++[.ref t]))) x=some o:=fun x o e n n2=>by
    rw[am n2];exact gI _ _ (e8 _ _ (M1 _ _ e n))
   have Gx:=((uh.same e8).same gI).put (o:=.lst (zr zs++[.ref t])) Re.symm;have OI:=(am (H:=upd (upd (upd H5 t1 (mR (ci a,ci b))) t2 (mR (ci b,ci a))) t (mR (ci a,ci b))) (o:=.lst (zr zs++[.ref t])) T4.symm).trans (gI _ _ K8);have hP7:=af (H:=upd (upd (upd H5 t1 (mR (ci a,ci b))) t2 (mR (ci b,ci a))) t (mR (ci a,ci b))) (a:=Pr) (o:=.lst (zr zs++[.ref t]));generalize upd (upd (upd (upd H5 _ _) _ _) _ _) Pr _=H7 at *;refine⟨_,rfl,_,rfl,M,_,_,_,rfl,rfl,aZ.of OI,aB (iZ Wj),_,_,rfl,rfl,_,rfl,_,rfl,M,_,(a:Int),a,rfl,rfl,OI,eQ (by rw[bj];exact Wj),?_⟩;have e2:(NV (dD n (zp zs))).set a (V.int ((((dD n (zp zs)).getD a 0:Nat):Int)+1))=NV ((dD n (zp zs)).set a (eN (di (zp zs)) (ci a)+1)):=by
    rw[i6 ha];exact oh (x:=eN (di (zp zs)) (ci a)+1)
   have OH:b<((dD n (zp zs)).set a (eN (di (zp zs)) (ci a)+1)).length:=by rw[kQ];exact Zy
   have ek:((dD n (zp zs)).set a (eN (di (zp zs)) (ci a)+1)).getD b 0=eN (di (zp zs)) (ci b):=by
    rw[b_,mX pq,<-b_,i6 hb]
   generalize Rh:upd H7 M _=H8;have T6:H8 M=some (.lst (NV ((dD n (zp zs)).set a (eN (di (zp zs)) (ci a)+1)))):=by rw[<-Rh,af];exact congrArg (fun l=>some (HO.lst l)) e2
   have o8:∀b,b≠M->H8 b=H7 b:=fun b n=>by rw[<-Rh,am n]
   refine⟨_,rfl,_,rfl,M,_,_,_,rfl,rfl,aZ.of T6,aB (iZ OH),_,_,rfl,rfl,_,rfl,_,rfl,M,_,(b:Int),b,rfl,rfl,T6,eQ (by rw[bj];exact OH),?_⟩;generalize Zz:upd H8 M _=H9;have e3:(NV ((dD n (zp zs)).set a (eN (di (zp zs)) (ci a)+1))).set b (V.int (((((dD n (zp zs)).set a (eN (di (zp zs)) (ci a)+1)).getD b 0:Nat):Int)+1))=NV (dD n (zp zs++[(ci a,ci b)])):=by
    rw[ek,<-yf ha hb pq];exact oh (x:=eN (di (zp zs)) (ci b)+1)
   have gM9:H9 M=some (.lst (NV (dD n (zp zs++[(ci a,ci b)])))):=by rw[<-Zz,af];exact congrArg (fun l=>some (HO.lst l)) e3
   have o9:∀b,b≠M->H9 b=H7 b:=fun b n=>by rw[<-Zz,am n];exact o8 b n
   have ez:zp (zs++[(t,(ci a,ci b))])=zp zs++[(ci a,ci b)]:=by rw[eC];rfl
   refine⟨zs++[(t,(ci a,ci b))],⟨_,_,_,_,rfl⟩,fun b o e n=>?_,?_,?_,fun z hz=>?_,by rw[ez];exact gM9,?_⟩
   .rw[o9 _ (ak e OF)];exact T7 _ _ e n (ak e Rc)
   .obtain⟨x,y,e,r⟩:=Gx;exact⟨x,y,by rw[o9 _ Hy.symm];exact e,r⟩
   .rw[o9 _ T4,hP7,eA];rfl
   .have g:=M2 z hz;rw[o9 _ (by rintro e;rw[e,OI] at g;cases g)];exact g
   .rw[ez];exact Fi.pair ha hb pq in1 Wm da db
  .rintro σ Hc ⟨zs,⟨a',b',c',d',rfl⟩,sc,lN,Jk,po,AW,Fi⟩;exact⟨_,rfl,q Pr zs Hc sc lN Rc Jk po Fi⟩
end
end pZ
namespace L2
open PySem PySem.Spec PyProof.Rows
def Cp:List Nat->TA
 |[]=>fz
 |n::ns=>bi (tC (.int (n:Nat))) (Cp ns)
def Gz:List (List Nat)->TA
 |[]=>fz
 |c::cs=>bi (qL (Cp c)) (Gz cs)
def Wn:Expr->Option Nat
 |.Constant (.int (.ofNat n)) _ _=>some n
 |_=>none
def Jl:List Expr->Option (List Nat)
 |[]=>some []
 |e::es=>(Wn e).bind fun n=>(Jl es).map (n::·)
def Jm:List Expr->Option (List (List Nat))
 |[]=>some []
 |.Tuple es _ _::r=>(Jl es).bind fun c=>(Jm r).map (c::·)
 |_=>none
theorem M3(h:Wn e=some n):∃j pos,e=.Constant (.int (n:Nat)) j pos:=by
 unfold Wn at h;split at h
 .cases h;exact⟨_,_,rfl⟩
 .cases h
theorem Cq:∀ {es:List Expr} {ns:List Nat},Jl es=some ns->PA X es (Cp ns)
 |[],ns,h=>by cases h;exact ag
 |e::es,ns,h=>by
  unfold Jl at h;obtain⟨n,h1,h2⟩:=Option.bind_eq_some_iff.mp h;obtain⟨ms,h3,rfl⟩:=Option.map_eq_some_iff.mp h2;obtain⟨j,pos,rfl⟩:=M3 h1;exact aa ap (Cq h3)
theorem Cr:∀ {es:List Expr} {cs:List (List Nat)},Jm es=some cs->PA X es (Gz cs)
 |[],cs,h=>by cases h;exact ag
 |e::r,cs,h=>by
  unfold Jm at h;split at h
  .cases h;contradiction
  .rename_i es _ _ r' e';cases e';obtain⟨n,h1,h2⟩:=Option.bind_eq_some_iff.mp h;obtain⟨ms,h3,rfl⟩:=Option.map_eq_some_iff.mp h2;exact aa (cG (Cq h1)) (Cr h3)
  .cases h
end L2
namespace pZ
open PySem L2 jn
abbrev M4:Stmt:=top 37
abbrev rP:Stmt:=top 38
theorem io:(["_law_more","_law_house","_law_figure","_law_step"]:List Str).Nodup:=by decide +kernel
theorem GA:∀ {ns:List Nat} {σ:St} {H:Hp} {Q:List V->Hp->Prop},Q (NV ns) H->Cp ns σ H Q
 |[],σ,H,Q,h=>h
 |n::ns,σ,H,Q,h=>GA (ns:=ns) (Q:=fun xs H2=>Q (.int (n:Nat)::xs) H2) h
theorem GB:∀ {cs:List (List Nat)} {σ:St} {H:Hp} {Q:List V->Hp->Prop},(∀c∈cs,c.length<=5)->(∀ (as:List Addr) (H':Hp),aK H H'->as.length=cs.length->(∀i,i<cs.length->H' (as.getD i 0)=some (.tup (NV (cs.getD i []))))->Q (as.map V.ref) H')->Gz cs σ H Q
 |[],σ,H,Q,_,h=>h [] H (aK.refl _) rfl fun i hi=>nomatch hi
 |c::cs,σ,H,Q,hc,h=>by
  refine GA (ns:=c) ⟨?_,fun t ht=>?_⟩
  .rw[bj];exact a8 (hc c bp) (by decide)
  refine GB (cs:=cs) (fun c wF=>hc c (cW _ wF)) fun as H' s l e=>?_;refine h (t::as) H' ((ai ht).trans s) (congrArg (·+1) l) fun i hi=>?_;cases i with
  |zero=>exact s _ _ af
  |succ i=>exact e i (Nat.lt_of_succ_lt_succ hi)
theorem v6:∀ {i:Nat},(yd ns i h).length<=i
 |0=>bT _
 |i+1=>by
  have e:yd ns (i+1) h=yd ns i h++if h / pr (ns.take i) % ns.getD i 0+1<ns.getD i 0 then [(h,h+pr (ns.take i))] else []:=by unfold yd;rw[dA]
  rw[e,cp];have:=v6 (ns:=ns) (h:=h) (i:=i);split <;> simp <;> lia
theorem v7(hb:b<=5):∀ {i:Nat},(DS b i h).length<=5*i
 |0=>bT _
 |i+1=>by
  have e:DS b (i+1) h=DS b i h++Je b i h:=by unfold DS;rw[dA]
  rw[e,cp];have:=v7 (b:=b) (h:=h) hb (i:=i);have:(Je b i h).length<=5:=by unfold Je;rw[aW,cK];lia
  lia
theorem AX:∃es q1 q2 q3 cs r,bR rP=.Assign [.Name "_law_sizes" q1] (.List es q2) q3::r/\r=(bR rP).drop 1/\Jm es=some cs/\cs=[[1,3,3],[1,4,4],[1,5,5],[2,3,9],[2,4,16],[2,5,25],[3,3,27],[3,2,8],[5,2,32]]:=
 ⟨_,_,_,_,[[1,3,3],[1,4,4],[1,5,5],[2,3,9],[2,4,16],[2,5,25],[3,3,27],[3,2,8],[5,2,32]],_,rfl,rfl,by decide +kernel,rfl⟩
def Jn(p:Addr)(H:Hp)(Q:V->Hp->Prop):Prop:=∀ (t r:Addr) (n:Nat) (zs:Zs) (H':Hp),aL p H H'->aY H' p->H t=none->H r=none->H' t=some (.tup [.int n,.ref r])->H' r=some (.lst (zr zs))->PO H' zs->bS n (di (zp zs))->Q (.ref t) H'
section
variable {P:Program} {w:World} {K:PySem.W.Frag} {mg:Str->Option Value} {base:Heap}
theorem mI:aP ["_law_pot_here","_law_sides","_law_whole","_law_k","_law_found","_law_house","_law_step","_law_side"] ["_law_pot_here"] (ao M4):=⟨rfl,rfl,rfl,by decide +kernel,rfl,by decide +kernel,by decide +kernel⟩
def ui:Sp:=fun vs H Q _=>∃p:Addr,vs=[.ref p]/\aY H p/\Jn p H Q
theorem M5(F:ii K "_law_box" "_law_box" M4 f fd)(B:Bl mg)(D:dI P w K mg base bb 1 "_law_take" ["_law_pot_here","_law_many"] fT):bD P w K mg base bb 2 f fd ["_law_pot_here"] ui:=by
 refine F.ok mI (fun vs H Q E h=>?_) (fun eL A outer s H vs Q E hr h=>?_)
 .obtain⟨p,rfl,_⟩:=h;rfl
 .obtain⟨p,rfl,hp,q⟩:=h;refine⟨_,(aj (zI (i:=1) (j:=2) rfl mI.nd rfl rfl (by decide) rfl rfl (aa (ce ag) (aa ap ag)) (by rfl))
   (aj (dC eF rfl (bv rfl B.range (aa (aV cE ap (aI D hr aH (aa (pv 0) (aa ap ag)))) ag)) (az (i:=3) mI.nd rfl (Or.inl rfl))
    (aq (df (aX oy (pv 2) ap (be _)) (aj (b8 (fK e_ iN iM cz (pv 1) (aa (aV cE ap (aI D hr aH (aa (pv 0) (aa (aE (nJ rfl) (by rfl) B.min yP (aa ap (aa (aV jh (aV pM ap (pv 2)) ap) ag))) ag)))) ag)))
     (aq (aU (i:=2) mI.nd rfl (Or.inl rfl) (aV jW (pv 2) (ba aR (pv 1) (wO qJ ap) (fun _ _=>rfl)))))) bq)))
   (aj (aU (i:=4) mI.nd rfl (Or.inl rfl) (ce ag))
   (aj (dC eF rfl (bv rfl B.range (aa (pv 2) ag)) (az (i:=5) mI.nd rfl (Or.inl rfl))
    (aj (aU (i:=6) mI.nd rfl (Or.inl rfl) ap)
    (aq (dC eF rfl (cw (pv 1)) (az (i:=7) mI.nd rfl (Or.inl rfl))
     (aj (df (aX oy (aV hJ (aV pM (pv 5) (pv 6)) (pv 7)) (aV jh (pv 7) ap) (be _)) (aq (b8 (fK e_ iN iM cz (pv 4) (aa (cG (aa (pv 5) (aa (aV cE (pv 5) (pv 6)) ag))) ag)))) bq)
     (aq (aU (i:=6) mI.nd rfl (Or.inl rfl) (aV jW (pv 6) (pv 7)))))))))
   (aq (a9 (cG (aa (pv 2) (aa (pv 4) ag))))))))),?_⟩
  refine⟨by show 0<=sizeLine;decide,fun S hS=>⟨_,_,rfl,?_⟩⟩;have sS:=ai (o:=.lst []) hS;have Hz:S≠p:=hp.ne hS;dsimp only;refine⟨_,rfl,p,5,rfl,by decide,by decide,hp.same sS,fun d H1 hd s1 lR=>⟨_,_,rfl,rfl,(1+(d:Int)),rfl,by lia,by lia,?_⟩⟩;rw[show (1+(d:Int)).toNat=1+d by lia];refine dh (lo:=0) (n:=1+d) (fun i σ Hc=>∃ns:List Nat,(∃a,σ=[some (.ref p),some (.ref S),some (.int ((pr ns:Nat):Int)),a,none,none,none,none])/\aL p H Hc/\aY Hc p/\Hc S=some (.lst (NV ns))/\ns.length<=i/\(∀x∈ns,2<=x/\x<=8)/\pr ns<=32/\(0<i->ns≠[]))
   ⟨[],⟨_,rfl⟩,(aL.of sS).trans s1,lR,s1 _ _ af Hz,aN _,fun x hx=>(nomatch hx),by decide,fun z=>absurd z (gZ _)⟩ ?_ ?_
  .rintro i σ Hc hi ⟨ns,⟨a,rfl⟩,sc,lN,GD,nl,nb,np,nn⟩;have p1:1<=pr ns:=ic (ns:=ns) (i:=0) fun x hx=>by have:=nb x hx;lia
   refine⟨_,rfl,_,_,rfl,rfl,_,rfl,gm (fun c=>?_) (fun c=>?_)⟩
   .have c:=dE c;have hq:(32:Int) / ((pr ns:Nat):Int)=((32 / pr ns:Nat):Int):=rfl;have q2:2<=32 / pr ns:=(Nat.le_div_iff_mul_le (by lia)).mpr (by lia);have em:(if (32:Int) / ((pr ns:Nat):Int)-1<7 then (32:Int) / ((pr ns:Nat):Int)-1 else 7)=((min 7 (32 / pr ns-1):Nat):Int):=by rw[hq];split <;> lia
    refine⟨_,rfl,.inl ⟨rfl,_,aZ.of GD⟩,_,rfl,_,rfl,_,_,rfl,rfl,⟨by lia,by lia⟩,_,_,rfl,rfl,7,_,rfl,p,min 7 (32 / pr ns-1),by rw[em];rfl,by lia,by lia,lN,fun e H2 he s2 xI=>⟨_,_,rfl,rfl,S,_,_,rfl,rfl,s2 _ _ GD Hz,by rw[bj];exact eU (show ns.length<=6 by lia) (by decide),?_⟩⟩;have e2:NV ns++[V.int (2+(e:Int))]=NV (ns++[2+e]):=by rw[<-jp];congr 2
    rw[e2];refine⟨_,rfl,_,rfl,_,rfl,S,_,_,_,rfl,rfl,aZ.of af,by rw[<-jp];exact wV _ _,_,_,rfl,rfl,.inr ⟨by lia,by lia⟩,?_⟩;have Ov:pr ns*(2+e)<=32:=a8 (qg _ (show 2+e<=32 / pr ns by lia)) (Nat.mul_div_le _ _);refine⟨ns++[2+e],⟨some (.int (0+(i:Int))),?_⟩,fun b o g n=>?_,xI.put Hz.symm,af,by rw[cp,p_];lia,fun x hx=>?_,by rw[p7];exact Ov,fun _=>by simp⟩
    .rw[p7,Int.natCast_mul];rfl
    .rw[am (ak g hS)];exact s2 _ _ (sc _ _ g n) n
    .rcases bO.mp hx with z|z
     .exact nb x z
     .rw[bL.mp z];lia
   .have c:¬ pr ns<17:=fun z=>c (iu (by lia));exact⟨ns,⟨_,rfl⟩,sc,lN,GD,by lia,nb,np,fun _ z=>by rw[z] at c;exact c (by decide)⟩
  rintro σ Hc ⟨ns,⟨a,rfl⟩,sc,lN,GD,nl,nb,np,nn⟩;have nn:=nn (by lia);have p1:1<=pr ns:=ic (ns:=ns) (i:=0) fun x hx=>by have:=nb x hx;lia
  have ZA:∀x∈ns,1<=x:=fun x hx=>by have:=nb x hx;lia
  refine⟨by show 0<=sizeLine;decide,fun R hR=>?_⟩;have sR:=ai (o:=.lst []) hR;refine⟨_,rfl,((pr ns:Nat):Int),rfl,by lia,by lia,?_⟩;rw[f_];have fl:∀i,i<=32->∀j,j<=5->(((List.range i).flatMap (yd ns ns.length))++yd ns j i).length<=200:=fun i hi j hj=>by
   rw[cp];have:=nV (m:=i) (g:=yd ns ns.length) (M:=5) fun x=>a8 v6 (by lia);have:=v6 (ns:=ns) (h:=i) (i:=j);lia
  refine dh (lo:=0) (n:=pr ns) (fun i σ Hd=>(∃x a b c,σ=[some (.ref p),some (.ref S),some (.int ((pr ns:Nat):Int)),x,some (.ref R),a,b,c])/\mH Hc R (((List.range i).flatMap (yd ns ns.length)).map ij) Hd) ⟨⟨_,_,_,_,rfl⟩,sR,[],af,PO.nil,rfl⟩ ?_ ?_
  .rintro i σ Hd hi ⟨⟨x3,x5,x6,x7,rfl⟩,Pi⟩;rw[g7];refine⟨_,rfl,S,rfl,⟨_,aZ.of (Pi.1 _ _ GD)⟩,iT (K:=K) (xs:=NV ns) (fun j σ He=>(∃x c,σ=[some (.ref p),some (.ref S),some (.int ((pr ns:Nat):Int)),x,some (.ref R),some (.int (i:Int)),some (.int ((pr (ns.take j):Nat):Int)),c])/\mH Hc R ((((List.range i).flatMap (yd ns ns.length))++yd ns j i).map ij) He) ⟨⟨_,_,rfl⟩,by simpa [yd] using Pi⟩ (fun j σ He _ z=>aZ.of (z.2.1 _ _ GD)) ?_ ?_⟩
   .rintro j x σ He hx ⟨⟨y3,y7,rfl⟩,Pj⟩;obtain⟨n,hv,rfl⟩:=F_ hx;have hj:j<ns.length:=(cJ.mp hv).1;have hnn:=nb n (dj hv);have mQ:=ic (ns:=ns) (i:=j) ZA;have aag:1<=pr (ns.take j):=ic (ns:=ns.take j) (i:=0) fun x hx=>ZA x (mW hx);have gd:ns.getD j 0=n:=by rw[b_,hv];rfl
    have tk:ns.take (j+1)=ns.take j++[n]:=by rw[iP,hv];rfl
    have eB:yd ns (j+1) i=yd ns j i++if i / pr (ns.take j) % n+1<n then [(i,i+pr (ns.take j))] else []:=by unfold yd;rw[dA,gd]
    rw[tk,p7,eB];have fl':=fl i (by lia) j (by lia);generalize pr (ns.take j)=st at *;dsimp only;refine uf (fun σ He=>σ=[some (.ref p),some (.ref S),some (.int ((pr ns:Nat):Int)),y3,some (.ref R),some (.int (i:Int)),some (.int (st:Int)),some (.int (n:Int))]/\mH Hc R ((((List.range i).flatMap (yd ns ns.length))++(yd ns j i++if i / st % n+1<n then [(i,i+st)] else [])).map ij) He) ?_ ?_
    .rintro σ He ⟨rfl,Pe⟩;exact⟨_,rfl,_,rfl,_,_,rfl,rfl,.inr ⟨by lia,by lia⟩,⟨_,_,rfl⟩,Pe⟩
    .intro N hN;have Wo:(i:Int) / (st:Int) % (n:Int)=((i / st % n:Nat):Int):=rfl;refine⟨_,rfl,_,rfl,_,_,rfl,rfl,⟨by lia,by lia⟩,_,rfl,_,_,rfl,rfl,(by show (0:Int)<(n:Int);lia),_,rfl,_,_,rfl,rfl,_,_,rfl,rfl,_,rfl,?_⟩;rw[Wo];obtain⟨sm,wA,vU,AU,Ji⟩:=Pj;refine gm (fun c=>?_) (fun c=>?_)
     .have c:=dE c;refine⟨_,rfl,.inl ⟨rfl,_,aZ.of vU⟩,_,rfl,_,rfl,_,rfl,_,_,rfl,rfl,by show 2<=sizeLine;decide,fun t ht=>?_⟩;have aD:=ai (o:=mR (ij (i,i+st))) ht;refine⟨R,_,_,rfl,rfl,aD _ _ vU,?_,?_⟩
      .rw[dz,<-bu,Ji,aW];exact eU fl' (by decide)
      .refine hN _ _ ⟨rfl,?_⟩;rw[av (by lia),<-gv,cY];exact mH.ext (zs:=[(t,ij (i,i+st))]) hR sm vU AU Ji aD (PO.one af) rfl
     .refine hN _ _ ⟨rfl,?_⟩;rw[au (fun z=>c (iu (by lia))),qu];exact⟨sm,wA,vU,AU,Ji⟩
   .rintro σ He ⟨⟨y3,y7,rfl⟩,Pe⟩;refine⟨⟨_,_,_,_,rfl⟩,?_⟩;rw[bj] at Pe;rw[dA];exact Pe
  .rintro σ Hd ⟨⟨x3,x5,x6,x7,rfl⟩,sm,wA,vU,AU,Ji⟩;refine⟨_,rfl,_,rfl,by show 2<=sizeLine;decide,fun t ht=>?_⟩;have st:=ai (o:=.tup [.int ((pr ns:Nat):Int),.ref R]) ht;have fr:∀ {a:Addr},Hc a=none->H a=none:=fun h=>sc.free lN.full h;refine q t R (pr ns) wA _ (sc.trans (aL.of (sm.trans st))) ((lN.same sm).same st) (fr (sm.free ht)) (fr hR) af (st _ _ vU) (AU.same st) ?_;rw[Ji];refine(FO (fun x hx=>(nb x hx).1) nn np).perm (j5 (List.Perm.map _ ?_));refine Gk.trans (jJ ?_);unfold mw;rw[Gs];simp only[Nat.one_mul]
theorem fw:aP ["_law_pot_here","_law_sizes","_law_figures","_law_base","_law_many","_law_found","_law_house","_law_step","_law_k","_law_figure"] ["_law_pot_here"] (ao rP):=⟨rfl,rfl,rfl,by decide +kernel,rfl,by decide +kernel,by decide +kernel⟩
theorem GE(F:ii K "_law_words" "_law_words" rP f fd)(B:Bl mg)(D:dI P w K mg base bb 1 "_law_take" ["_law_pot_here","_law_many"] fT):bD P w K mg base bb 2 f fd ["_law_pot_here"] ui:=by
 refine F.ok fw (fun vs H Q E h=>?_) (fun eL A outer s H vs Q E hr h=>?_)
 .obtain⟨p,rfl,_⟩:=h;rfl
 .obtain⟨p,rfl,hp,q⟩:=h;obtain⟨es,q1,q2,q3,cs,r,eb,er,U8,ec⟩:=AX;rw[eb,er];refine'⟨_,(aj (aU (i:=1) fw.nd rfl (Or.inl rfl) (ce (Cr U8)))
   (aj (dR (ba aR (pv 1) (aI D hr aH (aa (pv 0) (aa ap ag))) (fun _ _=>rfl)) (dv (n:=3) rfl (aG (az (i:=2) fw.nd rfl (Or.inl rfl)) (aG (az (i:=3) fw.nd rfl (Or.inl rfl)) (aG (az (i:=4) fw.nd rfl (Or.inl rfl)) b9)))))
   (aj (aU (i:=5) fw.nd rfl (Or.inl rfl) (ce ag))
   (aj (dC eF rfl (bv rfl B.range (aa (pv 4) ag)) (az (i:=6) fw.nd rfl (Or.inr rfl))
    (aj (aU (i:=7) fw.nd rfl (Or.inr rfl) ap)
    (aq (dC eF rfl (bv rfl B.range (aa (pv 2) ag)) (az (i:=8) fw.nd rfl (Or.inl rfl))
     (aj (aU (i:=9) fw.nd rfl (Or.inr rfl) (aV hJ (aV pM (pv 6) (pv 7)) (pv 3)))
     (aj (b8 (fK e_ PySem.F.slot_list_extend PySem.F.type_list_extend C7 (pv 5) (aa ?c1 ag)))
     (aq (aU (i:=7) fw.nd rfl (Or.inr rfl) (aV jW (pv 7) (pv 3))))))))))
   (aq (a9 (cG (aa (pv 4) (aa (pv 5) ag))))))))),?_⟩
  case c1=>
   refine' cI (g:=(bA 0)) (te:=(qL (bi (a_ 1) (bi (l6 (zM fun i j=>.int (i+j)) (a_ 1) (l6 (rI HL fun i j=>.int (i*j)) (l6 (zM fun i j=>.int (i-j)) (a_ 0) (a_ 2)) (a_ 3))) fz)))) (NB:=["_law_more","_law_house","_law_figure","_law_step"]) (src:=[none,some 6,some 9,some 7]) (br (by kernel_rfl)) rfl (nI rfl B.range (aa (aV cE (pv 9) ap) (aa (pv 3) ag))) ?g ?t ?e;case g=>exact fun cl C s₃ H₃ fp=>(az (i:=0) io rfl (Or.inl rfl) (Or.inr rfl))
   case t=>exact fun cl C s₃ H₃ fp=>cV
   case e=>exact fun cl C s₃ H₃ fp=>(cG (aa (pv 1) (aa (aV cE (pv 1) (aV jW (aV jh (pv 0) (pv 2)) (pv 3))) ag)))
  refine GB (cs:=cs) (by rw[ec];decide) fun as H4 s4 la ea=>⟨?_,fun S hS=>?_⟩
  .rw[aW,la,ec];show 9<=sizeLine;decide
  have sS:=ai (o:=.lst (as.map V.ref)) hS;refine⟨_,rfl,_,rfl,p,9,rfl,by decide,by decide,(hp.same s4).same sS,fun d H5 hd s5 uh=>?_⟩;have ZB:as[d]?=some (as.getD d 0):=by rw[b_,bH (by rw[la,ec];exact hd)];rfl
  have nS:S≠p:=(hp.same s4).ne hS;have ga:=ea d (by rw[ec];exact hd);have Wp:=s5 _ _ (sS _ _ ga) ((hp.same s4).neT ga);have sd:∀d,d<9->∃f b:Nat,([[1,3,3],[1,4,4],[1,5,5],[2,3,9],[2,4,16],[2,5,25],[3,3,27],[3,2,8],[5,2,32]]:List (List Nat)).getD d []=[f,b,b ^ f]/\1<=f/\f<=5/\2<=b/\b<=5/\b ^ f<=32:=fun d hd=>
   ⟨(([[1,3,3],[1,4,4],[1,5,5],[2,3,9],[2,4,16],[2,5,25],[3,3,27],[3,2,8],[5,2,32]]:List (List Nat)).getD d []).getD 0 0,(([[1,3,3],[1,4,4],[1,5,5],[2,3,9],[2,4,16],[2,5,25],[3,3,27],[3,2,8],[5,2,32]]:List (List Nat)).getD d []).getD 1 0,by revert d;decide⟩
  obtain⟨fg,b,e9,f1,f2,b1,b2,hm⟩:=sd d hd;rw[ec,e9] at Wp;refine⟨S,_,_,_,rfl,rfl,aZ.of (s5 _ _ af nS),aB (by rw[bV,ZB];rfl),_,_,rfl,c_.of Wp,rfl,_,_,rfl,_,_,rfl,_,_,rfl,rfl,?_⟩;have M1:aL p H H5:=(aL.of (s4.trans sS)).trans s5;clear sd Wp ga ZB ea la e9 hd s5;have hpw:∀i,i<=fg->b ^ i<=32:=fun i hi=>a8 (Nat.pow_le_pow_right (by lia) hi) hm;refine⟨by show 0<=sizeLine;decide,fun R hR=>?_⟩;have sR:=ai (o:=.lst []) hR;refine⟨_,rfl,((b ^ fg:Nat):Int),rfl,by lia,by lia,?_⟩;rw[f_];refine dh (lo:=0) (n:=b ^ fg) (fun i σ Hd=>(∃u v c e,σ=[some (.ref p),some (.ref S),some (.int (fg:Int)),some (.int (b:Int)),some (.int ((b ^ fg:Nat):Int)),some (.ref R),u,v,c,e])/\mH H5 R (((List.range i).flatMap (DS b fg)).map ij) Hd) ⟨⟨_,_,_,_,rfl⟩,sR,[],af,PO.nil,rfl⟩ ?_ ?_
  .rintro i σ Hd hi ⟨⟨x3,x5,x6,x7,rfl⟩,Pi⟩;rw[g7];refine⟨_,rfl,(fg:Int),rfl,by lia,by lia,?_⟩;rw[f_];refine dh (lo:=0) (n:=fg) (fun j σ He=>(∃c e,σ=[some (.ref p),some (.ref S),some (.int (fg:Int)),some (.int (b:Int)),some (.int ((b ^ fg:Nat):Int)),some (.ref R),some (.int (i:Int)),some (.int ((b ^ j:Nat):Int)),c,e])/\mH H5 R ((((List.range i).flatMap (DS b fg))++DS b j i).map ij) He) ⟨⟨_,_,rfl⟩,by simpa [DS] using Pi⟩ ?_ ?_
   .rintro j σ He hj ⟨⟨y8,y9,rfl⟩,vX,zs4,Wq,po4,ZC⟩;have hbi:=hpw j (by lia);have hbp:0<b ^ j:=Nat.pow_pos (by lia);have Wo:(i:Int) / ((b ^ j:Nat):Int) % (b:Int)=((i / b ^ j % b:Nat):Int):=rfl;have dG:i / b ^ j % b<b:=jO _ (by lia);have zl:zs4.length<=1000:=by
     have e:=congrArg List.length ZC;rw[bu,aW,cp] at e;have z3:=nV (m:=i) (g:=DS b fg) (M:=25) fun x=>a8 (v7 b2) (by lia);have z5:=v7 (b:=b) (h:=i) b2 (i:=j);lia
    refine⟨_,rfl,_,rfl,_,_,rfl,rfl,⟨by lia,by lia⟩,_,rfl,_,_,rfl,rfl,(by show (0:Int)<(b:Int);lia),?_⟩;change bA 9 (V.int ((i:Int) / ((b ^ j:Nat):Int) % (b:Int))) _ _ _;rw[Wo];refine⟨_,rfl,.inl ⟨rfl,_,aZ.of Wq⟩,_,rfl,_,_,rfl,rfl,_,rfl,_,_,rfl,⟨by lia,by lia,by lia,by lia⟩,fun L hL=>?_⟩;have hn:((b:Int)-(((i / b ^ j % b:Nat):Int)+1)).toNat=b-i / b ^ j % b-1:=by lia
    rw[hn];refine xU (lo:=((i / b ^ j % b:Nat):Int)+1) (fun c=>ij (i,i+(c+1)*b ^ j)) (fun σ=>∃x,σ=[x,some (.int (i:Int)),some (.int ((i / b ^ j % b:Nat):Int)),some (.int ((b ^ j:Nat):Int))]) hL (by lia) ⟨_,rfl⟩ ?_ ?_
    .rintro c σ H7 R' Kf hc ⟨x,rfl⟩ sm7 kt;have hq:(((i / b ^ j % b:Nat):Int)+1+(c:Int)-((i / b ^ j % b:Nat):Int))*((b ^ j:Nat):Int)=(((c+1)*b ^ j:Nat):Int):=by rw[show ((i / b ^ j % b:Nat):Int)+1+(c:Int)-((i / b ^ j % b:Nat):Int)=((c+1:Nat):Int) by lia];exact(Int.natCast_mul _ _).symm
     refine⟨_,rfl,_,rfl,_,rfl,_,rfl,_,_,rfl,rfl,_,rfl,_,_,rfl,rfl,.inr ⟨by lia,by lia⟩,_,_,rfl,rfl,by show 2<=sizeLine;decide,fun t ht=>?_⟩;rw[hq];exact kt _ _ ⟨_,rfl⟩ ht
    .intro zs H7 s7 hL7 M2 ez7 _;have e5:zp zs=(Je b j i).map ij:=by rw[ez7];unfold Je;rw[cQ];rfl
     have l5:zs.length<=5:=by rw[<-bu,e5,aW];unfold Je;rw[aW,cK];lia
     refine⟨R,L,_,_,rfl,rfl,s7 _ _ Wq,hL7,by rw[dz,dz];exact a8 (show _<=1005 by lia) (by decide),?_⟩;refine⟨_,rfl,_,rfl,_,_,rfl,rfl,.inr ⟨by lia,by lia⟩,⟨some (.int (0+(j:Int))),some (.int ((i / b ^ j % b:Nat):Int)),?_⟩,?_⟩
     .rw[Nat.pow_succ];rfl
     .have eW:DS b (j+1) i=DS b j i++Je b j i:=by unfold DS;rw[dA]
      rw[eW,<-gv,cY];exact mH.ext hR vX Wq po4 ZC s7 M2 e5
   .rintro σ He ⟨⟨y8,y9,rfl⟩,Pe⟩;refine⟨⟨_,_,_,_,rfl⟩,?_⟩;rw[dA];exact Pe
  .rintro σ Hd ⟨⟨x3,x5,x6,x7,rfl⟩,sm,wA,vU,AU,Ji⟩;refine⟨_,rfl,_,rfl,by show 2<=sizeLine;decide,fun t ht=>?_⟩;have st:=ai (o:=.tup [.int ((b ^ fg:Nat):Int),.ref R]) ht;have fr:∀ {a:Addr},H5 a=none->H a=none:=fun h=>M1.free uh.full h;refine q t R (b ^ fg) wA _ (M1.trans (aL.of (sm.trans st))) ((uh.same sm).same st) (fr (sm.free ht)) (fr hR) af (st _ _ vU) (AU.same st) ?_;rw[Ji];exact(Az f1 f2 b1 b2 hm).1.perm (j5 (List.Perm.map _ Gm))
end
end pZ
namespace L2
open PySem PySem.Spec PyProof.Rows
abbrev lO(h:Heap)(z TI TO a:Addr)(f:Bool):Prop:=
 h.get? z=some { cls:=.type "zip",dict:=none,data:=.fields #[rawInt a,.bool f,.bool false,.ref TI,.ref TO],slots:=#[] }
theorem AY:typeLookup (.type "zip") "__len__"=pure none:=by rw[uW,uH];kernel_rfl
theorem yh:typeLookup (.type "zip") "__length_hint__"=pure none:=by rw[uW,uH];kernel_rfl
section
variable {prog:Program} {w:World} {A:Around} {E:Value->Shared->Prop} {s:Shared}
theorem uj{z TI TO a:Addr}{f:Bool}{oa:Obj}{Q:Bool->Shared->Prop}(hz:lO s.heap z TI TO a f)(ha:s.heap.get? a=some oa)(hQ:∀h',lO h' z TI TO a true->Heap.SameBut z s.heap h'->Q false { s with heap:=h' }):wpAny (model prog w) A (Builtin.SmallTypes.ownedTupleIsFree (.ref z)) Q E s:=by
 unfold Builtin.SmallTypes.ownedTupleIsFree;refine aA (g8 hz rfl (x:=rawInt a) rfl ?_);show wpAny _ _ (loadIfAlive ((a:Int).toNat) >>= _) _ _ _;rw[f_];refine aA (PySem.W.kdx_alive ha ?_);simp only[Option.isNone_some,f8,eJ];refine aA (g8 hz rfl (x:=.bool f) rfl ?_);cases f with
 |true=>
  rw[au (show ¬ ((Value.bool true != Value.bool true)=true) from cr)];exact wpAny_pure (hQ s.heap hz (Heap.SameBut.refl _ _))
 |false=>
  rw[av (show (Value.bool false != Value.bool true)=true from rfl)];refine aA (wpAny_setField_rec hz (by simp) fun h₃ he₃ OJ=>?_);exact wpAny_pure (hQ h₃ he₃ OJ)
theorem DW{z TI TO i1 i2 l1 l2 a:Addr}{f:Bool}{oa:Obj}{k1 k2:Nat}{xs ys:Array Value}{x y:Value}{Q:Option Value->Shared->Prop}(D:ZipApart z TI TO i1 i2 l1 l2)(hz:lO s.heap z TI TO a f)(ha:s.heap.get? a=some oa)(Wr:IsPair s.heap TI (.ref i1) (.ref i2))(h1:s.heap.IsListIter i1 l1 k1)(h2:s.heap.IsListIter i2 l2 k2)(yA:s.heap.IsList l1 xs)(Ee:s.heap.IsList l2 ys)(hx:xs[k1]?=some x)(hy:ys[k2]?=some y)(hQ:∀h',lO h' z TI TO a true->h'.IsListIter i1 l1 (k1+1)->h'.IsListIter i2 l2 (k2+1)->IsPair h' s.heap.objs.size x y->h'.objs.size=s.heap.objs.size+1->
   (∀c o,c≠z->c≠i1->c≠i2->s.heap.get? c=some o->h'.get? c=some o)->Q (some (.ref s.heap.objs.size)) { s with heap:=h' }):
  wpAny (model prog w) A (pyNext (.ref z)) Q E s:=by
 have hT:s.TypeIs (.ref z) "zip":=⟨_,hz,rfl⟩
 unfold pyNext;refine aA (nA (qd (name:=Str.ofString "__next__") hT F.slot_zip_next
  (nr F.slot_zip_next hT F.entry_zip_next ?_ (F.args_zip_next_1 _))))
 show wpAny _ _ (field (.ref z) 2 >>= _) _ _ _;refine aA (g8 hz rfl (x:=.bool false) rfl ?_);show wpAny _ _ (field (.ref z) 3 >>= _) _ _ _;refine aA (g8 hz rfl (x:=.ref TI) rfl ?_);refine aA (lq Wr rfl ?_);show wpAny _ _ (Builtin.SmallTypes.ownedTupleIsFree (.ref z) >>= _) _ _ _;refine aA (uj hz ha fun h₁ ZD HB=>?_);simp only[f8,eJ];refine aA ?_;show wpAny _ _ (forIn #[Value.ref i1,Value.ref i2] _ _) _ _ _;rw[<-qj];simp only[uR,uT];refine aA (aA (gy ?_));show wpAny _ _ (Builtin.SmallTypes.nextOf (.ref i1) >>= _) _ _ _;refine aA (wpAny_nextOf_list_item (h1.extBut HB.extBut D.i1z) (yA.extBut HB.extBut D.l1z) hx fun h₂ h1₂ M6=>wpAny_pure ?_);refine wpAny_pure ?_;refine aA (aA (gy ?_));show wpAny _ _ (Builtin.SmallTypes.nextOf (.ref i2) >>= _) _ _ _;refine aA (wpAny_nextOf_list_item ((h2.extBut HB.extBut D.i2z).extBut M6.extBut D.i12.symm) ((Ee.extBut HB.extBut D.l2z).extBut M6.extBut D.l2i1) hy fun h₃ h2₃ OJ=>wpAny_pure ?_);refine wpAny_pure (wpAny_pure ?_);dsimp only;refine aA (wpAny_newTuple ?_ (by show 2<=sizeLine;decide));have gJ:h₃.objs.size=s.heap.objs.size:=by rw[OJ.1,M6.1,HB.1]
 refine wpAny_pure ⟨_,rfl,?_⟩;refine wpAny_pure ?_;show Q (some (.ref h₃.objs.size)) _;rw[gJ];have up:∀c o,h₃.get? c=some o->(h₃.push { cls:=.type "tuple",data:=.seq #[x,y] }).get? c=some o:=fun c o e=>cB _ e;refine hQ _ (up _ _ (OJ.extBut _ _ D.i2z.symm (M6.extBut _ _ D.i1z.symm ZD))) ((h1₂.extBut OJ.extBut D.i12).at fun o e=>up _ o e) (h2₃.at fun o e=>up _ o e) ?_ (by rw[gY,gJ]) fun c o c1 c3 c4 e=>up c o (OJ.extBut _ _ c4 (M6.extBut _ _ c3 (HB.extBut _ _ c1 e)));rw[<-gJ];exact cX _ rfl
theorem GG{z TI TO i1 i2 l1 l2 a:Addr}{f:Bool}{oa:Obj}{k1:Nat}{xs:Array Value}{Q:Option Value->Shared->Prop}(hh:A.handled=none)(D:ZipApart z TI TO i1 i2 l1 l2)(hz:lO s.heap z TI TO a f)(ha:s.heap.get? a=some oa)(Wr:IsPair s.heap TI (.ref i1) (.ref i2))(h1:s.heap.IsListIter i1 l1 k1)(yA:s.heap.IsList l1 xs)(hx:xs[k1]?=none)(hQ:∀h',(∀c o,c≠z->c≠TO->c≠i1->c≠i2->s.heap.get? c=some o->h'.get? c=some o)->Q none { s with heap:=h' }):
  wpAny (model prog w) A (pyNext (.ref z)) Q E s:=by
 have hT:s.TypeIs (.ref z) "zip":=⟨_,hz,rfl⟩
 unfold pyNext;refine aA (nA (qd (name:=Str.ofString "__next__") hT F.slot_zip_next
  (nr F.slot_zip_next hT F.entry_zip_next ?_ (F.args_zip_next_1 _))))
 show wpAny _ _ (field (.ref z) 2 >>= _) _ _ _;refine aA (g8 hz rfl (x:=.bool false) rfl ?_);show wpAny _ _ (field (.ref z) 3 >>= _) _ _ _;refine aA (g8 hz rfl (x:=.ref TI) rfl ?_);refine aA (lq Wr rfl ?_);show wpAny _ _ (Builtin.SmallTypes.ownedTupleIsFree (.ref z) >>= _) _ _ _;refine aA (uj hz ha fun h₁ ZD HB=>?_);simp only[f8,eJ];refine aA ?_;show wpAny _ _ (forIn #[Value.ref i1,Value.ref i2] _ _) _ _ _;rw[<-qj];simp only[uR,uT];refine aA (aA (gy ?_));show wpAny _ _ (Builtin.SmallTypes.nextOf (.ref i1) >>= _) _ _ _;refine aA (wpAny_nextOf_list_end hh (h1.extBut HB.extBut D.i1z) (yA.extBut HB.extBut D.l1z) hx fun h₂ e M6 he=>?_);obtain⟨o,ho,hc⟩:=he;refine aA (wpAny_isInstance (T:="StopIteration") (b:=true) ⟨o,ho,hc⟩ isSubtype_stop ?_);exact wpAny_pure (hQ _ fun c o c1 _ c3 _ x=>M6 _ _ c3 (HB.extBut _ _ c1 x))
structure M7(h:Heap)(z TI TO i1 i2 l1 l2:Addr)(i:Nat)(xs ys:Array Value)(as:List Addr):Prop where
 hz:(as=[]/\IsZip h z TI TO .none)\/∃a r f,as=a::r/\lO h z TI TO a f
 ti:IsPair h TI (.ref i1) (.ref i2)
 to:∃u v,IsPair h TO u v
 r1:h.IsListIter i1 l1 i
 r2:h.IsListIter i2 l2 i
 x:h.IsList l1 xs
 y:h.IsList l2 ys
 len:as.length=i
 pr:∀ (j:Nat) a,as[j]?=some a->∃x y,xs[j]?=some x/\ys[j]?=some y/\IsPair h a x y
theorem M7.keep{h h':Heap}{z TI TO i1 i2 l1 l2 S:Addr}{i:Nat}{xs ys:Array Value}{as:List Addr}(t:M7 h z TI TO i1 i2 l1 l2 i xs ys as)(k:∀b o,b≠S->h.get? b=some o->h'.get? b=some o)(n1:z≠S)(n2:TI≠S)(n3:TO≠S)(n4:i1≠S)(n5:i2≠S)(n6:l1≠S)(n7:l2≠S)(n8:∀a∈as,a≠S):M7 h' z TI TO i1 i2 l1 l2 i xs ys as:=by
 obtain⟨hz,ti,⟨u,v,to⟩,r1,r2,x,y,len,pr⟩:=t;refine⟨?_,k _ _ n2 ti,⟨u,v,k _ _ n3 to⟩,r1.at fun o e=>k _ _ n4 e,r2.at fun o e=>k _ _ n5 e,?_,?_,len,fun j a hj=>?_⟩
 .rcases hz with ⟨e,q⟩|⟨a,r,f,e,q⟩
  .exact .inl ⟨e,k _ _ n1 q⟩
  .exact .inr ⟨a,r,f,e,k _ _ n1 q⟩
 .obtain⟨o,e,q⟩:=x;exact⟨o,k _ _ n6 e,q⟩
 .obtain⟨o,e,q⟩:=y;exact⟨o,k _ _ n7 e,q⟩
 .obtain⟨u,v,e1,e2,e3⟩:=pr j a hj;exact⟨u,v,e1,e2,k _ _ (n8 a (dj hj)) e3⟩
theorem GJ{S z TI TO i1 i2 l1 l2 lo:Addr}{xs ys:Array Value}{R:Result->Shared->Prop}(hh:A.handled=none)(D:ZipApart z TI TO i1 i2 l1 l2)(hn:xs.size<=1000)(r6:xs.size=ys.size)(res:Value){h₁:Heap}(n1:z≠S)(n2:TI≠S)(n3:TO≠S)(n4:i1≠S)(n5:i2≠S)(n6:l1≠S)(n7:l2≠S)(vo:S<lo/\z<lo/\TO<lo/\i1<lo/\i2<lo)(hR:∀ (h':Heap) (tk:Nat) (cH:Array Value) (c:Nat) (as:List Addr),(∀b o,b≠S->b≠z->b≠TO->b≠i1->b≠i2->h₁.get? b=some o->h'.get? b=some o)->h'.get? S=some { cls:=.type "list",dict:=none,data:=.seq cH c,slots:=#[] }->as.length=xs.size->as.Nodup->(∀a∈as,lo<=a)->
   (∀ (j:Nat) a,as[j]?=some a->∃x y,xs[j]?=some x/\ys[j]?=some y/\IsPair h' a x y)->cH.toList=as.map Value.ref->R (.ok (.ret res)) { s with heap:=h',toks:=tk }):
  ∀ (k i:Nat) (h:Heap) (tk c:Nat) (cH:Array Value) (as:List Addr),xs.size-i=k->i<=xs.size->M7 h z TI TO i1 i2 l1 l2 i xs ys as->lo<=h.objs.size->(∀b o,b≠S->b≠z->b≠TO->b≠i1->b≠i2->h₁.get? b=some o->h.get? b=some o)->
   h.get? S=some { cls:=.type "list",dict:=none,data:=.seq cH c,slots:=#[] }->cH.toList=as.map Value.ref->as.Nodup->(∀a∈as,lo<=a)->
   codeAny (model prog w) A (.builtin "list.extend.loop" ⟨[.ref S,.ref z,res],[]⟩) R { s with heap:=h,toks:=tk }:=by
 obtain⟨m1,m2,m3,m4,m5⟩:=vo;intro k;induction k with
 |zero=>
  intro i h tk c cH as hk hi st hl GK hS yi nd ab;have r_:i=xs.size:=by lia
  have fin:∀h',(∀c o,c≠z->c≠TO->c≠i1->c≠i2->h.get? c=some o->h'.get? c=some o)->R (.ok (.ret res)) { s with heap:=h',toks:=tk }:=fun h' kp=>by
   refine hR h' tk cH c as (fun b o h1 h2 h3 h4 h5 e=>kp b o h2 h3 h4 h5 (GK b o h1 h2 h3 h4 h5 e)) (kp S _ n1.symm n3.symm n4.symm n5.symm hS) (by rw[st.len,r_]) nd ab (fun j a hj=>?_) yi;obtain⟨u,v,e1,e2,e3⟩:=st.pr j a hj;have:=ab a (dj hj);exact⟨u,v,e1,e2,kp a _ (fG (by lia)) (fG (by lia)) (fG (by lia)) (fG (by lia)) e3⟩
  refine jL Et ?_;rw[mZ yI _];show wpAny _ A.in1 (pyNext (.ref z) >>= _) _ _ _;obtain⟨u,v,HC⟩:=st.to;rcases st.hz with ⟨e,q⟩|⟨a,r,f,e,q⟩
  .exact aA (wpAny_pyNext_zip_end (s:={ s with heap:=h,toks:=tk }) (A:=A.in1) hh D q st.ti HC st.r1 st.r2 st.x st.y (.inl (by simp;lia)) fun h' kp=>wpAny_pure (fin h' kp))
  .obtain⟨u',v',_,_,ga⟩:=st.pr 0 a (by rw[e];rfl);exact aA (GG (s:={ s with heap:=h,toks:=tk }) (A:=A.in1) hh D q ga st.ti st.r1 st.x (by simp;lia) fun h' kp=>wpAny_pure (fin h' kp))
 |succ k ih=>
  intro i h tk c cH as hk hi st hl GK hS yi nd ab;have dG:i<xs.size:=by lia
  have gJ:cH.size=i:=by rw[<-fZ,yi,aW,st.len]
  have hx:xs[i]?=some xs[i]:=by simp[dG]
  have hy:ys[i]?=some (ys[i]'(by lia)):=by simp
  have Ws:∀a∈as,a<h.objs.size:=fun a ha=>by
   obtain⟨j,hj⟩:=uD.mp ha;obtain⟨_,_,_,_,e⟩:=st.pr j a hj;exact aS e
  have go:∀h' f,(∃u v,IsPair h' TO u v)->lO h' z TI TO (as.headD h.objs.size) f->h'.IsListIter i1 l1 (i+1)->h'.IsListIter i2 l2 (i+1)->IsPair h' h.objs.size xs[i] (ys[i]'(by lia))->h'.objs.size=h.objs.size+1->(∀c o,c≠z->c≠TO->c≠i1->c≠i2->h.get? c=some o->h'.get? c=some o)->
    wpAny (model prog w) A.in1 (updateSeq S (·.push (Value.ref h.objs.size)) >>= fun _=>again (.builtin "list.extend.loop" ⟨[.ref S,.ref z,res],[]⟩)) (fun fin s'=>match fin with|.done f=>R (.ok f) s'|.again c'=>c'.quiet=true/\codeAny (model prog w) A c' R s') (fun e s'=>R (.error e) s') { s with heap:=h',toks:=tk }:=fun h' f ⟨u,v,HC⟩ gz g1 g2 gp gs kp=>by
   have T8:=kp S _ n1.symm n3.symm n4.symm n5.symm hS;have up:∀b o,b≠S->h'.get? b=some o->(h'.update S (Obj.mapSeq (·.push (Value.ref h.objs.size)))).get? b=some o:=fun b o hb e=>(k4 _ _ (cZ hb)).trans e;have HD:=k8 (Obj.mapSeq (·.push (Value.ref h.objs.size))) T8 rfl;have O2:∀a∈as++[h.objs.size],lo<=a:=fun a ha=>by
    rcases bO.mp ha with q|q
    .exact ab a q
    .rw[bL.mp q];exact hl
   have hnS:∀a∈as++[h.objs.size],a≠S:=fun a ha=>fG (bn m1 (O2 a ha));refine aA (uU T8 rfl (wpAny_pure ⟨qB yI _,ih (i+1) _ tk _ (cH.push (Value.ref h.objs.size)) (as++[h.objs.size]) (by lia) dG ?_ ?_ (fun b o h1 h2 h3 h4 h5 e=>up b o h1 (kp b o h2 h3 h4 h5 (GK b o h1 h2 h3 h4 h5 e))) HD (by rw[iQ,yi,cY];rfl) ?_ O2⟩) (by rw[gJ];exact a8 (show i<=1000 by lia) (by decide)) (by show (cH.push (Value.ref h.objs.size)).size<=sizeLine+1;rw[Array.size_push,gJ];exact a8 (show i+1<=1001 by lia) (by decide)))
   .refine M7.keep (h:=h') ⟨.inr ?_,kp _ _ D.TIz D.TITO D.TIi1 D.TIi2 st.ti,⟨u,v,HC⟩,g1,g2,?_,?_,by rw[cp,st.len];rfl,fun j b hj=>?_⟩ up n1 n2 n3 n4 n5 n6 n7 hnS
    .cases as with
     |nil=>exact⟨_,[],f,rfl,gz⟩
     |cons a r=>exact⟨a,r++[h.objs.size],f,rfl,gz⟩
    .obtain⟨o,e,q⟩:=st.x;exact⟨o,kp _ _ D.l1z D.l1TO D.l1i1 D.l1i2 e,q⟩
    .obtain⟨o,e,q⟩:=st.y;exact⟨o,kp _ _ D.l2z D.l2TO D.l2i1 D.l2i2 e,q⟩
    .rcases Nat.lt_trichotomy j as.length with h1|h1|h1
     .rw[gW h1] at hj;obtain⟨u',v',e1,e2,e3⟩:=st.pr j b hj;have:=ab b (dj hj);exact⟨u',v',e1,e2,kp b _ (fG (by lia)) (fG (by lia)) (fG (by lia)) (fG (by lia)) e3⟩
     .subst h1;have hb:h.objs.size=b:=by simpa using hj
      subst hb;rw[st.len];exact⟨_,_,hx,hy,gp⟩
     .have B3:(as++[h.objs.size])[j]?=none:=fX (by rw[cp,p_];lia);rw[B3] at hj;cases hj
   .rw[gx,gs];lia
   .exact lf.mpr ⟨nd,by simp,fun a ha b hb=>by rw[bL.mp hb];exact aQ (Ws a ha)⟩
  refine jL Et ?_;rw[mZ yI _];show wpAny _ A.in1 (pyNext (.ref z) >>= _) _ _ _;obtain⟨u,v,HC⟩:=st.to;rcases st.hz with ⟨e,q⟩|⟨a,r,f,e,q⟩
  .refine aA (wpAny_pyNext_zip_item (s:={ s with heap:=h,toks:=tk }) D q st.ti HC st.r1 st.r2 st.x st.y hx hy fun h' a1 a2 a3 a4 a5 a6 a7=>?_);exact go h' false ⟨_,_,a2⟩ (by rw[e];exact a1) a3 a4 a5 a6 a7
  .obtain⟨u',v',_,_,ga⟩:=st.pr 0 a (by rw[e];rfl);refine aA (DW (s:={ s with heap:=h,toks:=tk }) D q ga st.ti st.r1 st.r2 st.x st.y hx hy fun h' a1 a3 a4 a5 a6 a7=>?_);exact go h' true ⟨u,v,a7 TO _ D.TOz D.TOi1 D.TOi2 HC⟩ (by rw[e];exact a1) a3 a4 a5 a6 fun c o c1 _ c3 c4 e=>a7 c o c1 c3 c4 e
theorem AZ{z TI TO i1 i2 l1 l2:Addr}{xs ys:Array Value}{R:Result->Shared->Prop}(hh:A.handled=none)(D:ZipApart z TI TO i1 i2 l1 l2)(hn:xs.size<=1000)(r6:xs.size=ys.size)(S:Addr)(c₀:Nat)(hS:s.heap.get? S=some { cls:=.type "list",data:=.seq #[] c₀ })(n1:z≠S)(n2:TI≠S)(n3:TO≠S)(n4:i1≠S)(n5:i2≠S)(n6:l1≠S)(n7:l2≠S)(st:M7 s.heap z TI TO i1 i2 l1 l2 0 xs ys [])(hR:∀ (h':Heap) (tk:Nat) (cH:Array Value) (c:Nat) (as:List Addr),(∀b o,b≠S->b≠z->b≠TO->b≠i1->b≠i2->s.heap.get? b=some o->h'.get? b=some o)->h'.get? S=some { cls:=.type "list",dict:=none,data:=.seq cH c,slots:=#[] }->as.length=xs.size->as.Nodup->(∀a∈as,s.heap.objs.size<=a)->
   (∀ (j:Nat) a,as[j]?=some a->∃x y,xs[j]?=some x/\ys[j]?=some y/\IsPair h' a x y)->cH.toList=as.map Value.ref->R (.ok (.ret .none)) { s with heap:=h',toks:=tk }):
  wpAny (model prog w) A.in1 (Builtin.List.listExtendWith (.ref S) (.ref z) .none)
   (fun fin s'=>match fin with|.done f=>R (.ok f) s'|.again c'=>c'.quiet=true/\codeAny (model prog w) A c' R s') (fun e s'=>R (.error e) s') s:=by
 have gz:IsZip s.heap z TI TO .none:=by
  rcases st.hz with ⟨_,q⟩|⟨a,r,f,e,q⟩
  .exact q
  .cases e
 have hT:s.TypeIs (.ref z) "zip":=⟨_,gz,rfl⟩
 unfold Builtin.List.listExtendWith;refine aA (wpAny_typeOf hT ?_);have h1:Builtin.List.listSameRef (.ref S) (.ref z)=false:=by simp[Builtin.List.listSameRef,n1.symm]
 have h2:(Value.type "zip"==Value.type "list")=false:=by decide
 have h3:(Value.type "zip"==Value.type "tuple")=false:=by decide
 simp only[h1,h2,h3,Bool.or_false,f8,eJ];refine aA (wpAny_pyIter_zip gz ?_);refine aA (gy ?_);unfold Builtin.List.listLengthHint;refine aA (wpAny_specialOf hT AY ?_);show wpAny _ A.in1 (specialOf (Value.ref z) (Str.ofString "__length_hint__") >>= _) _ _ _;refine aA (wpAny_specialOf hT yh ?_);refine wpAny_pure ?_;show wpAny _ A.in1 (rule "list.extend.makes-room" >>= fun _=>Builtin.List.listTouch (.ref S) >>= fun _=>
  again (.builtin "list.extend.loop" ⟨[.ref S,.ref z,.none],[]⟩)) _ _ _
 refine aA (fN ?_);refine aA ?_;show wpAny _ A.in1 (updateSeq S (·.push .none) >>= fun _=>updateSeq S (·.pop)) _ _ _;refine aA (uU hS rfl ?_);have T9:=k8 (Obj.mapSeq (·.push Value.none)) hS rfl;refine uU (hz:=by seq_fits) T9 rfl ?_;have hS₃:=k8 (Obj.mapSeq (·.pop)) T9 rfl;have Ri:∀b o,b≠S->s.heap.get? b=some o->((s.heap.update S (Obj.mapSeq (·.push Value.none))).update S (Obj.mapSeq (·.pop))).get? b=some o:=
  fun b o hb e=>(k4 _ _ (cZ hb)).trans ((k4 _ _ (cZ hb)).trans e)
 have Rj:∀ {a k x},s.heap.IsListIter a k x->a<s.heap.objs.size:=fun h=>let ⟨o,e,_⟩:=h;aS e;obtain⟨u,v,HC⟩:=st.to;refine wpAny_pure ⟨qB F.plain_extend_loop _,GJ (s:=s) (h₁:=s.heap) (lo:=s.heap.objs.size) hh D hn r6 .none n1 n2 n3 n4 n5 n6 n7 ⟨aS hS,aS gz,aS HC,Rj st.r1,Rj st.r2⟩ hR xs.size 0 _ s.toks _ #[] [] (uY _) (bT _)
  (st.keep Ri n1 n2 n3 n4 n5 n6 n7 fun a ha=>(nomatch ha)) (by rw[gx,gx];exact aN _) (fun b o hb _ _ _ _ e=>Ri b o hb e) hS₃ rfl ja fun a ha=>(nomatch ha)⟩
theorem sX{z TI TO i1 i2 l1 l2:Addr}{xs ys:Array Value}{Q:Value->Shared->Prop}(hh:A.handled=none)(D:ZipApart z TI TO i1 i2 l1 l2)(hn:xs.size<=1000)(r6:xs.size=ys.size)(st:M7 s.heap z TI TO i1 i2 l1 l2 0 xs ys [])(hQ:∀ (h':Heap) (tk:Nat) (cH:Array Value) (c:Nat) (as:List Addr),(∀b o,b≠z->b≠TO->b≠i1->b≠i2->s.heap.get? b=some o->h'.get? b=some o)->h'.get? s.heap.objs.size=some { cls:=.type "list",dict:=none,data:=.seq cH c,slots:=#[] }->as.length=xs.size->as.Nodup->(∀a∈as,s.heap.objs.size<a)->
   (∀ (j:Nat) a,as[j]?=some a->∃x y,xs[j]?=some x/\ys[j]?=some y/\IsPair h' a x y)->cH.toList=as.map Value.ref->Q (.ref s.heap.objs.size) { s with heap:=h',toks:=tk }):
  wpAny (model prog w) A (call (.type "list") [.ref z]) Q E s:=by
 refine callType_codes (Q₁:=fun obj s₁=>obj=.ref s.heap.objs.size/\s₁={ s with heap:=s.heap.push { cls:=.type "list",data:=.seq #[] } }) PySem.F.called_list (PySem.F.typeCall_list_1 _) PySem.F.entry_list_init
  (code_list_new _ ⟨rfl,rfl⟩) fun obj s₁ h₁=>?_
 obtain⟨rfl,rfl⟩:=h₁;have hS:(s.heap.push { cls:=.type "list",data:=.seq #[] }).get? s.heap.objs.size=some { cls:=.type "list",data:=.seq #[] }:=cX _ rfl;have gz:IsZip s.heap z TI TO .none:=by
  rcases st.hz with ⟨_,q⟩|⟨a,r,f,e,q⟩
  .exact q
  .cases e
 obtain⟨u,v,HC⟩:=st.to;have Rj:∀ {a k x},s.heap.IsListIter a k x->a≠s.heap.objs.size:=fun h=>let ⟨o,e,_⟩:=h;aQ (aS e);have ZE:∀ {a x},s.heap.IsList a x->a≠s.heap.objs.size:=fun h=>let ⟨o,e,_⟩:=h;aQ (aS e);have n1:=aQ (aS gz);have n2:=aQ (aS st.ti);have n3:=aQ (aS HC);have n4:=Rj st.r1;have n5:=Rj st.r2;have n6:=ZE st.x;have n7:=ZE st.y;have rZ:=st.keep (h':=s.heap.push { cls:=.type "list",data:=.seq #[] }) (S:=s.heap.objs.size) (fun b o _ e=>cB _ e) n1 n2 n3 n4 n5 n6 n7 fun a ha=>(nomatch ha)
 refine⟨⟨_,hS,rfl⟩,PySem.F.args_list_init_2 _ _,?_⟩;show wpAny _ A.in1.in1 (do let eZ <- Builtin.List.listItems (.ref s.heap.objs.size);Builtin.List.listUpdate (.ref s.heap.objs.size) (fun _=>#[]);letGo eZ.toList.reverse;Builtin.List.listExtendWith (.ref s.heap.objs.size) (.ref z) .none) _ _ _;refine aA ?_;unfold Builtin.List.listItems;refine aA (lq hS rfl (wpAny_pure ?_));show wpAny _ A.in1.in1 (updateSeq s.heap.objs.size (fun _=>#[]) >>= fun _=>letGo (#[]:Array Value).toList.reverse >>= fun _=>Builtin.List.listExtendWith (.ref s.heap.objs.size) (.ref z) .none) _ _ _;refine aA (uU hS rfl ?_);have T9:=k8 (Obj.mapSeq (fun _=>(#[]:Array Value))) hS rfl;have Ri:∀b o,b≠s.heap.objs.size->(s.heap.push { cls:=.type "list",data:=.seq #[] }).get? b=some o->((s.heap.push { cls:=.type "list",data:=.seq #[] }).update s.heap.objs.size (Obj.mapSeq (fun _=>(#[]:Array Value)))).get? b=some o:=
  fun b o hb e=>(k4 _ _ (cZ hb)).trans e
 refine aA (wpAny_letGo ?_);refine AZ (A:=A.in1) hh D hn r6 _ _ T9 n1 n2 n3 n4 n5 n6 n7 (rZ.keep Ri n1 n2 n3 n4 n5 n6 n7 fun a ha=>(nomatch ha)) fun h' tk cH c as hk T8 hl hnd pq hpr yi=>⟨rfl,?_⟩
 refine hQ h' tk cH c as (fun b o b1 b2 b3 b4 e=>hk b o (aQ (aS e)) b1 b2 b3 b4 (Ri _ _ (aQ (aS e)) (cB _ e))) T8 hl hnd (fun a ha=>?_) hpr yi;have:=pq a ha;rw[gx,gY] at this;exact this
end
theorem aO.many(I:aO X ae σ H s)(k:∀b u,s.heap.get? b=some u->h'.get? b=some u)(eZ:∀b,b<s.heap.objs.size->H' b=H b)(new:∀b o,s.heap.objs.size<=b->H' b=some o->cC X.prog X.w H' h' b o):aO X ae σ H' { s with heap:=h',toks:=t' }:=by
 have sm:∀b o,H b=some o->H' b=some o:=fun b o e=>by rw[eZ b (I.bZ b o e).lt];exact e
 refine I.un ⟨fun b u q _ _ _=>k b u q,fun b u q _ _ _=>⟨u.slots,k b u q⟩,fun b u q n _=>by rw[eZ b (aS q)];exact n,fun b u q _=>⟨u,k b u q⟩,fun b xs q=>sm b _ q,fun b u xs q=>sm b _ q,fun b ps q=>⟨#[],by rw[sm b _ q];simp⟩⟩ fun b o e=>?_;by_cases hb:b<s.heap.objs.size
 .rw[eZ b hb] at e;exact(I.bZ b o e).jd (fun d u _ q=>k d u q) (fun d q=>sm d _ q) fun d xs q=>sm d _ q
 .exact new b o (Nat.not_lt.mp hb) e
open pZ in
def yj(H:Hp)(S:Addr)(zs:Zs):Hp:=fun b=>if b=S then some (.lst (zr zs)) else match zs.find? (fun z=>decide (z.1=b)) with
 |some z=>some (mR z.2)
 |none=>H b
open pZ in
theorem Cs:∀ {zs:Zs} {z:Addr×Int×Int},(zs.map (·.1)).Nodup->z∈zs->zs.find? (fun y=>decide (y.1=z.1))=some z
 |y::zs,z,nd,hz=>by
  obtain⟨n1,n2⟩:=fA.mp nd;rw[lm];rcases bg.mp hz with rfl|q
  .simp
  .have:y.1≠z.1:=fun e=>n1 (bh.mpr ⟨z,q,e.symm⟩);rw[fc this];exact Cs n2 q
section
open pZ
variable {X:Cx}
def tLZ(K:PySem.W.Frag)(ta:TA):TE:=fun σ H Q=>ta σ H fun vs H1=>∃ (a b:Addr) (ns ms:List Int),vs=[.ref a,.ref b]/\aZ K H1 a (ns.map V.int)/\aZ K H1 b (ms.map V.int)/\ns.length=ms.length/\ns.length<=1000/\
 ∀ (l:Addr) (zs:Zs) (H':Hp),aK H1 H'->H1 l=none->H' l=some (.lst (zr zs))->pZ.PO H' zs->zp zs=ns.zip ms->Q (.ref l) H'
theorem rQ:∀ {ns:List Int} {us:List Value} {j:Nat} {x:Value},aT (ns.map V.int) us->us[j]?=some x->∃n t,ns[j]?=some n/\x=.int n t
 |[],_,j,x,.nil,h=>by cases h
 |n::ns,_,0,x,.cons ⟨t,e⟩ r,h=>by subst e;cases h;exact⟨n,t,rfl,rfl⟩
 |n::ns,_,j+1,x,.cons _ r,h=>rQ (ns:=ns) r h
theorem Cu:∀ {zs:Zs},aT (zr zs) (zs.map fun z=>Value.ref z.1)
 |[]=>.nil
 |z::zs=>.cons rfl (Cu (zs:=zs))
theorem Rk{a b:Expr}{ta:TA}{p p2 pos Rm:Pos}(hc:X.calm=true)(hg:Gl X "zip")(hm:X.mg "zip"=none)(QZ:Gl X "list")(L9:X.mg "list"=none)(ha:PA X [a,b] ta)(hs:starEach [a,b] X.env=[(false,eval a X.env),(false,eval b X.env)]:=by rfl)(lB:starEach [b] X.env=[(false,eval b X.env)]:=by rfl)(he:starEach [.Call (.Name "zip" p) [a,b] [] pos] X.env=[(false,eval (.Call (.Name "zip" p) [a,b] [] pos) X.env)]:=by rfl)(KA:starEach [] X.env=[]:=by rfl):
  PE X (.Call (.Name "list" p2) [.Call (.Name "zip" p) [a,b] [] pos] [] Rm) (tLZ X.K ta):=by
 intro ae s σ H Q I h;refine lc (iE I QZ L9 mS ?_);refine callWith_type1 ?_ (by rw[he,KA]) (by rw[KA];rfl);rw[he];show wpAny _ _ (spliced ((false,eval (.Call (.Name "zip" p) [a,b] [] pos) X.env)::backTo Rm [])) _ _ s;refine Calls.spliced_cons ?_;refine Call_ (iE I hg hm PyProof.Rows.boot_zip (tm (dq (ha pos ae s σ H _ I h) fun us s1 ⟨vs,H1,I1,r1,q1⟩=>?_) (by rw[hs,lB]) (by rw[lB];rfl)));obtain⟨l,m,ns,ms,rfl,hl,hm',r6,Ov,q⟩:=q1;obtain⟨u1,u2,rfl,Qs,ru2⟩:=r1.two;obtain rfl:u1=Value.ref l:=Qs;obtain rfl:u2=Value.ref m:=ru2;obtain⟨its,rv,pt,_⟩:=I1.list hl;obtain⟨vk,ZF,Ly,_⟩:=I1.list hm';have il:its.length=ns.length:=by rw[<-rv.length,aW]
 have il2:vk.length=ms.length:=by rw[<-ZF.length,aW]
 have dG:l<s1.heap.objs.size:=by obtain⟨o,e,_⟩:=pt.isList;exact aS e
 have Wt:m<s1.heap.objs.size:=by obtain⟨o,e,_⟩:=Ly.isList;exact aS e
 refine call_zip_2 pt.isList Ly.isList fun h' gz gi gq r1 r2 gs k=>?_;refine Calls.spliced_nil ?_;have kl:∀ {a x},s1.heap.IsList a x->h'.IsList a x:=fun z=>let ⟨o,e,r⟩:=z;⟨o,k _ _ e,r⟩;refine sX (s:={ s1 with heap:=h' }) (I1.ok.hd hc) (zipApart_new dG Wt) (by simp;lia) (by simp;lia) ⟨.inl ⟨rfl,gz⟩,gi,⟨_,_,gq⟩,r1,r2,kl pt.isList,kl Ly.isList,rfl,fun j a hj=>by simp at hj⟩ fun h2 tk cH c as k2 hS Ws nd ab pr yi=>?_;have kk:∀b u,s1.heap.get? b=some u->h2.get? b=some u:=fun b u e=>by
  have:=aS e;exact k2 b u (aQ (by lia)) (aQ (by lia)) (aQ (by lia)) (aQ (by lia)) (k b u e)
 have gs':h'.objs.size=s1.heap.objs.size+5:=gs;have aah:as.length=ns.length:=by rw[Ws];simp;exact il
 let zs:Zs:=as.zip (ns.zip ms)
 have z1:zs.map (·.1)=as:=List.map_fst_zip (by rw[ni];lia);have z2:zp zs=ns.zip ms:=List.map_snd_zip (by rw[ni];lia);have Wu:(zs.map (·.1)).Nodup:=by rw[z1];exact nd
 have Wv:∀z∈zs,h'.objs.size<z.1/\∃t u,IsPair h2 z.1 (.int z.2.1 t) (.int z.2.2 u):=fun z hz=>by
  obtain⟨j,hj⟩:=uD.mp hz;obtain⟨e1,e2⟩:=uw.mp hj;obtain⟨e3,e4⟩:=uw.mp e2;obtain⟨x,y,f1,f2,f3⟩:=pr j z.1 e1;obtain⟨n,t,g1,rfl⟩:=rQ rv (by simpa using f1);obtain⟨n',u,g2,rfl⟩:=rQ ZF (by simpa using f2);rw[e3] at g1;rw[e4] at g2;cases g1;cases g2;exact⟨ab _ (dj e1),t,u,f3⟩
 have fS:∀z∈zs,z.1≠h'.objs.size:=fun z hz=>fG (Wv z hz).1;have po:pZ.PO (yj H1 h'.objs.size zs) zs:=fun z hz=>by
  unfold yj;rw[au (fS z hz),Cs Wu hz]
 have GL:(yj H1 h'.objs.size zs) h'.objs.size=some (.lst (zr zs)):=by unfold yj;rw[av rfl]
 have eZ:∀b,b<s1.heap.objs.size->(yj H1 h'.objs.size zs) b=H1 b:=fun b hb=>by
  unfold yj;rw[au (aQ (by lia)),List.find?_eq_none.mpr fun z hz q=>?_];have:=(Wv z hz).1;have:=dE q;lia
 have Hv:cH.toList=zs.map fun z=>Value.ref z.1:=by rw[yi,<-z1,cQ];rfl
 have I2:aO X ae σ (yj H1 h'.objs.size zs) { s1 with heap:=h2,toks:=tk }:=I1.many (t':=tk) kk eZ fun b o hb e=>by
  unfold yj at e;by_cases eb:b=h'.objs.size
  .subst eb;rw[av rfl] at e;cases e;refine⟨?_,cH.toList,c,?_,by simpa using hS⟩
   .rw[dz,<-bu,z2,ni];exact a8 (show _<=1000 by lia) (by decide)
   .rw[Hv];exact Cu
  .rw[au eb] at e;cases f:zs.find? (fun z=>decide (z.1=b)) with
   |none=>
    rw[f] at e;have:H1 b=some o:=e;exact absurd (I1.bZ b o this).lt (by lia)
   |some z=>
    rw[f] at e;cases e;have hz:=List.mem_of_find?_eq_some f;obtain rfl:z.1=b:=dE (List.find?_some (p:=fun z:Addr×Int×Int=>decide (z.1=b)) f);obtain⟨_,t,u,gp⟩:=Wv z hz;exact⟨by show 2<=sizeLine;decide,[.int z.2.1 t,.int z.2.2 u],.cons ⟨_,rfl⟩ (.cons ⟨_,rfl⟩ .nil),_,gp,rfl,_,rfl,rfl⟩
 exact⟨.ref h'.objs.size,_,I2,rfl,q _ zs _ (fun b o e=>by rw[eZ b (I1.bZ b o e).lt];exact e) (I1.bZ.fresh (by lia)) GL po z2⟩
end
end L2
namespace pZ
open PySem L2 jn
abbrev M8:Stmt:=top 40
abbrev M9:Stmt:=top 41
theorem jA:(["_law_turn","_law_left","_law_pot_here"]:List Str).Nodup:=by decide +kernel
theorem v8:(["_law_tie","_law_found"]:List Str).Nodup:=by decide +kernel
theorem pA:(["_law_house","_law_counts"]:List Str).Nodup:=by decide +kernel
theorem lP:(["_law_k","_law_left","_law_pot_here"]:List Str).Nodup:=by decide +kernel
theorem ie:(["_law_one","_law_other","_law_names"]:List Str).Nodup:=by decide +kernel
abbrev M_(K:PySem.W.Frag):TE:=(YR K "list" E1 (a_ 1) (bi (oz fT [] E0 (bi (a_ 2) (bi (Pw (fun xs H Q=>∃p ys,xs=[V.ref p]/\(aZ K H p ys\/c_ K H p ys)/\Q (.int ys.length) H) (bi (a_ 1) fz)) fz))) fz))
def pB(n:Nat)(ts:Ts):List Nat:=(List.range n).map fun (h:Nat)=>eN ts (ci h)
theorem GN:(pB n ts).length=n:=by unfold pB;rw[aW,cK]
theorem GO(hh:h<n):(pB n ts).getD h 0=eN ts (ci h):=by
 unfold pB;rw[b_,bV,gu hh];rfl
theorem GQ:(lM xs).map (·.1)=xs.map ci:=by
 unfold lM;rw[cQ];refine lX fun k=>?_;rw[bV,bV];by_cases h:k<xs.length
 .rw[gu h,bH h];exact congrArg (fun x=>some (ci x)) (cA h)
 .rw[fX (by rw[cK];lia),fX (by lia)];rfl
theorem yk(nd:xs.Nodup):eN (lM xs) (ci h)=if h∈xs then 1 else 0:=by
 unfold eN;rw[fQ,GQ];have Wu:=rq nd;have e:ci h∈xs.map ci↔h∈xs:=by
  rw[bh];exact⟨fun ⟨a,ha,e⟩=>dF e ▸ ha,fun hh=>⟨h,hh,rfl⟩⟩
 by_cases hh:h∈xs
 .rw[av hh];exact Nat.le_antisymm (List.nodup_iff_count.mp Wu _) (List.count_pos_iff.mpr (e.mpr hh))
 .rw[au hh];exact List.count_eq_zero.mpr fun z=>hh (e.mp z)
theorem DX:List.replicate n (V.int 1)=NV (pB n (lM (List.range n))):=by
 refine lX fun i=>?_;unfold NV pB;rw[cQ,uz,bV];by_cases hi:i<n
 .rw[av hi,gu hi];show some (V.int 1)=some (V.int ((eN (lM (List.range n)) (ci i):Nat):Int));rw[yk i8,av (bP.mpr hi)];rfl
 .rw[au hi,fX (by rw[cK];lia)];rfl
theorem Rn(h:0<zs.length):zr zs≠NV ns:=fun e=>by
 cases zs with
 |nil=>exact absurd h (gZ _)
 |cons z zs=>
  cases ns with
  |nil=>cases e
  |cons n ns=>exact absurd (lr e).1 (by intro z;cases z)
theorem _root_.jn.bS.pos(F:bS n ts):0<ts.length:=by
 obtain⟨k,w⟩:=F.con 0 1 (by have:=F.n1;lia) (by have:=F.n1;lia);cases k with
 |zero=>cases w
 |succ k=>obtain⟨c,_,t⟩:=w;exact uA t
theorem DY:(cs.map ci).zip ((cs.drop 1++cs.take 1).map ci)=lM cs:=by
 refine lX fun k=>?_;unfold lM;rw[bV];by_cases h:k<cs.length
 .rw[gu h];refine uw.mpr ⟨?_,?_⟩
  .show _=some (ci (cs.getD k 0));rw[bV,bH h,cA h];rfl
  .show _=some (ci (cs.getD ((k+1) % cs.length) 0));rw[bV];by_cases h2:k+1<cs.length
   .rw[gW (by rw[lj];lia),zf,Nat.add_comm 1 k,bH h2,kP h2,cA h2];rfl
   .rw[kO (by rw[lj];lia),lj,show k-(cs.length-1)=0 by lia,show k+1=cs.length by lia,Nat.mod_self,yK (by lia),bH (by lia),cA (by lia)];rfl
 .rw[fX (by rw[ni,aW,aW,cp,lj,jH];lia),fX (by rw[cK];lia)];rfl
theorem yl(hp:aY H p)(hL:H L=some (.lst (NV (List.range m))))(ZG:L≠p)(hD:H D'=none)(hr:r<=m)(hm:m<=32)(q:∀ (xs ls:List Nat) (H2:Hp),(∀b o,H b=some o->b≠p->b≠L->H2 b=some o)->aY H2 p->H2 D'=some (.lst (NV xs))->(xs++ls).Perm (List.range m)->xs.length=r->fin H2):
  gC (Eb 0 r) (bA 0) LW (M_ K) D' fin [none,some (.ref L),some (.ref p)] (upd H D' (.lst [])):=by
 have ZH:D'≠p:=hp.ne hD;have Ww:L≠D':=ak hL hD;refine eT (n:=r) (lo:=0) (fun i ys σ H2=>(∃k,σ=[k,some (.ref L),some (.ref p)])/\(∀b o,H b=some o->b≠p->b≠L->H2 b=some o)/\aY H2 p/\∃ls xs:List Nat,H2 L=some (.lst (NV ls))/\H2 D'=some (.lst ys)/\ys=NV xs/\(xs++ls).Perm (List.range m)/\xs.length=i)
  ⟨⟨_,rfl⟩,fun b o e _ _=>ai hD b o e,hp.same (ai hD),List.range m,[],by rw[am Ww];exact hL,af,rfl,ju _,rfl⟩ ?_ ?_
 .rintro i ys σ H2 Kt Kf hi ⟨⟨k',rfl⟩,sm,xI,ls,xs,T_,jw,rfl,pm,xl⟩ kt kf;have ll:ls.length=m-i:=by have:=pm.length_eq;rw[cp,cK] at this;lia
  refine⟨_,rfl,.inl ⟨rfl,_,aZ.of T_⟩,_,rfl,_,rfl,L,_,rfl,.inl (aZ.of T_),p,_,rfl,by rw[bj];lia,by rw[bj];lia,xI,fun d H3 hd s3 mE=>?_⟩;rw[bj] at hd;have hv:ls[d]?=some ls[d]:=bH hd;refine⟨L,_,(d:Int),d,.int (ls[d]:Nat),rfl,rfl,s3 _ _ T_ ZG,by lia,by lia,(vh (eQ (by rw[bj];exact hd))).1,by unfold NV;rw[bV,hv];rfl,?_⟩;refine kt _ _ _ (by rw[am Ww.symm];exact s3 _ _ jw ZH) (by rw[bj,xl];exact bn (show i<33 by lia) (by decide)) ⟨⟨_,rfl⟩,fun b o e n n2=>?_,?_,ls.eraseIdx d,xs++[ls[d]],by rw[am Ww,af,yb],af,by rw[jp],Gh pm hv,by rw[cp,xl];rfl⟩
  .rw[am (ak e hD),am n2];exact s3 _ _ (sm _ _ e n n2) n
  .exact(mE.put ZG.symm).put ZH.symm
 .rintro ys σ H2 ⟨_,sm,xI,ls,xs,T_,jw,rfl,pm,xl⟩;exact q xs ls H2 sm xI jw pm xl
section
variable {P:Program} {w:World} {K:PySem.W.Frag} {mg:Str->Option Value} {base:Heap}
theorem Cv:aP ["_law_pot_here","_law_many","_law_ties","_law_names","_law_left"] ["_law_pot_here","_law_many","_law_ties"] (ao M9):=⟨rfl,rfl,rfl,by decide +kernel,rfl,by decide +kernel,by decide +kernel⟩
def Cw:Sp:=fun vs H Q _=>∃ (p l:Addr) (n:Nat) (zs:Zs),vs=[.ref p,.int n,.ref l]/\aY H p/\H l=some (.lst (zr zs))/\PO H zs/\l≠p/\bS n (zp zs)/\∀ (r:Addr) (lT:Zs) (H':Hp),aL p H H'->aY H' p->H r=none->H' r=some (.lst (zr lT))->PO H' lT->bS n (zp lT)->Q (.ref r) H'
theorem Na(F:ii K "_law_renamed" "_law_renamed" M9 f fd)(B:Bl mg)(D:dI P w K mg base bb 1 "_law_take" ["_law_pot_here","_law_many"] fT):bD P w K mg base bb 2 f fd ["_law_pot_here","_law_many","_law_ties"] Cw:=by
 refine F.ok Cv (fun vs H Q E h=>?_) (fun eL A outer s H vs Q E hr h=>?_)
 .obtain⟨p,l,n,zs,rfl,_⟩:=h;rfl
 .obtain⟨p,l,n,zs,rfl,hp,hl,po,nlp,Fi,q⟩:=h;have n2:=Fi.n2;have zl:zs.length<=256:=by have:=Fi.len;rwa [bu] at this
  refine'⟨_,(aj (aU (i:=3) Cv.nd rfl (Or.inr rfl) (cP (lG rfl) (by rfl) B.lst mS (aa (cP jZ (by rfl) B.range yM (aa (pv 1) ag)) ag)))
   (aj (df (aX hU (aI D hr aH (aa (pv 0) (aa ap ag))) ap (be _)) (aj (aU (i:=4) Cv.nd rfl (Or.inr rfl) (cP (lG rfl) (by rfl) B.lst mS (aa (cP jZ (by rfl) B.range yM (aa (pv 1) ag)) ag)))
    (aq (aU (i:=3) Cv.nd rfl (Or.inr rfl) ?c1))) bq)
   (aq (a9 ?c2)))),?_⟩
  case c1=>
   refine' cI (g:=(bA 0)) (te:=(M_ K)) (NB:=["_law_k","_law_left","_law_pot_here"]) (src:=[none,some 4,some 0]) (br (by kernel_rfl)) rfl (bv rfl B.range (aa (pv 1) ag)) ?g ?t ?e;case g=>exact fun cl C s₃ H₃ fp=>(az (i:=0) lP rfl (Or.inl rfl) (Or.inr rfl))
   case t=>exact fun cl C s₃ H₃ fp=>cV
   case e=>exact fun cl C s₃ H₃ fp=>(fK e_ PySem.F.slot_list_pop PySem.F.type_list_pop wX (pv 1) (aa (aI D hr aH (aa (pv 2) (aa (aE aM (by rfl) B.len dN (aa (pv 1) ag)) ag))) ag))
  case c2=>
   refine' cI (g:=(sn K 2 (fj (bA 0) (fj (bA 1) sj)))) (te:=(qL (bi (l6 (EU K) (a_ 2) (a_ 0)) (bi (l6 (EU K) (a_ 2) (a_ 1)) fz)))) (NB:=["_law_one","_law_other","_law_names"]) (src:=[none,none,some 3]) (br (by kernel_rfl)) rfl (cw (pv 2)) ?g ?t ?e;case g=>exact fun cl C s₃ H₃ fp=>(dv (n:=2) rfl (aG (az (i:=0) ie rfl (Or.inl rfl) (Or.inr rfl)) (aG (az (i:=1) ie rfl (Or.inl rfl) (Or.inr rfl)) b9)))
   case t=>exact fun cl C s₃ H₃ fp=>cV
   case e=>exact fun cl C s₃ H₃ fp=>(cG (aa (ba aR (pv 2) (pv 0) (fun _ _=>rfl)) (aa (ba aR (pv 2) (pv 1) (fun _ _=>rfl)) ag)))
  refine⟨_,rfl,n,rfl,fun R hR=>⟨R,n,rfl,af,by lia,fun N hN=>?_⟩⟩;have s0:aK H (upd (upd H R (.Bk 0 n)) N (.lst (NV (List.range n)))):=(ai hR).trans (ai hN);have gN:=af (H:=upd H R (.Bk 0 n)) (a:=N) (o:=.lst (NV (List.range n)));have Wx:H N=none:=(ai hR).free hN;generalize upd (upd H R _) N _=H0 at *;dsimp only;refine uf (fun σ Hc=>∃N xs v,σ=[some (.ref p),some (.int n),some (.ref l),some (.ref N),v]/\aL p H Hc/\aY Hc p/\Hc N=some (.lst (NV xs))/\xs.Perm (List.range n)) ?_ ?_
  .rintro σ Hc ⟨N,xs,v,rfl,sc,lN,ZI,pm⟩;have xl:xs.length=n:=by have:=pm.length_eq;rwa [cK] at this
   have ZJ:=sc _ _ hl nlp;have poc:=po.oX sc hp;refine⟨_,rfl,l,rfl,⟨_,aZ.of ZJ⟩,fun D1 AO=>?_⟩;refine rE (ren xs) (fun σ=>∃a b,σ=[a,b,some (.ref N)]) ZJ poc AO (by lia) ⟨_,_,rfl⟩ ?_ ?_
   .rintro z σ H3 Rr Kf hz ⟨a,b,rfl⟩ s3 ha kt;obtain⟨⟨a0,a1⟩,⟨b0,b1⟩⟩:=Fi.rg z.2 (bh.mpr ⟨z,hz,rfl⟩);have gt:∀x:Int,0<=x->x<n->wU (NV xs) x=some (.int (ci (xs.getD x.toNat 0))):=fun x h0 h1=>by
     have:=aB (xs:=NV xs) (iZ (xs:=xs) (j:=x.toNat) (by lia));rwa [mY h0] at this
    refine⟨z.1,_,rfl,c_.of ha,rfl,_,_,rfl,_,_,rfl,rfl,?_⟩;exact⟨_,rfl,_,rfl,N,_,_,_,rfl,rfl,aZ.of (s3 _ _ ZI),gt _ a0 a1,_,rfl,_,rfl,N,_,_,_,rfl,rfl,aZ.of (s3 _ _ ZI),gt _ b0 b1,by show 2<=sizeLine;decide,fun t ht=>kt _ _ ⟨_,_,rfl⟩ ht⟩
   .intro lT H3 s3 h3 ML e3 _;exact q D1 lT H3 (sc.trans (aL.of s3)) (lN.same s3) (sc.free lN.full AO) h3 ML (by rw[e3];exact Fi.ren pm)
  .intro Nx ZK;refine⟨_,rfl,p,2,rfl,by decide,by decide,hp.same s0,fun d H1 hd s1 lR=>⟨rfl,_,rfl,?_⟩⟩;have K_:aL p H H1:=(aL.of s0).trans s1;refine gm (fun c=>?_) (fun c=>ZK _ _ ⟨N,_,_,rfl,K_,lR,s1 _ _ gN (hp.ne Wx),ju _⟩);refine⟨_,rfl,n,rfl,fun R2 vU=>⟨R2,n,rfl,af,by lia,fun L hL=>?_⟩⟩;have sL:aK H1 (upd (upd H1 R2 (.Bk 0 n)) L (.lst (NV (List.range n)))):=(ai vU).trans (ai hL);have gL:=af (H:=upd H1 R2 (.Bk 0 n)) (a:=L) (o:=.lst (NV (List.range n)));have wB:H1 L=none:=(ai vU).free hL;generalize upd (upd H1 R2 _) L _=H2 at *;refine⟨_,rfl,(n:Int),rfl,by lia,by lia,fun D1 AO=>?_⟩;rw[f_];refine yl (lR.same sL) gL (lR.ne wB) AO (aN _) n2 fun xs ls H3 s3 mE h3 pm xl=>?_;obtain rfl:ls=[]:=List.length_eq_zero_iff.mp (by have:=pm.length_eq;rw[cp,cK] at this;lia);rw[qu] at pm;refine ZK _ _ ⟨D1,xs,_,rfl,fun b o e m=>s3 _ _ (sL _ _ (K_ _ _ e m)) m ?_,mE,h3,pm⟩;rintro rfl;rw[K_ _ _ e m] at wB;cases wB
theorem j7:aP ["_law_pot_here","_law_many","_law_found","_law_counts","_law_k","_law_left","_law_size","_law_some","_law_ties","_law_new","_law_house"] ["_law_pot_here","_law_many"] (ao M8):=⟨rfl,rfl,rfl,by decide +kernel,rfl,by decide +kernel,by decide +kernel⟩
def GR:Sp:=fun vs H Q _=>∃ (p:Addr) (n:Nat),vs=[.ref p,.int n]/\2<=n/\n<=32/\aY H p/\∀ (r:Addr) (zs:Zs) (H':Hp),aL p H H'->aY H' p->H r=none->H' r=some (.lst (zr zs))->PO H' zs->bS n (zp zs)->Q (.ref r) H'
theorem Nb(F:ii K "_law_one_way" "_law_one_way" M8 f fd)(B:Bl mg)(B2:OE mg)(D:dI P w K mg base bb 1 "_law_take" ["_law_pot_here","_law_many"] fT)(RG:dI P w K mg base bb 1 "_law_ring" ["_law_many"] v5):bD P w K mg base bb 2 f fd ["_law_pot_here","_law_many"] GR:=by
 refine F.ok j7 (fun vs H Q E h=>?_) (fun eL A outer s H vs Q E hr h=>?_)
 .obtain⟨p,n,rfl,_⟩:=h;rfl
 .obtain⟨p,n,rfl,n1,n2,hp,q⟩:=h;refine'⟨_,(aj (dR (cG (aa (aI RG hr aH (aa (pv 1) ag)) (aa (aV zZ (ce (aa ap ag)) (pv 1)) ag))) (dv (n:=2) rfl (aG (az (i:=2) j7.nd rfl (Or.inr rfl)) (aG (az (i:=3) j7.nd rfl (Or.inr rfl)) b9))))
   (aj (dC eF rfl (bv rfl B.range (aa (aI D hr aH (aa (pv 0) (aa (aV cE (pv 1) ap) ag))) ag)) (az (i:=4) j7.nd rfl (Or.inl rfl))
    (aj (aU (i:=5) j7.nd rfl (Or.inr rfl) (cP (lG rfl) (by rfl) B.lst mS (aa (cP jZ (by rfl) B.range yM (aa (pv 1) ag)) ag)))
    (aj (aU (i:=6) j7.nd rfl (Or.inl rfl) (aV cE ap (aI D hr aH (aa (pv 0) (aa (aE (nJ rfl) (by rfl) B.min yP (aa ap (aa (aV jh (pv 1) ap) ag))) ag)))))
    (aj (fO (i:=7) (g:=(bA 0)) (te:=(M_ K)) (NB:=["_law_turn","_law_left","_law_pot_here"]) (src:=[none,some 5,some 0]) (br (by kernel_rfl)) rfl (bv rfl B.range (aa (pv 6) ag)) ?g1 ?t1 ?e1 j7.nd rfl rfl rfl)
    (aj (aU (i:=8) j7.nd rfl (Or.inl rfl) (Rk rfl rfl B2.zip rfl B.lst (aa (pv 7) (aa (aV qR (qO vj (pv 7) (vg ap) vf) (qO vj (pv 7) vf (vg ap))) ag))))
    (aj (fO (i:=9) (g:=(bA 0)) (tt:=(Bv (l6 (QB K true) (a_ 0) (a_ 1)))) (te:=(a_ 0)) (NB:=["_law_tie","_law_found"]) (src:=[none,some 2]) (br (by kernel_rfl)) rfl (cw (pv 8)) ?g2 ?t2 ?e2 j7.nd rfl rfl rfl)
    (aq (df (PW.pt (zH (aX hU (aE aM (by rfl) B.len dN (aa (pv 9) ag)) (aE aM (by rfl) B.len dN (aa (pv 8) ag)) (be _)) (vc (aX oy (aE (DG rfl) (by rfl) B.max qe (aa ?c3 ag)) ap (be _))))) (aj (aU (i:=2) j7.nd rfl (Or.inr rfl) (aV qR (pv 2) (pv 8)))
     (aq (dC eF rfl (cw (pv 7)) (az (i:=10) j7.nd rfl (Or.inl rfl))
      (aq (dR (aV cE (ba aR (pv 3) (pv 10) (fun _ _=>rfl)) ap) (hG (pv 3) (pv 10) dY)))))) bq))))))))
   (aq (a9 (pv 2))))),?_⟩
  case g1=>exact fun cl C s₃ H₃ fp=>(az (i:=0) jA rfl (Or.inl rfl) (Or.inr rfl))
  case t1=>exact fun cl C s₃ H₃ fp=>cV
  case e1=>exact fun cl C s₃ H₃ fp=>(fK e_ PySem.F.slot_list_pop PySem.F.type_list_pop wX (pv 1) (aa (aI D hr aH (aa (pv 2) (aa (aE aM (by rfl) B.len dN (aa (pv 1) ag)) ag))) ag))
  case g2=>exact fun cl C s₃ H₃ fp=>(az (i:=0) v8 rfl (Or.inl rfl) (Or.inr rfl))
  case t2=>exact fun cl C s₃ H₃ fp=>jj (aX (n9 hr.u) (pv 0) (pv 1) rfl)
  case e2=>exact fun cl C s₃ H₃ fp=>(pv 0)
  case c3=>
   refine' cI (g:=(bA 0)) (te:=(l6 (EU K) (a_ 1) (a_ 0))) (NB:=["_law_house","_law_counts"]) (src:=[none,some 3]) (br (by kernel_rfl)) rfl (cw (pv 7)) ?g ?t ?e;case g=>exact fun cl C s₃ H₃ fp=>(az (i:=0) pA rfl (Or.inl rfl) (Or.inr rfl))
   case t=>exact fun cl C s₃ H₃ fp=>cV
   case e=>exact fun cl C s₃ H₃ fp=>(ba aR (pv 1) (pv 0) (fun _ _=>rfl))
  refine⟨_,rfl,n,rfl,n1,n2,fun T0 AH H1 s1 M0 ZL La ZM=>⟨by show 1<=sizeLine;decide,fun L1 wB=>⟨_,rfl,L1,_,_,rfl,rfl,af,by lia,by lia,by rw[f_,p_];exact a8 (show 1*n<=32 by lia) (by decide),fun M hM=>?_⟩⟩⟩;rw[f_,mG,DX];refine⟨by show 2<=sizeLine;decide,fun T1 Wy=>⟨T1,_,rfl,c_.of af,rfl,_,_,rfl,_,_,rfl,rfl,?_⟩⟩;have F0:bS n (zp AH):=by rw[ZM];exact(ue n1 n2 (ju _)).perm kK
  rw[<-ZM] at *;have s3:=ai (o:=.tup [.ref T0,.ref M]) Wy;have sL:=ai (o:=.lst [.int 1]) wB;have s2:=(sL.trans (ai (o:=.lst (NV (pB n (zp AH)))) hM)).trans s3;have gT:=s2 _ _ ZL;have gM:=s3 _ _ (af (H:=upd H1 L1 (.lst [.int 1])) (a:=M) (o:=.lst (NV (pB n (zp AH)))));have AU:=La.same s2;have OF:H M=none:=s1.free (sL.free hM);have Hy:M≠p:=hp.ne OF;have sH:=s1.trans s2;generalize upd (upd (upd H1 L1 _) M _) T1 _=H2 at *;clear s3 sL s2 ZL La;refine⟨_,rfl,_,rfl,_,_,rfl,rfl,p,n+1,rfl,by lia,by lia,hp.same sH,fun d H3 hd s3 mE=>⟨(d:Int),rfl,by lia,by lia,?_⟩⟩;rw[f_];refine dh (lo:=0) (n:=d) (fun i σ Hc=>∃ (T:Addr) (zs:Zs),(∃a b c e f g h,σ=[some (.ref p),some (.int n),some (.ref T),some (.ref M),a,b,c,e,f,g,h])/\aL p H Hc/\aY Hc p/\H T=none/\Hc T=some (.lst (zr zs))/\PO Hc zs/\Hc M=some (.lst (NV (pB n (zp zs))))/\bS n (zp zs)) ⟨T0,AH,⟨_,_,_,_,_,_,_,rfl⟩,(aL.of sH).trans s3,mE,M0,s3 _ _ gT (hp.ne M0),AU.oX s3 (hp.same sH),s3 _ _ gM Hy,F0⟩ ?_ ?_
  .clear gT gM AU F0 s3 mE sH;rintro i σ Hc hi ⟨T,zs,⟨x4,x5,x6,x7,x8,x9,OK,rfl⟩,sc,lN,hT,Ua,po,AW,Fi⟩;have nTp:T≠p:=hp.ne hT;have T5:zs.length<=256:=by have:=Fi.len;rwa [bu] at this
   have nTM:T≠M:=by rintro rfl;rw[Ua] at AW;have:=HO.lst.inj (bN AW);exact Rn (by rw[bu.symm];exact Fi.pos) this
   refine⟨_,rfl,n,rfl,fun R hR=>⟨R,n,rfl,af,by lia,fun L hL=>?_⟩⟩;have sL:aK Hc (upd (upd Hc R (.Bk 0 n)) L (.lst (NV (List.range n)))):=(ai hR).trans (ai hL);have gL:=af (H:=upd Hc R (.Bk 0 n)) (a:=L) (o:=.lst (NV (List.range n)));have ZN:Hc L=none:=(ai hR).free hL;have ZO:=lN.ne ZN;generalize upd (upd Hc R _) L _=H4 at *;have em:(if (n:Int)-1<4 then (n:Int)-1 else 4)=((min 4 (n-1):Nat):Int):=by split <;> lia
   refine⟨_,rfl,_,rfl,_,_,rfl,rfl,4,_,rfl,p,min 4 (n-1),by rw[em];rfl,by lia,by lia,lN.same sL,fun d2 H5 TZ s5 uh=>⟨_,_,rfl,rfl,?_⟩⟩;have e3:(2:Int)+(d2:Int)=((2+d2:Nat):Int):=by lia
   refine⟨_,rfl,((2+d2:Nat):Int),congrArg (fun v=>[V.int v]) e3,by lia,by lia,fun S hS=>?_⟩;rw[f_];refine yl uh (s5 _ _ gL ZO) ZO hS (by lia) n2 fun cs ls H6 s6 DA Ro pm cl=>?_;have Rp:∀b o,Hc b=some o->b≠p->H6 b=some o:=fun b o e m=>s6 _ _ (s5 _ _ (sL _ _ e) m) m (ak e ZN);have Wz:cs.Nodup:=(lf.mp (pm.nodup_iff.mpr i8)).1;have Ub:∀x∈cs,x<n:=fun x hx=>bP.mp (pm.mem_iff.mp (fY _ hx));have ZP:=Rp _ _ Ua nTp;have K8:=Rp _ _ AW Hy;have K9:PO H6 zs:=fun z hz=>Rp _ _ (po z hz) (lN.neT (po z hz));have Rq:aL p H H6:=fun b o e m=>Rp _ _ (sc _ _ e m) m;have nSM:S≠M:=(ak (s5 _ _ (sL _ _ AW) Hy) hS).symm;clear s6 s5 uh gL sL Rp hS pm;refine⟨_,rfl,_,rfl,_,rfl,S,_,rfl,aZ.of Ro,fun S1 P3=>?_⟩;have WA:=ai (o:=.lst (ji (NV cs) (some 1) none)) P3;refine⟨_,rfl,_,rfl,S,_,rfl,aZ.of (WA _ _ Ro),fun S2 HD=>?_⟩;have WB:=ai (o:=.lst (ji (NV cs) none (some 1))) HD;refine⟨S1,S2,_,_,rfl,rfl,WB _ _ af,af,?_,fun S3 ZQ=>?_⟩
   .rw[show (1:Int)=((1:Nat):Int) from rfl,yg,Gu,lj,jH,bj];exact a8 (show _<=12 by lia) (by decide)
   have ZR:=ai (o:=.lst (ji (NV cs) (some 1) none++ji (NV cs) none (some 1))) ZQ;have sS:=(WA.trans WB).trans ZR;have ZS:=af (H:=upd (upd H6 S1 (.lst (ji (NV cs) (some 1) none))) S2 (.lst (ji (NV cs) none (some 1)))) (a:=S3) (o:=.lst (ji (NV cs) (some 1) none++ji (NV cs) none (some 1)));have e4:ji (NV cs) (some 1) none++ji (NV cs) none (some 1)=((cs.drop 1++cs.take 1).map ci).map V.int:=by
    rw[show (1:Int)=((1:Nat):Int) from rfl,yg,Gu];unfold NV;rw[<-List.map_drop,<-List.map_take,cQ,<-cY];rfl
   have e5:NV cs=(cs.map ci).map V.int:=by unfold NV;rw[cQ];rfl
   refine⟨S,S3,cs.map ci,(cs.drop 1++cs.take 1).map ci,rfl,by rw[<-e5];exact aZ.of (sS _ _ Ro),by rw[<-e4];exact aZ.of ZS,by simp;lia,by rw[aW];lia,fun Tn ms H7 s7 hTn Uc WC Rt=>?_⟩;rw[DY] at Rt;have Nc:=sS.trans s7;have ZT:=Nc _ _ Ro;have Nd:=Nc _ _ ZP;have OI:=Nc _ _ K8;have M2:=K9.same Nc;have Gx:=DA.same Nc;have T7:aL p H H7:=Rq.trans (aL.of Nc);have aai:H Tn=none:=Rq.free DA.full (sS.free hTn);clear Nc s7 sS WA WB ZR ZS K9 K8 ZP Ro Rq DA e4 P3 HD ZQ;have ml:ms.length=cs.length:=by rw[<-bu,Rt];unfold lM;rw[aW,cK]
   refine⟨_,rfl,Tn,rfl,⟨_,aZ.of Uc⟩,fun Nw hNw=>?_⟩;refine Jg (fun u=>!decide (u∈zp zs)) (fun σ=>∃x,σ=[x,some (.ref T)]) Uc hNw (by lia) ⟨_,rfl⟩ ?_ ?_
   .rintro z σ H8 Kt Kf hz ⟨x,rfl⟩ WD kt kf;obtain⟨l1,l2⟩:=Gr (K:=K) (M2.same WD);refine⟨_,rfl,_,rfl,z.1,T,z.2,zs.map (fun z:Addr×Int×Int=>z.1),zp zs,rfl,rfl,c_.of (WD _ _ (WC z hz)),by rw[<-kG];exact aZ.of (WD _ _ Nd),by rw[aW];exact l1,l2,_,rfl,?_⟩;exact gm (fun c=>⟨_,rfl,kt _ _ ⟨_,rfl⟩ (aK.refl _) c⟩) (fun c=>kf _ _ ⟨_,rfl⟩ (aK.refl _) (by simpa using c))
   intro H8 s8 hN8;have WE:=s8 _ _ ZT;have Ru:=s8 _ _ Uc;have ZU:=s8 _ _ Nd;have Ud:=s8 _ _ OI;have ZV:=M2.same s8;have WF:=WC.same s8;have WG:=Gx.same s8;have WI:aL p H H8:=T7.trans (aL.of s8);clear ZT Uc Nd OI M2 WC Gx T7 s8;refine⟨_,rfl,Nw,_,rfl,.inl (aZ.of hN8),_,rfl,Tn,_,rfl,.inl (aZ.of Ru),rfl,_,rfl,?_⟩;have jd:∀Hd:Hp,aK H8 Hd->∃ (T':Addr) (lT:Zs),(∃a b c e f g h,[some (V.ref p),some (.int n),some (.ref T),some (.ref M),some (.int (0+(i:Int))),some (.ref L),some (.int (2+(d2:Int))),some (.ref S),some (.ref Tn),some (.ref Nw),OK]=[some (.ref p),some (.int n),some (.ref T'),some (.ref M),a,b,c,e,f,g,h])/\aL p H Hd/\aY Hd p/\H T'=none/\Hd T'=some (.lst (zr lT))/\PO Hd lT/\Hd M=some (.lst (NV (pB n (zp lT))))/\bS n (zp lT):=fun Hd sd=>⟨T,zs,⟨_,_,_,_,_,_,_,rfl⟩,WI.trans (aL.of sd),WG.same sd,hT,sd _ _ ZU,ZV.same sd,sd _ _ Ud,Fi⟩
   refine gm (fun c1=>?_) (fun c1=>iI (jd _ (aK.refl _)));have c2:(zr (ms.filter fun z=>!decide (z.2∈zp zs))).length=(zr ms).length:=dF (by simpa using c1);rw[sW (c:=fun u=>!decide (u∈zp zs)),dz,<-bu] at c2;have nin:∀t∈zp ms,t∉zp zs:=fun t ht=>by simpa using List.length_filter_eq_length_iff.mp c2 t ht
   refine⟨_,rfl,S,rfl,⟨_,aZ.of WE⟩,fun Ct hC=>?_⟩;refine v4 cs (fun (x:Nat)=>V.int (x:Int)) (fun (x:Nat)=>V.int ((eN (zp zs) (ci x):Nat):Int)) (fun σ=>∃x,σ=[x,some (.ref M)]) WE hC (by lia) ⟨_,rfl⟩ ?_ ?_
   .rintro x σ Ue R' Kf hx ⟨x',rfl⟩ WJ kt;refine⟨_,rfl,_,rfl,M,_,_,_,rfl,rfl,aZ.of (WJ _ _ Ud),aB (iZ (by rw[GN];exact Ub x hx)),?_⟩;rw[GO (Ub x hx)];exact kt _ _ ⟨_,rfl⟩ (aK.refl _)
   intro Ue Nf WK;have Rv:Ue Ct=some (.lst ((cs.map fun (x:Nat)=>((eN (zp zs) (ci x):Nat):Int)).map V.int)):=by rw[WK,cQ];rfl
   refine⟨Ct,_,rfl,aZ.of Rv,fun z=>?_,fun Mx hMx sG=>⟨_,_,rfl,rfl,_,rfl,?_⟩⟩
   .have:=congrArg List.length z;rw[aW,cl] at this;simp at this
   refine gm (fun c3=>?_) (fun c3=>jd _ Nf);have WL:=Nf _ _ ZU;have Rx:=Nf _ _ Ru;refine⟨_,rfl,_,rfl,T,Tn,_,_,rfl,rfl,WL,Rx,by rw[dz,dz];exact a8 (show _<=300 by lia) (by decide),fun N hN=>?_⟩;have sN:=ai (o:=.lst (zr zs++zr ms)) hN;have Wx:H N=none:=(WI.trans (aL.of Nf)).free (WG.same Nf).full hN;have F2:bS n (zp (zs++ms)):=by
    rw[eC,Rt];refine Fi.round Wz Ub (by lia) (fun x hx=>?_) (fun t ht=>nin t (by rw[Rt];exact ht));have h7:((eN (zp zs) (ci x):Nat):Int)<=Mx:=sG _ (bh.mpr ⟨x,hx,rfl⟩);have h8:Mx<8:=dE c3;lia
   have sA:=Nf.trans sN;have ZW:=sA _ _ Ud;have ZX:=sA _ _ WE;have hNA:=af (H:=Ue) (a:=N) (o:=.lst (zr zs++zr ms));have poA:=(ZV.append WF).same sA;have hpA:=WG.same sA;have sHA:aL p H _:=WI.trans (aL.of sA);have nNM:N≠M:=(ak (Nf _ _ Ud) hN).symm;generalize upd Ue N _=HA at *;refine⟨_,rfl,S,rfl,⟨_,aZ.of ZX⟩,iT (K:=K) (xs:=NV cs) (fun j σ He=>(∃a b c e f g h,σ=[some (.ref p),some (.int n),some (.ref N),some (.ref M),a,b,c,e,f,g,h])/\(∀b o,HA b=some o->b≠M->He b=some o)/\He M=some (.lst (NV ((List.range n).map fun (h:Nat)=>eN (zp zs) (ci h)+if h∈cs.take j then 1 else 0)))) ⟨⟨_,_,_,_,_,_,_,rfl⟩,fun b o e _=>e,?_⟩ (fun j σ He _ z=>aZ.of (z.2.1 _ _ ZX nSM)) ?_ ?_⟩
   .rw[ZW];simp[pB]
   .rintro j x σ He hx ⟨⟨y4,y5,y6,y7,y8,y9,y10,rfl⟩,sk,Uf⟩;obtain⟨c,hv,rfl⟩:=F_ hx;have hc:c<n:=Ub c (dj hv);have hj:j<cs.length:=(cJ.mp hv).1;have Eg:c<((List.range n).map fun (h:Nat)=>eN (zp zs) (ci h)+if h∈cs.take j then 1 else 0).length:=by rw[aW,cK];exact hc
    have cn:c∉cs.take j:=fun z=>by
     obtain⟨k,hk⟩:=uD.mp z;have hkl:k<j:=by have:=(cJ.mp hk).1;rw[jH] at this;lia
     rw[yK hkl] at hk;obtain⟨k1,e1⟩:=cJ.mp hk;obtain⟨k2,e2⟩:=cJ.mp hv;have:=iW Wz k1 k2 (e1.trans e2.symm);lia
    refine⟨_,rfl,_,rfl,M,_,_,_,rfl,rfl,aZ.of Uf,aB (iZ Eg),_,_,rfl,rfl,_,rfl,_,rfl,M,_,(c:Int),c,rfl,rfl,Uf,eQ (by rw[bj];exact Eg),⟨_,_,_,_,_,_,_,rfl⟩,fun b o e m=>by rw[am m];exact sk b o e m,?_⟩;rw[af];have eg:((List.range n).map fun (h:Nat)=>eN (zp zs) (ci h)+if h∈cs.take j then 1 else 0).getD c 0=eN (zp zs) (ci c):=by
     rw[b_,bV,gu hc];show eN (zp zs) (ci c)+(if c∈cs.take j then 1 else 0)=_;rw[au cn];rfl
    rw[eg];refine congrArg (fun l=>some (HO.lst l)) ((oh (x:=eN (zp zs) (ci c)+1)).trans ?_);congr 1;refine lX fun k=>?_;rw[zj,bV,bV];have tk:cs.take (j+1)=cs.take j++[c]:=by rw[iP,hv];rfl
    by_cases hk:c=k
    .subst hk;rw[av rfl,av Eg,gu hc];show _=some (eN (zp zs) (ci c)+if c∈cs.take (j+1) then 1 else 0);rw[av (by rw[tk];simp)]
    .rw[au hk];by_cases OH:k<n
     .rw[gu OH];show some (eN (zp zs) (ci k)+if k∈cs.take j then 1 else 0)=some (eN (zp zs) (ci k)+if k∈cs.take (j+1) then 1 else 0);have:(k∈cs.take (j+1))↔k∈cs.take j:=by rw[tk,bO,bL];exact⟨fun z=>z.resolve_right (fun e=>hk e.symm),.inl⟩
      simp only[this]
     .rw[fX (by rw[cK];lia)];rfl
   .rintro σ He ⟨⟨y4,y5,y6,y7,y8,y9,y10,rfl⟩,sk,Uf⟩;have st:∀b o,HA b=some o->b≠M->He b=some o:=sk;refine⟨N,zs++ms,⟨_,_,_,_,_,_,_,rfl⟩,fun b o e m=>sk _ _ (sHA _ _ e m) (ak e OF),?_,Wx,?_,fun z hz=>?_,?_,F2⟩
    .obtain⟨x,y,e,r⟩:=hpA;exact⟨x,y,sk _ _ e Hy.symm,r⟩
    .rw[eA];exact sk _ _ hNA nNM
    .have g:=poA z hz;exact sk _ _ g (by rintro e;rw[e,ZW] at g;cases g)
    .rw[Uf,bj,jG];refine congrArg (fun l=>some (HO.lst (NV l))) ?_;unfold pB;refine jt fun h _=>?_;rw[eC,Rt,Cn,yk Wz]
  .rintro σ Hc ⟨T,zs,⟨x4,x5,x6,x7,x8,x9,OK,rfl⟩,sc,lN,hT,Ua,po,AW,Fi⟩;exact⟨_,rfl,q T zs Hc sc lN hT Ua po Fi⟩
end
abbrev GS:Stmt:=top 44
theorem GT{bs:List Addr}{h:Nat}(hh:h<bs.length):(bs.map V.ref)[h]?=some (.ref (bs.getD h 0)):=by
 rw[bV,b_,bH hh];rfl
theorem Ng{cs:List Addr}{j:Nat}(h:j<cs.length):cs.getD j 0∈cs:=by rw[b_,bH h];exact eX _
def Ry(σ:St):Nat:=match σ[5]? with
 |some (some (V.int i))=>i.toNat
 |_=>0
section
variable {P:Program} {w:World} {K:PySem.W.Frag} {mg:Str->Option Value} {base:Heap}
theorem j8:aP ["_law_outs_here","_law_found","_law_begin","_law_far_here","_law_waiting","_law_at","_law_other"] ["_law_outs_here"] (ao GS):=⟨rfl,rfl,rfl,by decide +kernel,rfl,by decide +kernel,by decide +kernel⟩
def A0:Sp:=fun vs H Q _=>∃ (L:Addr->Prop) (o:Addr) (n:Nat) (ts:Ts),vs=[.ref o]/\bS n ts/\bX H L o n (dP n ts)/\∀ (r:Addr) (H':Hp),aK H H'->H r=none->bX H' (fun b=>H b=none) r n (fun h=>(List.range n).map (far ts h))->Q (.ref r) H'
theorem Jo{f:Addr}{fd:FuncData}(F:ii K "_law_far" "_law_far" GS f fd)(B:Bl mg):bD P w K mg base bb 1 f fd ["_law_outs_here"] A0:=by
 refine F.ok j8 (fun vs H Q E h=>?_) (fun eL A outer s H vs Q E hr h=>?_)
 .obtain⟨L,o,n,ts,rfl,_⟩:=h;rfl
 .obtain⟨L,o,n,ts,rfl,fi,O,q⟩:=h;have n1:=fi.n1;have n2:=fi.n2;refine⟨_,(aj (aU (i:=1) j8.nd rfl (Or.inl rfl) (ce ag))
   (aj (dC eF rfl (bv rfl B.range (aa (aE aM (by rfl) B.len dN (aa (pv 0) ag)) ag)) (az (i:=2) j8.nd rfl (Or.inl rfl))
    (aj (aU (i:=3) j8.nd rfl (Or.inl rfl) (aV zZ (ce (aa jT ag)) (aE aM (by rfl) B.len dN (aa (pv 0) ag))))
    (aj (dR ap (hG (pv 3) (pv 2) dY))
    (aj (aU (i:=4) j8.nd rfl (Or.inl rfl) (ce (aa (pv 2) ag)))
    (aj (aU (i:=5) j8.nd rfl (Or.inl rfl) ap)
    (aj (wJ eF (aX oy (pv 5) (aE aM (by rfl) B.len dN (aa (pv 4) ag)) (be _)) (aj (dC eF rfl (cw (ba aR (pv 0) (ba aR (pv 4) (pv 5) (fun _ _=>rfl)) (fun _ _=>rfl))) (az (i:=6) j8.nd rfl (Or.inl rfl))
      (aq (df (aX EI (ba aR (pv 3) (pv 6) (fun _ _=>rfl)) jT (be _)) (aj (dR (aV cE (ba aR (pv 3) (ba aR (pv 4) (pv 5) (fun _ _=>rfl)) (fun _ _=>rfl)) ap) (hG (pv 3) (pv 6) dY))
       (aq (b8 (fK e_ iN iM cz (pv 4) (aa (pv 6) ag))))) bq)))
     (aq (aU (i:=5) j8.nd rfl (Or.inl rfl) (aV cE (pv 5) ap)))))
    (aq (b8 (fK e_ iN iM cz (pv 1) (aa (pv 3) ag))))))))))
   (aq (a9 (pv 1))))),?_⟩
  obtain⟨bs,Eh,hbL,KM,Kq⟩:=O;refine⟨by show 0<=sizeLine;decide,fun F hF=>?_⟩;have sF:=ai (o:=.lst []) hF;have el:(((bs.map V.ref).length:Nat):Int)=(n:Int):=by rw[aW,KM]
  refine⟨_,rfl,o,_,rfl,.inl (aZ.of (sF _ _ Eh)),(n:Int),congrArg (fun z=>[V.int z]) el,by lia,by lia,dh (n:=n) (lo:=0) (fun i σ Hc=>(∃a b c d e,σ=[some (.ref o),some (.ref F),a,b,c,d,e])/\aK H Hc/\∃ds:List Addr,Hc F=some (.lst (ds.map V.ref))/\(∀b∈ds,H b=none/\b≠F)/\ds.length=i/\∀j,j<i->Hc (ds.getD j 0)=some (.lst (NV ((List.range n).map (far ts j))))) ⟨⟨_,_,_,_,_,rfl⟩,sF,[],af,fun b hb=>(nomatch hb),rfl,fun j hj=>absurd hj (zy _)⟩ ?_ ?_⟩
  rotate_left
  .rintro σ Hc ⟨⟨a,b,c,d,e,rfl⟩,sc,ds,Lb,Ug,dl,Uh⟩;exact⟨_,rfl,q F Hc sc hF ⟨ds,Lb,fun b hb=>(Ug b hb).1,dl,Uh⟩⟩
  .rintro b σ Hc hb ⟨⟨_,_,_,_,_,rfl⟩,sc,ds,Lb,Ug,dl,Uh⟩;rw[g7];refine⟨by show 1<=sizeLine;decide,fun L1 wB=>⟨_,rfl,o,_,rfl,.inl (aZ.of (ai wB _ _ (sc _ _ Eh))),L1,_,_,rfl,rfl,af,by rw[el];lia,by rw[el];lia,by rw[f_,p_,aW,KM];exact a8 (show 1*n<=32 by lia) (by decide),fun D hD=>?_⟩⟩;rw[f_,mG,aW,KM];have s1:=sc.trans (ai (o:=.lst [.cS]) wB);have ZY:F≠D:=ak ((ai (o:=.lst [.cS]) wB) _ _ Lb) hD;have fD:=s1.free hD;have dsD:∀c∈ds,c≠D:=fun c hc=>by
    rintro rfl;exact absurd hD (by
     obtain⟨j,hj,e⟩:=uI hc;have:(upd Hc L1 (.lst [.cS])) c=some (.lst (NV ((List.range n).map (far ts j)))):=(ai wB) _ _ (by have:=Uh j (by lia);rw[b_,bH hj,uN,e] at this;exact this);rw[this];exact fun z=>by cases z)
   have Nh:=(ai (o:=.lst [.cS]) wB) _ _ Lb;have Rz:∀j,j<b->(upd Hc L1 (.lst [.cS])) (ds.getD j 0)=some (.lst (NV ((List.range n).map (far ts j)))):=fun j hj=>(ai wB) _ _ (Uh j hj);generalize upd Hc L1 _=H1 at *;refine⟨_,rfl,_,rfl,D,_,b,b,rfl,rfl,af,by rw[oq];exact eQ hb,?_⟩;rw[kr,rG hb];refine⟨_,rfl,by show 1<=sizeLine;decide,fun R hR=>?_⟩;have Ek:D≠R:=ak (H:=upd H1 D (.lst (gg n [b] (fun _=>0)))) af hR;have IU:H1 R=none:=by rw[am Ek.symm] at hR;exact hR
   have fR:=s1.free IU;have hFR:F≠R:=ak Nh IU;have dsR:∀c∈ds,c≠R:=fun c hc=>by
    rintro rfl;obtain⟨j,hj,e⟩:=uI hc;have:=Rz j (by lia);rw[b_,bH hj,uN,e,IU] at this;cases this
   have sm0:aK H1 (upd (upd H1 D (.lst (gg n [b] (fun _=>0)))) R (.lst [.int (b:Int)])):=bK (ai hD) IU;have WM:=s1 _ _ Eh;have RB:∀u,u<n->H1 (bs.getD u 0)=some (.lst (NV (dP n ts u))):=fun u hu=>s1 _ _ (Kq u hu);refine wN (fun σ H2=>∃ (i:Nat) (Rs:List Nat) (f:Nat->Nat),i<=Rs.length/\yC n ts b i Rs f/\(∃v,σ=[some (.ref o),some (.ref F),some (.int (b:Int)),some (.ref D),some (.ref R),some (.int (i:Int)),v])/\aK H1 H2/\H2 D=some (.lst (gg n Rs f))/\H2 R=some (.lst (NV Rs)))
    (fun σ _=>n-Ry σ) ⟨0,[b],fun _=>0,bT _,yC.start hb,⟨_,rfl⟩,sm0,?_,af⟩ ?_ ?_
   .rw[am Ek,af]
   .rintro σ H2 ⟨i,Rs,f,hi,Bf,⟨v',rfl⟩,sm,jw,vU⟩;have hRn:Rs.length<=n:=et Bf.nd Bf.lt;refine⟨_,rfl,_,rfl,R,_,rfl,.inl (aZ.of vU),_,_,rfl,rfl,_,rfl,?_⟩;rw[bj];by_cases r_:i<Rs.length
    .rw[show decide ((i:Int)<((Rs.length:Nat):Int))=true by simp;lia];refine vp ?_;have hu:Rs[i]?=some Rs[i]:=bH r_;generalize Rs[i]=u at hu;have xY:u<n:=Bf.lt u (dj hu);have VU:(NV Rs)[i]?=some (.int (u:Int)):=by rw[bV,hu];rfl
     have VV:=GT (bs:=bs) (h:=u) (by rw[KM];exact xY);have VW:=sm _ _ (RB _ xY);refine⟨_,rfl,_,rfl,_,rfl,R,_,_,_,rfl,rfl,aZ.of vU,aB VU,o,_,_,_,rfl,rfl,aZ.of (sm _ _ WM),aB VV,_,rfl,⟨_,aZ.of VW⟩,?_⟩;refine iT (K:=K) (xs:=NV (dP n ts u)) (fun j σ H3=>∃ (gR:List Nat) (f':Nat->Nat),yC n ts b i gR f'/\gR[i]?=some u/\(∀v∈(dP n ts u).take j,v∈gR/\f' v<=f' u+1)/\
      (∃c,σ=[some (.ref o),some (.ref F),some (.int (b:Int)),some (.ref D),some (.ref R),some (.int (i:Int)),c])/\aK H1 H3/\H3 D=some (.lst (gg n gR f'))/\H3 R=some (.lst (NV gR)))
      ⟨Rs,f,Bf,hu,fun v hv=>by simp at hv,⟨_,rfl⟩,sm,jw,vU⟩ (fun j σ H3 _ ⟨_,_,_,_,_,_,DQ,_⟩=>aZ.of (DQ _ _ (RB _ xY))) ?_ ?_
     .rintro j x σ H3 hx ⟨gR,f',vV,pc,dn,⟨b',rfl⟩,DQ,mB,yB⟩;obtain⟨v,hv,rfl⟩:=F_ hx;have QY:v∈dP n ts u:=dj hv;have IW:v<n:=B5 fi xY QY;have VX:T ts u v:=(hX fi xY).mp QY;have tk:(dP n ts u).take (j+1)=(dP n ts u).take j++[v]:=by rw[iP,hv];rfl
      have F7:u∈gR:=dj pc;have F8:gR.length<=n:=et vV.nd vV.lt;refine⟨_,rfl,_,rfl,D,_,_,_,rfl,rfl,aZ.of mB,aB (h_ IW),rfl,_,rfl,?_⟩;by_cases AL:v∈gR
      .rw[av AL];refine iI ⟨gR,f',vV,pc,fun x hx=>?_,⟨_,rfl⟩,DQ,mB,yB⟩;rw[tk] at hx;rcases bO.mp hx with z|z
       .exact dn x z
       .simp at z;subst z;exact⟨AL,vV.bd u pc _ AL⟩
      .rw[au AL];refine vp ?_;have QZ:(gg n gR f')[u]?=some (.int ((f' u:Nat):Int)):=by rw[h_ xY,av F7]
       refine⟨_,rfl,_,rfl,_,rfl,R,_,_,_,rfl,rfl,aZ.of yB,aB (show (NV gR)[i]?=some (.int (u:Int)) by rw[bV,pc];rfl),D,_,_,_,rfl,rfl,aZ.of mB,aB QZ,_,_,rfl,rfl,_,rfl,_,rfl,D,_,_,_,rfl,rfl,mB,by rw[iY];exact eQ IW,?_⟩;have e1:(gg n gR f').set v (.int (((f' u:Nat):Int)+1))=gg n (gR++[v]) (put f' v (f' u+1)):=by
        rw[show ((f' u:Nat):Int)+1=((f' u+1:Nat):Int) by lia,xX IW]
       rw[e1];have oO:(upd H3 D (.lst (gg n (gR++[v]) (put f' v (f' u+1))))) R=some (.lst (NV gR)):=by rw[am Ek.symm];exact yB
       refine⟨_,rfl,.inl ⟨rfl,_,aZ.of oO⟩,_,rfl,R,_,_,rfl,rfl,oO,by rw[bj];exact bn (show gR.length<33 by lia) (by decide),?_⟩;have kC:i<gR.length:=(cJ.mp pc).1;have VY:u≠v:=fun z=>AL (z ▸ F7);refine⟨gR++[v],put f' v (f' u+1),vV.add pc IW VX AL,by rw[gW kC];exact pc,fun x hx=>?_,⟨_,rfl⟩,bK (bK DQ hD) IU,?_,?_⟩
       .rw[fv VY];rw[tk] at hx;rcases bO.mp hx with z|z
        .obtain⟨q1,q2⟩:=dn x z;exact⟨fY _ q1,by rw[fv (fun (z:x=v)=>AL (z ▸ q1))];exact q2⟩
        .simp at z;subst z;exact⟨by simp,by rw[iV];exact aN _⟩
       .rw[am Ek,af]
       .rw[af,jp]
     .rintro σ H3 ⟨gR,f',vV,pc,dn,⟨b',rfl⟩,DQ,mB,yB⟩;rw[bj,jG] at dn;have kC:i<gR.length:=(cJ.mp pc).1;have F8:gR.length<=n:=et vV.nd vV.lt;refine⟨_,rfl,_,_,rfl,rfl,⟨⟨i+1,gR,f',kC,vV.next pc (fun v t=>dn v ((hX fi xY).mpr t)),⟨_,rfl⟩,DQ,mB,yB⟩,?_⟩⟩;show n-((i:Int)+1).toNat<n-(i:Int).toNat;lia
    .rw[show decide ((i:Int)<((Rs.length:Nat):Int))=false by rw[yL];lia];have e:gg n Rs f=NV ((List.range n).map (far ts b)):=by
      unfold gg NV;rw[cQ];refine jt fun x hx=>?_;obtain⟨q1,q2⟩:=Bf.done fi (by lia) (bP.mp hx);rw[av q1,q2];rfl
     rw[e] at jw;have ZZ:=sm _ _ Nh;refine iI ⟨_,rfl,.inl ⟨rfl,_,aZ.of ZZ⟩,_,rfl,F,_,_,rfl,rfl,ZZ,by rw[aW,dl];exact bn (show b<33 by lia) (by decide),?_⟩;refine⟨⟨_,_,_,_,_,rfl⟩,fun c ob ec=>?_,ds++[D],by rw[af,cY];rfl,fun c hc=>?_,by rw[cp,dl];rfl,fun j hj=>?_⟩
     .rw[am (ak ec hF)];exact sm _ _ (s1 _ _ ec)
     .rcases bO.mp hc with z|z
      .exact Ug c z
      .rw[bL.mp z];exact⟨fD,ZY.symm⟩
     .by_cases c:j<b
      .have m:=Ng (cs:=ds) (j:=j) (by lia);have e:(ds++[D]).getD j 0=ds.getD j 0:=by rw[b_,b_,gW (by lia)]
       rw[e,am (Ug _ m).2];exact sm _ _ (Rz j c)
      .obtain rfl:j=b:=by lia
       have e:(ds++[D]).getD j 0=D:=by rw[b_,kO (by lia),dl,qy];rfl
       rw[e,am ZY.symm];exact jw
   .rintro σ H2 Q1 Q2 imp ⟨v,e1,v2,e2,p,ys,e3,e4,i1,i2,e5,e6,kk,e7,q⟩;exact⟨v,e1,v2,e2,p,ys,e3,e4,i1,i2,e5,e6,kk,e7,imp _ _ q⟩
end
end pZ
namespace L2
open PySem PySem.Spec PyProof.Rows
theorem uk:eK X (.type "int") (fun xs H Q=>∃b,xs=[.bl b]/\Q (.int (if b then 1 else 0)) H):=by
 intro ae s σ H xs us Q I r h;obtain⟨b,rfl,q⟩:=h;obtain⟨u1,rfl,r1⟩:=r.one;obtain rfl:u1=Value.bool b:=r1;exact call_int_bool ⟨.int _,H,I.tok _,⟨_,rfl⟩,q⟩
end L2
namespace pZ
open PySem L2 jn
abbrev Ni:Stmt:=top 42
theorem mJ:(["_law_one","_law_other"]:List Str).Nodup:=by decide +kernel
def GU(p:Addr)(H:Hp)(Q:V->Hp->Prop):Prop:=∀ (t r:Addr) (n:Nat) (zs:Zs) (H':Hp),aL p H H'->aY H' p->H t=none->H' t=some (.tup [.int n,.ref r])->H r=none->H' r=some (.lst (zr zs))->PO H' zs->bS n (zp zs)->Q (.ref t) H'
def GV:Sp:=fun vs H Q _=>∃ (p:Addr),vs=[.ref p]/\aY H p/\GU p H Q
theorem GU.go(k:GU p H Q)(s:aL p H H2)(hp:aY H2 p)(hr:H r=none)(TJ:H2 r=some (.lst (zr zs)))(po:PO H2 zs)(F:bS n (zp zs))(ht:H2 t=none):Q (.ref t) (upd H2 t (.tup [.int n,.ref r])):=
 k t r n zs _ (s.trans (aL.of (ai ht))) (hp.same (ai ht)) (s.free hp.full ht) af hr (ai ht _ _ TJ) (po.putN ht) F
section
variable {P:Program} {w:World} {K:PySem.W.Frag} {mg:Str->Option Value} {base:Heap}
theorem kY:aP ["_law_pot_here","_law_way","_law_many","_law_pairs"] ["_law_pot_here"] (ao Ni):=⟨rfl,rfl,rfl,by decide +kernel,rfl,by decide +kernel,by decide +kernel⟩
theorem Nj(F:ii K "_law_net" "_law_net" Ni f fd)(B:Bl mg)(D:dI P w K mg base bb 1 "_law_take" ["_law_pot_here","_law_many"] fT)(RG:dI P w K mg base bb 1 "_law_ring" ["_law_many"] v5)(BX:dI P w K mg base bb 2 "_law_box" ["_law_pot_here"] ui)(WO:dI P w K mg base bb 2 "_law_words" ["_law_pot_here"] ui)(SP:dI P w K mg base bb 2 "_law_some_pairs" ["_law_pot_here","_law_many","_law_more"] AV)(OW:dI P w K mg base bb 2 "_law_one_way" ["_law_pot_here","_law_many"] GR)(RN:dI P w K mg base bb 2 "_law_renamed" ["_law_pot_here","_law_many","_law_ties"] Cw):bD P w K mg base bb 3 f fd ["_law_pot_here"] GV:=by
 refine F.ok kY (fun vs H Q E h=>?_) (fun eL A outer s H vs Q E h2 h=>?_)
 .obtain⟨p,rfl,_⟩:=h;rfl
 .obtain⟨p,rfl,hp,q⟩:=h;have h1:cj 1 _:=h2.mono (by decide);refine'⟨_,(aj (aU (i:=1) kY.nd rfl (Or.inl rfl) (aI D h1 aH (aa (pv 0) (aa ap ag))))
   (aj (aU (i:=2) kY.nd rfl (Or.inl rfl) (aV cE ap (aI D h1 aH (aa (pv 0) (aa (ba aR (ce (aa ap (aa ap (aa ap ag)))) (aI D h1 aH (aa (pv 0) (aa ap ag))) (fun _ _=>rfl)) ag)))))
   (aj (df (aX hU (pv 1) ap (be _)) (aq (a9 (cG (aa (pv 2) (aa (aI RN h2 aH (aa (pv 0) (aa (pv 2) (aa (aI OW h2 aH (aa (pv 0) (aa (pv 2) ag))) ag)))) ag))))) bq)
   (aj (df (aX hU (pv 1) ap (be _)) (aq (aU (i:=3) kY.nd rfl (Or.inl rfl) (aI RG h1 aH (aa (pv 2) ag)))) (aq (df (aX hU (pv 1) ap (be _)) (aq (dR (aI BX h2 aH (aa (pv 0) ag)) (dv (n:=2) rfl (aG (az (i:=2) kY.nd rfl (Or.inl rfl)) (aG (az (i:=3) kY.nd rfl (Or.inl rfl)) b9))))) (aq (df (aX hU (pv 1) ap (be _)) (aq (dR (aI WO h2 aH (aa (pv 0) ag)) (dv (n:=2) rfl (aG (az (i:=2) kY.nd rfl (Or.inl rfl)) (aG (az (i:=3) kY.nd rfl (Or.inl rfl)) b9))))) (aj (aU (i:=2) kY.nd rfl (Or.inl rfl) (aV jh (pv 2) (cP uk (by rfl) B.int yQ (aa (ku hU (pv 1) ap (be _)) ag))))
      (aq (aU (i:=3) kY.nd rfl (Or.inl rfl) (aI SP h2 aH (aa (pv 0) (aa (pv 2) (aa (ba aR (ce (aa ap (aa ap (aa (pv 2) ag)))) (aV jh (pv 1) ap) (fun _ _=>rfl)) ag))))))))))))
   (aq (a9 (cG (aa (pv 2) (aa (aI RN h2 aH (aa (pv 0) (aa (pv 2) (aa (aV qR (pv 3) ?c1) ag)))) ag))))))))),?_⟩
  case c1=>
   refine' cI (g:=(sn K 2 (fj (bA 0) (fj (bA 1) sj)))) (te:=(qL (bi (a_ 1) (bi (a_ 0) fz)))) (NB:=["_law_one","_law_other"]) (src:=[none,none]) (br (by kernel_rfl)) rfl (cw (pv 3)) ?g ?t ?e;case g=>exact fun cl C s₃ H₃ fp=>(dv (n:=2) rfl (aG (az (i:=0) mJ rfl (Or.inl rfl) (Or.inr rfl)) (aG (az (i:=1) mJ rfl (Or.inl rfl) (Or.inr rfl)) b9)))
   case t=>exact fun cl C s₃ H₃ fp=>cV
   case e=>exact fun cl C s₃ H₃ fp=>(cG (aa (pv 1) (aa (pv 0) ag)))
  refine⟨_,rfl,p,7,rfl,by decide,by decide,hp,fun wy H1 hw s1 lR=>?_⟩;refine⟨_,rfl,by show 3<=sizeLine;decide,fun l hl=>⟨_,rfl,p,3,rfl,by decide,by decide,lR.same (ai hl),fun d H2 hd s2 xI=>?_⟩⟩;have gl:=s2 _ _ (af (H:=H1) (a:=l) (o:=.lst [.int 4,.int 10,.int 30])) (lR.ne hl);obtain⟨m,hm,m1,m2⟩:∃m:Nat,wU [V.int 4,.int 10,.int 30] (d:Int)=some (.int m)/\4<=m/\m<=30:=by
   rcases(show d=0\/d=1\/d=2 by lia) with rfl|rfl|rfl
   .exact⟨4,aB (j:=0) rfl,by decide,by decide⟩
   .exact⟨10,aB (j:=1) rfl,by decide,by decide⟩
   .exact⟨30,aB (j:=2) rfl,by decide,by decide⟩
  refine⟨l,_,_,_,rfl,rfl,aZ.of gl,hm,p,m,rfl,by lia,by lia,xI,fun d2 H3 TZ s3 mE=>⟨_,_,rfl,rfl,?_⟩⟩;have sH:aL p H H3:=((s1.trans (aL.of (ai hl))).trans s2).trans s3;obtain⟨n,hn⟩:∃n:Nat,n=3+d2:=⟨_,rfl⟩
  have en:(3:Int)+(d2:Int)=((n:Nat):Int):=by lia
  change bA 2 (V.int ((3:Int)+(d2:Int))) _ _ _;rw[en];have n1:3<=n:=by lia
  have n2:n<=32:=by lia
  clear gl hm s1 s2 s3 lR xI hl hd en;have fin:∀ (m:Nat) (r:Addr) (zs:Zs) (H4:Hp),aL p H H4->aY H4 p->H r=none->H4 r=some (.lst (zr zs))->PO H4 zs->bS m (di (zp zs))->O9 (qL (bi (a_ 2) (bi (oz Cw [] E0 (bi (a_ 0) (bi (a_ 2) (bi (l6 PJ (a_ 3) (E7 [none,none] (Kh K (a_ 3)) (sn K 2 (fj (bA 0) (fj (bA 1) sj))) LW (qL (bi (a_ 1) (bi (a_ 0) fz))))) fz)))) fz))) { nx:=fun _ H'=>Q .cS H',rt:=Q } [some (.ref p),some (.int (wy:Nat)),some (.int (m:Nat)),some (.ref r)] H4:=fun m r zs H4 sH oY hr sf po Fi=>by
   have zl:zs.length<=256:=by have:=Fi.len;rw[pX,bu] at this;lia
   refine⟨_,rfl,_,rfl,_,rfl,_,rfl,_,rfl,r,rfl,⟨_,aZ.of sf⟩,fun D1 AO=>?_⟩;refine rE sU (fun σ=>∃a b,σ=[a,b]) sf po AO (by lia) ⟨_,_,rfl⟩ ?_ ?_
   .rintro z σ H5 R Kf hz ⟨a,b,rfl⟩ _ ha kt;exact⟨z.1,_,rfl,c_.of ha,rfl,_,_,rfl,_,_,rfl,rfl,_,rfl,_,rfl,by show 2<=sizeLine;decide,fun t ht=>kt _ _ ⟨_,_,rfl⟩ ht⟩
   intro wA H5 s5 Ui K7 e5 _;refine⟨r,D1,_,_,rfl,rfl,s5 _ _ sf,Ui,by rw[dz,dz,<-bu,<-bu,e5,aW,bu];exact a8 (show _<=512 by lia) (by decide),fun L hL=>?_⟩;have sL:=ai (o:=.lst (zr zs++zr wA)) hL;have F2:bS m (zp (zs++wA)):=by rw[eC,e5];exact Fi.perm hZ.symm
   refine⟨p,L,m,zs++wA,rfl,(oY.same s5).same sL,by rw[af,eA],((po.same s5).append K7).same sL,(oY.same s5).ne hL,F2,fun r3 KR H6 s6 DA MS Nk K9 F6=>⟨by show 2<=sizeLine;decide,fun t ht=>?_⟩⟩;have sA:aL p H H6:=(sH.trans (aL.of (s5.trans sL))).trans s6;exact q.go sA DA ((sH.trans (aL.of s5)).free (oY.same s5).full (sL.free MS)) Nk K9 F6 ht
  refine⟨_,rfl,rfl,_,rfl,gm (fun c=>?_) (fun c6=>?_)⟩
  .refine⟨_,rfl,_,rfl,_,rfl,_,rfl,_,rfl,p,n,rfl,by lia,n2,mE,fun r zs H4 s4 oY hr sf po F4=>?_⟩;refine⟨p,r,n,zs,rfl,oY,sf,po,mE.ne hr,F4,fun r3 KR H6 s6 DA MS Nk K9 F6=>⟨by show 2<=sizeLine;decide,fun t ht=>?_⟩⟩;exact q.go ((sH.trans s4).trans s6) DA ((sH.trans s4).free oY.full MS) Nk K9 F6 ht
  unfold Kg;dsimp only;refine uf (fun σ Hc=>∃ (m:Nat) (r:Addr) (zs:Zs),σ=[some (.ref p),some (.int (wy:Nat)),some (.int (m:Nat)),some (.ref r)]/\aL p H Hc/\aY Hc p/\H r=none/\Hc r=some (.lst (zr zs))/\PO Hc zs/\bS m (di (zp zs))) ?_ ?_
  .rintro σ Hc ⟨m,r,zs,rfl,a1,a2,a3,a4,a5,a6⟩;exact fin m r zs Hc a1 a2 a3 a4 a5 a6
  clear fin;intro N hN;have fr:∀ {a:Addr},H3 a=none->H a=none:=fun h=>sH.free mE.full h;refine⟨_,rfl,rfl,_,rfl,gm (fun c=>?_) (fun c0=>?_)⟩
  .exact⟨_,rfl,n,rfl,by lia,n2,fun r zs H4 s4 hr sf po ez=>hN _ _ ⟨n,r,zs,rfl,sH.trans (aL.of s4),mE.same s4,fr hr,sf,po,by rw[ez];exact DT n1 n2⟩⟩
  refine⟨_,rfl,rfl,_,rfl,gm (fun c=>?_) (fun c1=>?_)⟩
  .exact⟨_,rfl,p,rfl,mE,fun t r m zs H4 s4 oY ht hr WN sf po F4=>⟨t,_,rfl,c_.of WN,rfl,_,_,rfl,_,_,rfl,rfl,hN _ _ ⟨m,r,zs,rfl,sH.trans s4,oY,fr hr,sf,po,F4⟩⟩⟩
  refine⟨_,rfl,rfl,_,rfl,gm (fun c=>?_) (fun c2=>?_)⟩
  .exact⟨_,rfl,p,rfl,mE,fun t r m zs H4 s4 oY ht hr WN sf po F4=>⟨t,_,rfl,c_.of WN,rfl,_,_,rfl,_,_,rfl,rfl,hN _ _ ⟨m,r,zs,rfl,sH.trans s4,oY,fr hr,sf,po,F4⟩⟩⟩
  have hw3:3<=wy/\wy<=5:=by
   have a0:wy≠0:=fun z=>c0 (by rw[z];rfl);have a1:wy≠1:=fun z=>c1 (by rw[z];rfl);have a2:wy≠2:=fun z=>c2 (by rw[z];rfl);have a6:wy≠6:=fun z=>c6 (by rw[z];rfl);lia
  obtain⟨k,hk,k1,k2⟩:∃k:Nat,(n:Int)-(if decide (V.int (wy:Int)=V.int 3)=true then 1 else 0)=(k:Int)/\2<=k/\k<=32:=by
   by_cases e:wy=3
   .exact⟨n-1,by rw[av (by rw[e];rfl)];lia,by lia,by lia⟩
   .exact⟨n,by rw[au (by simp;lia)];lia,by lia,by lia⟩
  refine⟨_,rfl,_,rfl,rfl,_,rfl,_,_,rfl,rfl,?_⟩;change bA 2 (V.int ((n:Int)-(if decide (V.int (wy:Int)=V.int 3)=true then 1 else 0))) _ _ _;rw[hk];refine⟨_,rfl,_,rfl,_,rfl,by show 3<=sizeLine;decide,fun l hl=>⟨_,rfl,_,_,rfl,rfl,?_⟩⟩;have sl:=ai (o:=.lst [.int 0,.int 3,.int (k:Int)]) hl;obtain⟨g,hg,g1⟩:∃g:Nat,wU [V.int 0,.int 3,.int (k:Int)] ((wy:Int)-3)=some (.int g)/\g<=64:=by
   rcases(show wy=3\/wy=4\/wy=5 by lia) with e|e|e <;> rw[e]
   .exact⟨0,aB (j:=0) rfl,by decide⟩
   .exact⟨3,aB (j:=1) rfl,by decide⟩
   .exact⟨k,aB (j:=2) rfl,by lia⟩
  refine⟨l,_,_,_,rfl,rfl,aZ.of af,hg,p,k,g,rfl,k1,k2,g1,mE.same sl,fun r zs H4 s4 oY hr sf po F4=>?_⟩;exact hN _ _ ⟨k,r,zs,rfl,(sH.trans (aL.of sl)).trans s4,oY,fr (sl.free hr),sf,po,F4⟩
end
abbrev A1:Stmt:=top 43
theorem pC:(["_law_k","_law_house","_law_many"]:List Str).Nodup:=by decide +kernel
theorem j9:(["_law_other","_law_house","_law_there"]:List Str).Nodup:=by decide +kernel
theorem Jp(G:Nat->V)(bW:St->Prop)(hD:H0 D=none)(hn:n<=1000)(h0:bW σB)(hs:∀x σ H (R:V->St->Hp->Prop) (Kf:St->Hp->Prop),x<n->bW σ->aK H0 H->(∀σ2 H2,bW σ2->aK H H2->R (G x) σ2 H2)->g (.int (lo+(x:Nat))) σ H fun σ2 H2=>tt σ2 H2 fun b H3=>if b=true then te σ2 H3 fun v H4=>R v σ2 H4 else Kf σ2 H3)(hd:∀H,aK H0 H->H D=some (.lst ((List.range n).map G))->fin H):gC (Eb lo n) g tt te D fin σB (upd H0 D (.lst [])):=by
 refine eT (fun i ys σ H=>bW σ/\aK H0 H/\H D=some (.lst ys)/\ys=(List.range i).map G) ⟨h0,ai hD,af,rfl⟩ ?_ ?_
 .rintro i ys σ H Kt Kf hi ⟨sh,sm,iX,rfl⟩ kt kf;refine hs i σ H Kt Kf hi sh sm (fun σ2 H2 vQ s2=>?_);refine kt _ _ _ (s2 _ _ iX) ?_ ⟨vQ,bK (sm.trans s2) hD,af,by rw[i_,cY];rfl⟩;rw[aW,cK];exact bn (show i<1000 by lia) (by decide)
 .rintro ys σ H ⟨_,sm,iX,rfl⟩;exact hd H sm iX
theorem Jq(ms:List β)(e:β->V)(c:β->Bool)(bW:St->Prop)(ha:H0 a=some (.lst (ms.map e)))(hD:H0 D=none)(hn:ms.length<=1000)(h0:bW σB)(hs:∀m σ H (Kt:V->St->Hp->Prop) (Kf:St->Hp->Prop),m∈ms->bW σ->aK H0 H->(∀σ2 H2,bW σ2->aK H H2->c m=true->Kt (e m) σ2 H2)->(∀σ2 H2,bW σ2->aK H H2->c m=false->Kf σ2 H2)->
   g (e m) σ H fun σ2 H2=>tt σ2 H2 fun b H3=>if b=true then te σ2 H3 fun v H4=>Kt v σ2 H4 else Kf σ2 H3)(hd:∀H,aK H0 H->H D=some (.lst ((ms.filter c).map e))->fin H):gC (EG K a) g tt te D fin σB (upd H0 D (.lst [])):=by
 refine eY (xs:=ms.map e) (fun i ys σ H=>bW σ/\aK H0 H/\H D=some (.lst ys)/\ys=((ms.take i).filter c).map e) ⟨h0,ai hD,af,rfl⟩ (fun i ys σ H _ z=>aZ.of (z.2.1 _ _ ha)) ?_ ?_
 .rintro i x ys σ H Kt Kf hx ⟨sh,sm,iX,rfl⟩ kt kf;rw[bV] at hx;cases hz:ms[i]? with
  |none=>rw[hz] at hx;cases hx
  |some m=>
   rw[hz] at hx;obtain rfl:e m=x:=bN hx;have tk:ms.take (i+1)=ms.take i++[m]:=by rw[iP,hz];rfl
   refine hs m σ H Kt Kf (dj hz) sh sm (fun σ2 H2 vQ s2 hc=>?_) (fun σ2 H2 vQ s2 hc=>?_)
   .refine kt _ _ _ (s2 _ _ iX) ?_ ⟨vQ,bK (sm.trans s2) hD,af,by rw[tk,iO];simp[eE,hc]⟩;rw[aW];exact eU (a8 (ot _ _) (List.length_take_le' _ _)) (eU hn (by decide))
   .exact kf _ _ ⟨vQ,sm.trans s2,s2 _ _ iX,by rw[tk,iO];simp[eE,hc]⟩
 .rintro ys σ H ⟨_,sm,iX,rfl⟩;rw[aW,jG] at iX;exact hd H sm iX
def AR(u:Int×Int):List gE:=[.inl u.1,.inl u.2]
theorem ym:∀ {ps:List TK} {m:List (List gE×V)},(gK (du m ps) k).isSome=true↔(gK m k).isSome=true\/k∈ps.map fun p:TK=>p.1
 |[],m=>by unfold du;simp
 |p::ps,m=>by
  have ih:=ym (k:=k) (ps:=ps) (m:=qY m p.1 p.2.2);rw[show du m (p::ps)=du (qY m p.1 p.2.2) ps from rfl,ih,Fp];by_cases c:k=p.1
  .rw[av c];simp[c]
  .rw[au c,ff];simp[c]
theorem Jr{u:Int×Int}{ts:Ts}:AR u∈ts.map AR↔u∈ts:=by
 constructor
 .intro h;obtain⟨v,hv,e⟩:=bh.mp h;unfold AR at e;injection e with e1 e2;injection e2 with e2 _;rw[show u=v from g9 (Sum.inl.inj e1).symm (Sum.inl.inj e2).symm];exact hv
 .exact fun h=>bh.mpr ⟨u,h,rfl⟩
theorem Js(F:bS n ts)(hh:h<n):((List.range (n-1)).map fun s=>(h+(s+1)) % n).filter (fun o=>decide ((ci h,ci o)∈ts))=dP n ts h:=by
 unfold dP;obtain⟨m,rfl⟩:∃m,n=m+1:=⟨n-1,by lia⟩
 have e0:(h+0) % (m+1)=h:=kP hh;rw[mU,ff,eE,cQ,e0];have nt:¬ T ts h h:=fun z=>F.ne _ z rfl;rw[au (fun z=>nt (dE z)),show m+1-1=m from rfl];exact List.filter_congr fun o _=>zn.mpr Iff.rfl
theorem Nl:(["_law_tie"]:List Str).Nodup:=by decide +kernel
section
variable {P:Program} {w:World} {K:PySem.W.Frag} {mg:Str->Option Value} {base:Heap}
theorem mK:aP ["_law_many","_law_ties","_law_there","_law_found","_law_house","_law_around"] ["_law_many","_law_ties"] (ao A1):=⟨rfl,rfl,rfl,by decide +kernel,rfl,by decide +kernel,by decide +kernel⟩
def v9:Sp:=fun vs H Q _=>∃ (n:Nat) (l:Addr) (zs:Zs),vs=[.int n,.ref l]/\H l=some (.lst (zr zs))/\PO H zs/\bS n (zp zs)/\∀ (r:Addr) (H':Hp),aK H H'->H r=none->bX H' (fun a=>H a=none) r n (dP n (zp zs))->Q (.ref r) H'
theorem GW{f:Addr}{fd:FuncData}(F:ii K "_law_outs" "_law_outs" A1 f fd)(B:Bl mg)(B2:OE mg):bD P w K mg base bb 1 f fd ["_law_many","_law_ties"] v9:=by
 refine F.ok mK (fun vs H Q E h=>?_) (fun eL A outer s H vs Q E hr h=>?_)
 .obtain⟨n,l,zs,rfl,_⟩:=h;rfl
 .obtain⟨n,l,zs,rfl,hl,po,Fi,q⟩:=h;have n1:=Fi.n1;have n2:=Fi.n2;have zl:zs.length<=256:=by have:=Fi.len;rwa [bu] at this
  refine'⟨_,(aj (aU (i:=2) mK.nd rfl (Or.inr rfl) (cP (AS rfl hr.u) (by rfl) B2.dict PyProof.Rows.boot_dict (aa ?c1 ag)))
   (aj (aU (i:=3) mK.nd rfl (Or.inl rfl) (ce ag))
   (aj (dC eF rfl (bv rfl B.range (aa (pv 0) ag)) (az (i:=4) mK.nd rfl (Or.inr rfl))
    (aj (fO (i:=5) (g:=(bA 0)) (te:=(l6 (rI (fun _ j=>0<j) fun i j=>.int (i % j)) (l6 (zM fun i j=>.int (i+j)) (a_ 1) (a_ 0)) (a_ 2))) (NB:=["_law_k","_law_house","_law_many"]) (src:=[none,some 4,some 0]) (br (by kernel_rfl)) rfl (nI rfl B.range (aa ap (aa (pv 0) ag))) ?g2 ?t2 ?e2 mK.nd rfl rfl rfl)
    (aq (b8 (fK e_ iN iM cz (pv 3) (aa ?c3 ag))))))
   (aq (a9 (pv 3)))))),?_⟩
  case c1=>
   refine' cI (g:=(bA 0)) (te:=(qL (bi (a_ 0) (bi (tC (.bl true)) fz)))) (NB:=["_law_tie"]) (src:=[none]) (br (by kernel_rfl)) rfl (cw (pv 1)) ?g ?t ?e;case g=>exact fun cl C s₃ H₃ fp=>(az (i:=0) Nl rfl (Or.inl rfl) (Or.inr rfl))
   case t=>exact fun cl C s₃ H₃ fp=>cV
   case e=>exact fun cl C s₃ H₃ fp=>(cG (aa (pv 0) (aa qH ag)))
  case g2=>exact fun cl C s₃ H₃ fp=>(az (i:=0) pC rfl (Or.inl rfl) (Or.inr rfl))
  case t2=>exact fun cl C s₃ H₃ fp=>cV
  case e2=>exact fun cl C s₃ H₃ fp=>(aV hJ (aV cE (pv 1) (pv 0)) (pv 2))
  case c3=>
   refine' cI (g:=(bA 0)) (tt:=(tB (Qo (qL (bi (a_ 1) (bi (a_ 0) fz))) (a_ 2)))) (te:=(a_ 0)) (NB:=["_law_other","_law_house","_law_there"]) (src:=[none,some 4,some 2]) (br (by kernel_rfl)) rfl (cw (pv 5)) ?g ?t ?e;case g=>exact fun cl C s₃ H₃ fp=>(az (i:=0) j9 rfl (Or.inl rfl) (Or.inr rfl))
   case t=>exact fun cl C s₃ H₃ fp=>jj (Lu (Mc hr.u (cG (aa (pv 1) (aa (pv 0) ag))) (pv 2)))
   case e=>exact fun cl C s₃ H₃ fp=>(pv 0)
  refine⟨_,rfl,l,rfl,⟨_,aZ.of hl⟩,fun D1 AO=>?_⟩;refine eY (xs:=zr zs) (fun i ys σ H2=>(∃x,σ=[x])/\aK H H2/\H2 D1=some (.lst ys)/\∃as:List Addr,ys=as.map V.ref/\as.length=i/\∀j,j<i->∃z,zs[j]?=some z/\H2 (as.getD j 0)=some (.tup [.ref z.1,.bl true])) ⟨⟨_,rfl⟩,ai AO,af,[],rfl,rfl,fun j hj=>absurd hj (zy _)⟩ (fun i ys σ H2 _ z=>aZ.of (z.2.1 _ _ hl)) ?_ ?_
  .rintro i x ys σ H2 Kt Kf hx ⟨⟨x',rfl⟩,sm,iX,as,rfl,al,ah⟩ kt kf;obtain⟨z,hz,rfl⟩:=rD hx;have hi:i<zs.length:=(cJ.mp hz).1;refine⟨_,rfl,by show 2<=sizeLine;decide,fun t ht=>?_⟩;have st:=ai (o:=.tup [.ref z.1,.bl true]) ht;have nD:D1≠t:=ak iX ht;refine kt _ _ _ (st _ _ iX) (by rw[aW,al];exact bn (show i<1000 by lia) (by decide)) ⟨⟨_,rfl⟩,bK (sm.trans st) AO,af,as++[t],by rw[cY];rfl,by rw[cp,al];rfl,fun j hj=>?_⟩;by_cases c:j<i
   .obtain⟨z',e1,e2⟩:=ah j c;refine⟨z',e1,?_⟩;have e3:=st _ _ e2;rw[b_,gW (by lia),<-b_,am (by rintro e;rw[e,st _ _ iX] at e3;cases e3)];exact e3
   .obtain rfl:j=i:=by lia
    refine⟨z,hz,?_⟩;rw[b_,kO (by lia),al,qy];show (upd _ D1 _) t=_;rw[am nD.symm];exact af
  rintro ys σ H2 ⟨_,s2,jw,as,rfl,al,ah⟩;rw[dz] at al ah;refine⟨D1,as,zs.map fun z=>(AR z.2,z.1,V.bl true),rfl,jw,by rw[aW];exact al,fun i hi=>?_,by rw[aW];lia,fun Kn hK=>?_⟩
  .rw[aW] at hi;obtain⟨z,e1,e2⟩:=ah i hi;exact⟨AR z.2,z.1,.bl true,by rw[bV,e1];rfl,e2,s2 _ _ (po z (dj e1))⟩
  have RC:∀u:Int×Int,(gK (du [] (zs.map fun z=>(AR z.2,z.1,V.bl true))) (AR u)).isSome=decide (u∈zp zs):=fun u=>by
   rw[jK,ym,cQ,qk];have e:((fun p:TK=>p.1) ∘ fun z:Addr×Int×Int=>(AR z.2,z.1,V.bl true))=AR ∘ fun z:Addr×Int×Int=>z.2:=rfl;rw[e,<-cQ];have:=Jr (u:=u) (ts:=zp zs);unfold zp at this |-;rw[this];simp[gK]
  have sK:=ai (o:=.dT (du [] (zs.map fun z=>(AR z.2,z.1,V.bl true)))) hK;have hKK:(upd H2 Kn (.dT (du [] (zs.map fun z=>(AR z.2,z.1,V.bl true))))) Kn=some (.dT (du [] (zs.map fun z=>(AR z.2,z.1,V.bl true)))):=af;generalize du [] _=kd at *;refine⟨by show 0<=sizeLine;decide,fun R hR=>?_⟩;have s3:aK H _:=s2.trans sK;have hK3:=ai (o:=.lst []) hR _ _ hKK;have Z0:=s3.free hR;have s4:=s3.trans (ai (o:=.lst []) hR);refine⟨_,rfl,(n:Int),rfl,by lia,by lia,dh (n:=n) (lo:=0) (fun i σ Hc=>(∃a b,σ=[some (.int n),some (.ref l),some (.ref Kn),some (.ref R),a,b])/\aK H Hc/\Hc Kn=some (.dT kd)/\∃bs:List Addr,Hc R=some (.lst (bs.map V.ref))/\(∀b∈bs,H b=none/\b≠R)/\Holds Hc bs i fun h=>.lst (NV (dP n (zp zs) h))) ⟨⟨_,_,rfl⟩,s4,hK3,[],af,fun b hb=>(nomatch hb),Holds.nil⟩ ?_ ?_⟩
  .rintro i σ Hc hi ⟨⟨x4,x5,rfl⟩,sc,Uj,bs,RD,fr,hb⟩;have nKR:Kn≠R:=by rintro rfl;rw[Uj] at RD;cases RD
   rw[g7];refine⟨_,rfl,1,(n:Int),rfl,⟨by decide,by decide,by lia,by lia⟩,fun D2 jw=>?_⟩;rw[show ((n:Int)-1).toNat=n-1 by lia];refine Jp (lo:=1) (n:=n-1) (fun s=>V.int (((i+(s+1)) % n:Nat):Int)) (fun σ=>∃x,σ=[x,some (.int (i:Nat)),some (.int n)]) jw (by lia) ⟨_,rfl⟩ ?_ ?_
   .rintro x σ H4 R' Kf hx ⟨x',rfl⟩ vX kt;have e:((i:Int)+(1+(x:Int))) % (n:Int)=(((i+(x+1)) % n:Nat):Int):=by lia
    refine⟨_,rfl,_,rfl,_,_,rfl,rfl,_,rfl,_,_,rfl,rfl,(by show (0:Int)<(n:Int);lia),?_⟩;have:=kt [some (.int (1+(x:Int))),some (.int (i:Nat)),some (.int n)] H4 ⟨_,rfl⟩ (aK.refl _);rw[<-e] at this;exact this
   intro H4 s4 El;have RE:H4 D2=some (.lst (((List.range (n-1)).map fun s=>(i+(s+1)) % n).map fun (x:Nat)=>V.int (x:Int))):=by rw[El,cQ];rfl
   have oO:=s4 _ _ RD;refine⟨_,rfl,.inl ⟨rfl,_,aZ.of oO⟩,_,rfl,D2,rfl,⟨_,aZ.of RE⟩,fun D3 mB=>?_⟩;refine Jq ((List.range (n-1)).map fun s=>(i+(s+1)) % n) (fun (x:Nat)=>V.int (x:Int)) (fun o=>decide ((ci i,ci o)∈zp zs)) (fun σ=>∃x,σ=[x,some (.int (i:Nat)),some (.ref Kn)]) RE mB (by rw[aW,cK];lia) ⟨_,rfl⟩ ?_ ?_
   .rintro m σ H5 Kt Kf hm ⟨x',rfl⟩ sm5 kt kf;refine⟨_,rfl,_,rfl,by show 2<=sizeLine;decide,fun t ht=>?_⟩;have st:=ai (o:=.tup [.int (i:Int),.int (m:Int)]) ht;have hK5:=st _ _ (sm5 _ _ (s4 _ _ Uj));refine⟨_,rfl,Kn,_,rfl,Fq.t (k:=AR (ci i,ci m)) hK5 af,_,rfl,?_⟩;rw[RC];refine gm (fun c=>?_) (fun c=>?_)
    .exact⟨_,rfl,kt _ _ ⟨_,rfl⟩ st c⟩
    .exact kf _ _ ⟨_,rfl⟩ st (by simpa using c)
   intro H5 s5 Ui;rw[Js Fi hi] at Ui;have Mm:=s5 _ _ oO;have bl:bs.length=i:=hb.1;have Ek:D3≠R:=by rintro rfl;rw[oO] at mB;cases mB
   refine⟨R,_,_,rfl,rfl,Mm,by rw[aW,bl];exact bn (show i<33 by lia) (by decide),⟨_,_,rfl⟩,bK ((sc.trans s4).trans s5) Z0,?_,bs++[D3],by rw[af,cY];rfl,fun b sM=>?_,?_⟩
   .rw[am nKR];exact s5 _ _ (s4 _ _ Uj)
   .rcases bO.mp sM with z|z
    .exact fr b z
    .rw[bL.mp z];exact⟨(sc.trans s4).free mB,Ek⟩
   .refine Holds.snoc (hb.mono fun j hj e=>?_) (by rw[am Ek];exact Ui);have e5:=s5 _ _ (s4 _ _ e);have hm:bs.getD j 0∈bs:=by rw[b_,bH (by lia)];exact eX _
    rw[am (fr _ hm).2];exact e5
  .rintro σ Hc ⟨⟨x4,x5,rfl⟩,sc,Uj,bs,RD,fr,hb⟩;exact⟨_,rfl,q R Hc sc Z0 ⟨bs,RD,fun b sM=>(fr b sM).1,hb⟩⟩
end
abbrev A2:Stmt:=top 45
def oV:Option Nat->V
 |none=>.cS
 |some y=>.int (y:Nat)
theorem GX{y:Nat}:∀ {st:List (Option Nat)},(st.map oV).countP (fun z=>sE z (.int (y:Int)))=st.count (some y)
 |[]=>rfl
 |o::st=>by
  rw[ff,m_,GX,zA];cases o with
  |none=>rfl
  |some x=>
   congr 1;show (if decide ((x:Int)=(y:Int))=true then 1 else 0)=_;by_cases h:x=y
   .subst h;simp
   .rw[au (by simp;lia),au (by simp[h])]
theorem mL:∀ {st:List (Option Nat)},(st.map oV).all fq=true
 |[]=>rfl
 |none::st=>mL (st:=st)
 |some _::st=>mL (st:=st)
structure sY(n:Nat)(ts:Ts)(homes:List Nat)(st:List (Option Nat)):Prop where
 len:homes.length=st.length
 hs:∀x∈homes,x<n
 ss:∀i y:Nat,st[i]?=some (some y)->y<n/\homes[i]?≠some y
 cap:∀y,y<n->st.count (some y)<=(dP n ts y).length
theorem sY.snoc(S:sY n ts homes st)(hh:h<n)(ho:∀y,o=some y->y<n/\y≠h/\st.count (some y)<(dP n ts y).length):sY n ts (homes++[h]) (st++[o]):=by
 refine⟨by rw[cp,cp,S.len];rfl,fun x hx=>?_,fun i y e=>?_,fun y hy=>?_⟩
 .rcases bO.mp hx with z|z
  .exact S.hs x z
  .rw[bL.mp z];exact hh
 .by_cases c:i<st.length
  .rw[gW c] at e;rw[gW (by rw[S.len];exact c)];exact S.ss i y e
  .rw[kO (by lia)] at e;have hi:i=st.length:=by
    have:=(cJ.mp e).1;rw[p_] at this;lia
   subst hi;rw[qy] at e;have:=ho y (bN e);refine⟨this.1,?_⟩;rw[<-S.len,kO (aN _),qy];exact fun z=>this.2.1 (bN z).symm
 .rw[List.count_append,List.count_singleton];by_cases e:o=some y
  .rw[av (by rw[e];simp)];exact(ho y e).2.2
  .rw[au (by simpa using e)];exact S.cap y hy
section
variable {P:Program} {w:World} {K:PySem.W.Frag} {mg:Str->Option Value} {base:Heap}
theorem iz:aP ["_law_pot_here","_law_outs_here","_law_many","_law_crowd","_law_homes","_law_stand","_law_k","_law_house"] ["_law_pot_here","_law_outs_here"] (ao A2):=⟨rfl,rfl,rfl,by decide +kernel,rfl,by decide +kernel,by decide +kernel⟩
def v_:Sp:=fun vs H Q _=>∃ (p r:Addr) (n:Nat) (ts:Ts) (L:Addr->Prop),vs=[.ref p,.ref r]/\2<=n/\n<=32/\aY H p/\bX H L r n (dP n ts)/\L r/\¬ L p/\
 ∀ (t a b:Addr) (homes:List Nat) (st:List (Option Nat)) (H':Hp),aL p H H'->aY H' p->H' t=some (.tup [.ref a,.ref b])->H' a=some (.tup (NV homes))->H' b=some (.tup (st.map oV))->st.length<=16->sY n ts homes st->Q (.ref t) H'
theorem GY(F:ii K "_law_start" "_law_start" A2 f fd)(B:Bl mg)(D:dI P w K mg base bb 1 "_law_take" ["_law_pot_here","_law_many"] fT):bD P w K mg base bb 2 f fd ["_law_pot_here","_law_outs_here"] v_:=by
 refine F.ok iz (fun vs H Q E h=>?_) (fun eL A outer s H vs Q E hr h=>?_)
 .obtain⟨p,r,n,ts,L,rfl,_⟩:=h;rfl
 .obtain⟨p,r,n,ts,L,rfl,n1,n2,hp,R0,Z1,Z2,q⟩:=h;refine⟨_,(aj (aU (i:=2) iz.nd rfl (Or.inl rfl) (aE aM (by rfl) B.len dN (aa (pv 1) ag)))
   (aj (aU (i:=3) iz.nd rfl (Or.inl rfl) (ba aR (ce (aa (pv 2) (aa (pv 2) (aa ap (aa ap ag))))) (aI D hr aH (aa (pv 0) (aa ap ag))) (fun _ _=>rfl)))
   (aj (zI (i:=4) (j:=5) rfl iz.nd rfl rfl (by decide) rfl rfl (aa (ce ag) (aa (ce ag) ag)) (by rfl))
   (aj (dC eF rfl (bv rfl B.range (aa (aI D hr aH (aa (pv 0) (aa ap ag))) ag)) (az (i:=6) iz.nd rfl (Or.inl rfl))
    (aj (b8 (fK e_ iN iM cz (pv 4) (aa (aI D hr aH (aa (pv 0) (aa (pv 2) ag))) ag)))
    (aj (aU (i:=7) iz.nd rfl (Or.inl rfl) (aI D hr aH (aa (pv 0) (aa (aE (nJ rfl) (by rfl) B.min yP (aa (pv 3) (aa (pv 2) ag))) ag))))
    (aj (df (PW.pt (wH (aX hU (aI D hr aH (aa (pv 0) (aa ap ag))) ap (be _)) (wH (aX hU (pv 7) (ba aR (pv 4) (wO qJ ap) (fun _ _=>rfl)) (be _)) (vd (aX Kk (fK e_ PySem.F.slot_list_count PySem.F.type_list_count xq (pv 5) (aa (pv 7) ag)) (aE aM (by rfl) B.len dN (aa (ba aR (pv 1) (pv 7) (fun _ _=>rfl)) ag)) (be _)))))) (aq (aU (i:=7) iz.nd rfl (Or.inl rfl) (aV hJ (aV cE (aV cE (pv 7) ap) (aI D hr aH (aa (pv 0) (aa (pv 2) ag)))) (pv 2)))) bq)
    (aj (df (PW.pt (wH (aX hU (pv 7) (ba aR (pv 4) (wO qJ ap) (fun _ _=>rfl)) (be _)) (vd (aX Kk (fK e_ PySem.F.slot_list_count PySem.F.type_list_count xq (pv 5) (aa (pv 7) ag)) (aE aM (by rfl) B.len dN (aa (ba aR (pv 1) (pv 7) (fun _ _=>rfl)) ag)) (be _))))) (aq (aU (i:=7) iz.nd rfl (Or.inl rfl) jT)) bq)
    (aq (b8 (fK e_ iN iM cz (pv 5) (aa (pv 7) ag)))))))))
   (aq (a9 (cG (aa (cP iH (by rfl) B.tup qb (aa (pv 4) ag)) (aa (cP iH (by rfl) B.tup qb (aa (pv 5) ag)) ag))))))))),?_⟩
  obtain⟨bs0,g1,g2,g3⟩:=id R0;have el:(((bs0.map V.ref).length:Nat):Int)=(n:Int):=by rw[aW,g3.1]
  refine⟨_,rfl,r,_,rfl,.inl (aZ.of g1),?_⟩;rw[el];refine⟨_,rfl,_,rfl,by show 4<=sizeLine;decide,fun l hl=>⟨_,rfl,p,4,rfl,by decide,by decide,hp.same (ai hl),fun d1 H1 hd1 s1 lR=>?_⟩⟩;have gl:=s1 _ _ (af (H:=H) (a:=l) (o:=.lst [.int (n:Int),.int (n:Int),.int 2,.int 1])) (hp.ne hl);obtain⟨c,hc,c1,c2⟩:∃c:Nat,wU [V.int (n:Int),.int (n:Int),.int 2,.int 1] (d1:Int)=some (.int c)/\1<=c/\c<=32:=by
   rcases(show d1=0\/d1=1\/d1=2\/d1=3 by lia) with rfl|rfl|rfl|rfl
   .exact⟨n,aB (j:=0) rfl,by lia,by lia⟩
   .exact⟨n,aB (j:=1) rfl,by lia,by lia⟩
   .exact⟨2,aB (j:=2) rfl,by decide,by decide⟩
   .exact⟨1,aB (j:=3) rfl,by decide,by decide⟩
  have K_:aL p H H1:=(aL.of (ai hl)).trans s1;refine⟨l,_,_,_,rfl,rfl,aZ.of gl,hc,by show 0<=sizeLine;decide,fun Hs Z3=>⟨by show 0<=sizeLine;decide,fun St WP=>⟨_,_,rfl,?_⟩⟩⟩;have sA:=ai (o:=.lst []) Z3;have sB:=ai (o:=.lst []) WP;have gH:=sB _ _ (af (H:=H1) (a:=Hs) (o:=.lst (NV [])));have gS:(upd (upd H1 Hs (.lst [])) St (.lst [])) St=some (.lst (List.map oV [])):=af;have fH:H Hs=none:=K_.free lR.full Z3;have fS:H St=none:=K_.free lR.full (sA.free WP);have OL:Hs≠p:=hp.ne fH;have Hz:St≠p:=hp.ne fS;have Z4:Hs≠St:=ak af WP;have WQ:=sA.trans sB;generalize upd (upd H1 Hs _) St _=H2 at *;refine⟨_,rfl,p,17,rfl,by decide,by decide,lR.same WQ,fun d2 H3 TZ s3 mE=>⟨(d2:Int),rfl,by lia,by lia,?_⟩⟩;rw[f_];refine dh (lo:=0) (n:=d2) (fun i σ Hc=>∃ (homes:List Nat) (st:List (Option Nat)),(∃a b,σ=[some (.ref p),some (.ref r),some (.int (n:Int)),some (.int (c:Int)),some (.ref Hs),some (.ref St),a,b])/\aL p H Hc/\aY Hc p/\Hc Hs=some (.lst (NV homes))/\Hc St=some (.lst (st.map oV))/\st.length=i/\sY n ts homes st)
   ⟨[],[],⟨_,_,rfl⟩,(K_.trans (aL.of WQ)).trans s3,mE,s3 _ _ gH OL,s3 _ _ gS Hz,rfl,rfl,fun x hx=>(nomatch hx),fun i y e=>by simp at e,fun y _=>bT _⟩ ?_ ?_
  .clear gH gS s3 mE WQ sA sB gl K_ s1 lR;rintro i σ Hc hi ⟨homes,st,⟨x6,x7,rfl⟩,sc,lN,RH,GD,sl,SD⟩;refine⟨_,rfl,.inl ⟨rfl,_,aZ.of RH⟩,_,rfl,_,rfl,p,n,rfl,by lia,by lia,lN,fun rR H4 hh s4 oY=>⟨Hs,_,_,rfl,rfl,s4 _ _ RH OL,by rw[bj,SD.len,sl];exact bn (show i<33 by lia) (by decide),?_⟩⟩;rw[jp];have M1:aL p H (upd H4 Hs (.lst (NV (homes++[rR])))):=fun b o e m=>by rw[am (ak e fH)];exact s4 _ _ (sc _ _ e m) m
   have uh:=oY.put (o:=.lst (NV (homes++[rR]))) OL.symm;have hS5:(upd H4 Hs (.lst (NV (homes++[rR])))) St=some (.lst (st.map oV)):=by rw[am Z4.symm];exact s4 _ _ GD Hz
   have hH5:=af (H:=H4) (a:=Hs) (o:=.lst (NV (homes++[rR])));generalize upd H4 Hs _=H5 at *;clear s4 oY RH GD lN sc;have em:(if (n:Int)<(c:Int) then (n:Int) else (c:Int))=((min c n:Nat):Int):=by split <;> lia
   refine⟨_,rfl,_,rfl,_,rfl,_,_,rfl,p,min c n,by rw[em];rfl,by lia,by lia,uh,fun y0 H6 hy0 s6 DA=>?_⟩;have Z5:wU (NV (homes++[rR])) (-1)=some (.int (rR:Int)):=by rw[<-jp];exact wV _ _
   dsimp only;refine uf (fun σ Hd=>∃y:Nat,y<n/\σ=[some (.ref p),some (.ref r),some (.int (n:Int)),some (.int (c:Int)),some (.ref Hs),some (.ref St),some (.int (0+(i:Int))),some (.int (y:Int))]/\aL p H Hd/\aY Hd p/\Hd Hs=some (.lst (NV (homes++[rR])))/\Hd St=some (.lst (st.map oV))) ?_ ?_
   .rintro σ Hd ⟨y,hy,rfl,sd,Ml,hH,hS⟩;refine uf (fun σ He=>He=Hd/\∃o:Option Nat,σ=[some (.ref p),some (.ref r),some (.int (n:Int)),some (.int (c:Int)),some (.ref Hs),some (.ref St),some (.int (0+(i:Int))),some (oV o)]/\∀y,o=some y->y<n/\y≠rR/\st.count (some y)<(dP n ts y).length) ?_ ?_
    .rintro σ He ⟨rfl,o,rfl,ho⟩;refine⟨_,rfl,.inl ⟨rfl,_,aZ.of hS⟩,_,rfl,St,_,_,rfl,rfl,hS,by rw[aW,sl];exact bn (show i<33 by lia) (by decide),?_⟩;exact⟨homes++[rR],st++[o],⟨_,_,rfl⟩,fun b o' e m=>by rw[am (ak e fS)];exact sd _ _ e m,Ml.put Hz.symm,by rw[am Z4];exact hH,by rw[af,cY];rfl,by rw[cp,sl];rfl,SD.snoc hh ho⟩
    .intro N hN;have Rd:=R0.keep Z1 fun b o l e=>sd b o e fun z=>Z2 (z ▸ l);obtain⟨bs,b1,b2,b3⟩:=Rd;have no:N _ Hd:=hN _ _ ⟨rfl,none,rfl,fun y e=>by cases e⟩;refine⟨_,rfl,_,rfl,_,rfl,Hs,_,_,_,rfl,rfl,aZ.of hH,Z5,rfl,_,rfl,gm (fun e1=>vp ?_) (fun e1=>?_)⟩
     .exact no
     refine⟨_,rfl,.inl ⟨rfl,_,aZ.of hS⟩,_,rfl,St,_,_,rfl,rfl,hS,rfl,mL,_,rfl,_,rfl,r,_,_,_,rfl,rfl,aZ.of b1,aB (GT (by rw[b3.1];exact hy)),_,_,rfl,.inl (aZ.of (b3.2 y hy)),_,_,rfl,rfl,_,rfl,?_⟩;refine gm (fun e2=>no) (fun e2=>hN _ _ ⟨rfl,some y,rfl,fun y' e=>?_⟩);cases e;refine⟨hy,fun z=>e1 (by rw[z];simp),?_⟩;have e2:=mt iu e2;rw[GX,bj] at e2;lia
   .intro N hN;have Rq:=M1.trans s6;have hH:=s6 _ _ hH5 OL;have hS:=s6 _ _ hS5 Hz;have hy:y0<n:=by lia
    have Rd:∀ {Hd},aL p H Hd->bX Hd L r n (dP n ts):=fun sd=>R0.keep Z1 fun b o l e=>sd b o e fun z=>Z2 (z ▸ l);refine VS (fun Hd=>aL p H Hd/\aY Hd p/\Hd Hs=some (.lst (NV (homes++[rR])))/\Hd St=some (.lst (st.map oV))) (fun Hd=>aL p H Hd/\aY Hd p/\Hd Hs=some (.lst (NV (homes++[rR])))/\Hd St=some (.lst (st.map oV))) ?_ (fun Hd ⟨a1,a2,a3,a4⟩=>hN _ _ ⟨y0,hy,rfl,a1,a2,a3,a4⟩) ?_
    .rintro Hd ⟨sd,Ml,hHd,hSd⟩;refine⟨_,rfl,_,_,rfl,rfl,_,rfl,_,rfl,p,n,rfl,by lia,by lia,Ml,fun d3 H7 Ra s7 Gx=>⟨_,_,rfl,rfl,_,rfl,_,_,rfl,rfl,(by show (0:Int)<(n:Int);lia),?_⟩⟩;have ey:((y0:Int)+1+(d3:Int)) % (n:Int)=(((y0+1+d3) % n:Nat):Int):=by simp
     change bA 7 (V.int (((y0:Int)+1+(d3:Int)) % (n:Int))) _ _ _;rw[ey];exact hN _ _ ⟨_,jO _ (by lia),rfl,sd.trans s7,Gx,s7 _ _ hHd OL,s7 _ _ hSd Hz⟩
    .intro Y N' hY hN';refine⟨_,rfl,p,7,rfl,by decide,by decide,DA,fun d3 H7 Ra s7 Gx=>⟨rfl,_,rfl,?_⟩⟩;have k7:=Rq.trans s7;have hS:=s7 _ _ hS Hz;have hH:=s7 _ _ hH OL;refine gm (fun e0=>vp (hY _ ⟨k7,Gx,hH,hS⟩)) (fun e0=>?_);refine⟨_,rfl,_,rfl,_,rfl,Hs,_,_,_,rfl,rfl,aZ.of hH,Z5,rfl,_,rfl,gm (fun e1=>vp (hY _ ⟨k7,Gx,hH,hS⟩)) (fun e1=>?_)⟩;obtain⟨bs,b1,b2,b3⟩:=Rd k7;refine⟨_,rfl,.inl ⟨rfl,_,aZ.of hS⟩,_,rfl,St,_,_,rfl,rfl,hS,rfl,mL,_,rfl,_,rfl,r,_,_,_,rfl,rfl,aZ.of b1,aB (GT (by rw[b3.1];exact hy)),_,_,rfl,.inl (aZ.of (b3.2 y0 hy)),_,_,rfl,rfl,_,rfl,?_⟩;exact gm (fun e2=>hY _ ⟨k7,Gx,hH,hS⟩) (fun e2=>hN' _ ⟨k7,Gx,hH,hS⟩)
  .rintro σ Hc ⟨homes,st,⟨x6,x7,rfl⟩,sc,lN,RH,GD,sl,SD⟩;refine⟨_,rfl,Hs,_,rfl,.inl ⟨aZ.of RH,fun ta Z6=>⟨_,rfl,St,_,rfl,.inl ⟨aZ.of (ai Z6 _ _ GD),fun tb Tt=>⟨by show 2<=sizeLine;decide,fun t ht=>?_⟩⟩⟩⟩⟩;have u1:=ai (o:=.tup (NV homes)) Z6;have u2:=ai (o:=.tup (st.map oV)) Tt;have u3:=ai (o:=.tup [.ref ta,.ref tb]) ht;exact q t ta tb homes st _ (sc.trans (aL.of ((u1.trans u2).trans u3))) (((lN.same u1).same u2).same u3) af (u3 _ _ (u2 _ _ af)) (u3 _ _ af) (by lia) SD
end
abbrev WR:Stmt:=top 13
abbrev Cy:Stmt:=eO (top 15) 1
theorem jx:(["letter","house"]:List Str).Nodup:=by decide +kernel
def rS(st:List (Option Nat))(i:Nat):List Nat:=(List.range i).filter fun j=>(st.getD j none).isSome
theorem mN:rS st (i+1)=rS st i++if (st.getD i none).isSome then [i] else []:=by
 unfold rS;rw[i_,iO,eE];rfl
theorem iA:(rS st i).length<=i:=a8 (ot _ _) (by rw[cK];exact aN _)
def RJ:R2:=fun x y H Q=>y=.cS/\Q (.bl (!decide (x=.cS))) H
theorem GZ{st:List (Option Nat)}{i:Nat}{x:V}(h:(st.map oV)[i]?=some x):i<st.length/\x=oV (st.getD i none):=by
 have hi:=(cJ.mp h).1;rw[aW] at hi;refine⟨hi,?_⟩;rw[bV,bH hi] at h;rw[b_,bH hi];exact(bN h).symm
theorem Cz:(!decide (oV o=.cS))=o.isSome:=by cases o <;> simp[oV]
theorem jq(h:j∈rS st i):j<i/\st.getD j none=some ((st.getD j none).getD 0):=by
 obtain⟨a,b⟩:=fE.mp h;refine⟨bP.mp a,?_⟩;cases e:st.getD j none with
 |none=>rw[e] at b;cases b
 |some y=>rfl
theorem Lc{st:List (Option Nat)}{i:Nat}(h:i<st.length):(st.map oV)[i]?=some (oV (st.getD i none)):=by
 rw[bV,b_,bH h];rfl
section
variable {P:Program} {w:World} {K:PySem.W.Frag} {mg:Str->Option Value} {base:Heap}
theorem WS:aP ["stand"] ["stand"] (ao WR):=⟨rfl,rfl,rfl,by decide +kernel,rfl,by decide +kernel,by decide +kernel⟩
def A3:Sp:=fun vs H Q _=>∃ (sa:Addr) (st:List (Option Nat)),vs=[.ref sa]/\H sa=some (.tup (st.map oV))/\st.length<=16/\∀ (r:Addr) (H':Hp),aK H H'->H r=none->H' r=some (.lst (NV (rS st st.length)))->Q (.ref r) H'
theorem RM{f:Addr}{fd:FuncData}(F:ii K "under_way" "under_way" WR f fd)(hE:mg "enumerate"=none):bD P w K mg base bb 1 f fd ["stand"] A3:=by
 refine F.ok WS (fun vs H Q E h=>?_) (fun eL A outer s H vs Q E hr h=>?_)
 .obtain⟨sa,st,rfl,_⟩:=h;rfl
 .obtain⟨sa,st,rfl,hS,hl,q⟩:=h;refine'⟨_,(aq (a9 ?c1)),?_⟩;case c1=>
   refine' cI (g:=(sn K 2 (fj (bA 0) (fj (bA 1) sj)))) (tt:=(Bv (l6 RJ (a_ 1) (tC .cS)))) (te:=(a_ 0)) (NB:=["letter","house"]) (src:=[none,none]) (br (by kernel_rfl)) rfl (xt rfl hE (aa (pv 0) ag)) ?g ?t ?e;case g=>exact fun cl C s₃ H₃ fp=>(dv (n:=2) rfl (aG (az (i:=0) jx rfl (Or.inl rfl) (Or.inr rfl)) (aG (az (i:=1) jx rfl (Or.inl rfl) (Or.inr rfl)) b9)))
   case t=>exact fun cl C s₃ H₃ fp=>jj (aX Bu (pv 1) jT (be _))
   case e=>exact fun cl C s₃ H₃ fp=>(pv 0)
  refine⟨_,rfl,sa,_,rfl,c_.of hS,fun D hD=>?_⟩;refine Aq (K:=K) (a:=sa) (xs:=st.map oV) (fun i ys σ H3=>(∃u v,σ=[u,v])/\ys=NV (rS st i)/\aK H H3/\H3 D=some (.lst ys)) ⟨⟨_,_,rfl⟩,rfl,ai hD,af⟩ (fun i ys σ H3 _ z=>c_.of (z.2.2.1 _ _ hS)) ?_ ?_
  .rintro i x t ys σ H3 Kt Kf hx ⟨⟨u,v,rfl⟩,rfl,sm,mB⟩ ht kt kf;obtain⟨hi,rfl⟩:=GZ hx;have aD:=ai (o:=.tup [.int (i:Int),oV (st.getD i none)]) ht;refine⟨_,_,rfl,c_.of af,rfl,_,_,rfl,_,_,rfl,rfl,?_⟩;refine⟨_,rfl,rfl,_,rfl,?_⟩;rw[Cz];refine gm (fun e=>?_) (fun e=>?_)
   .refine⟨_,rfl,kt _ _ _ (aD _ _ mB) (by rw[bj];exact eU iA (bn (show i<17 by lia) (by decide))) ⟨⟨_,_,rfl⟩,?_,bK (sm.trans aD) hD,af⟩⟩;rw[mN,av e,jp]
   .refine kf _ _ ⟨⟨_,_,rfl⟩,?_,sm.trans aD,aD _ _ mB⟩;rw[mN,au e,qu]
  .rintro ys σ H3 ⟨_,rfl,sm,mB⟩;rw[aW] at mB;exact q D H3 sm hD mB
theorem Nm:aP ["self","net","homes","stand","beat"] ["self","net","homes","stand","beat"] (ao Cy):=⟨rfl,rfl,rfl,by decide +kernel,rfl,by decide +kernel,by decide +kernel⟩
def rT:Sp:=fun vs H Q _=>∃ (x0 x1 x2 x4:V) (sa:Addr) (st:List (Option Nat)),vs=[x0,x1,x2,.ref sa,x4]/\H sa=some (.tup (st.map oV))/\st.length<=16/\∀ (r:Addr) (H':Hp),aK H H'->H r=none->H' r=some (.lst (NV (rS st st.length)))->Q (.ref r) H'
theorem CC(F:ii K "order" "Rule.order" Cy f fd)(UW:dI P w K mg base bb 1 "under_way" ["stand"] A3):bD P w K mg base bb 2 f fd ["self","net","homes","stand","beat"] rT:=by
 refine F.ok Nm (fun vs H Q E h=>?_) (fun eL A outer s H vs Q E hr h=>?_)
 .obtain⟨x0,x1,x2,x4,sa,st,rfl,_⟩:=h;rfl
 .obtain⟨x0,x1,x2,x4,sa,st,rfl,hS,hl,q⟩:=h;refine⟨_,(aq (a9 (aI UW hr aH (aa (pv 3) ag)))),?_⟩;exact⟨_,rfl,sa,st,rfl,hS,hl,q⟩
end
abbrev G0:Stmt:=top 46
theorem d9.weak(N:d9 C H L p n ts)(k:∀b,L b->L' b):d9 C H L' p n ts:=by
 obtain⟨F',dx',tl,ol,ds,q1,q2,q3,⟨b1,c1,d1,e1⟩,⟨b2,c2,d2,e2⟩,⟨a3,zs,b3,c3,d3,e3⟩⟩:=N;exact⟨F',dx',tl,ol,ds,q1,k _ q2,k _ q3,⟨b1,c1,fun b hb=>k b (d1 b hb),e1⟩,⟨b2,c2,fun b hb=>k b (d2 b hb),e2⟩,⟨k _ a3,zs,b3,c3,fun z hz=>k _ (d3 z hz),e3⟩⟩
theorem kM.j_(t:kM Pt H)(s:aL p H H')(hp:aY H p):kM Pt H':=by
 obtain⟨a,b,e,_⟩:=hp;rcases t with z|⟨c,z,y⟩
 .exact .inl (s _ _ z (by rintro rfl;rw[z] at e;cases e))
 .exact .inr ⟨c,s _ _ z (by rintro rfl;rw[z] at e;cases e),s _ _ y (by rintro rfl;rw[y] at e;cases e)⟩
theorem bX.weak(R:bX H L l n r)(k:∀b,L b->L' b):bX H L' l n r:=let ⟨bs,a,b,c⟩:=R;⟨bs,a,fun x hx=>k x (b x hx),c⟩
def CD(Pt p:Addr)(H H':Hp):Prop:=∀b o,H b=some o->b≠Pt->b≠p->H' b=some o
structure om(C:Addr)(H0 H:Hp)(t px oa fa ha sa:Addr)(n:Nat)(ts:Ts)(homes:List Nat)(st:List (Option Nat)):Prop where
 tu:H t=some (.tup [.ref px,.ref oa,.ref fa,.ref ha,.ref sa])
 net:d9 C H (fun b=>H0 b=none) px n ts
 px:H0 px=none
 out:bX H (fun b=>H0 b=none) oa n (dP n ts)
 oa:H0 oa=none
 far:bX H (fun b=>H0 b=none) fa n (fun h=>(List.range n).map (far ts h))
 fa:H0 fa=none
 ha:H ha=some (.tup (NV homes))
 sa:H sa=some (.tup (st.map oV))
 le:st.length<=16
 sd:sY n ts homes st
section
variable {P:Program} {w:World} {K:PySem.W.Frag} {mg:Str->Option Value} {base:Heap}
theorem on:aP ["_law_pot_here","_law_many","_law_ties","_law_outs_here","_law_homes","_law_stand"] ["_law_pot_here"] (ao G0):=⟨rfl,rfl,rfl,by decide +kernel,rfl,by decide +kernel,by decide +kernel⟩
def A7(C Pt:Addr):Sp:=fun vs H Q _=>∃p:Addr,vs=[.ref p]/\aY H p/\kM Pt H/\
 ∀ (t px oa fa ha sa:Addr) (n:Nat) (ts:Ts) (homes:List Nat) (st:List (Option Nat)) (H':Hp),CD Pt p H H'->aY H' p->kM Pt H'->om C H H' t px oa fa ha sa n ts homes st->Q (.ref t) H'
theorem Jt(F:ii K "_law_case" "_law_case" G0 f fd)(T:NT K mg C)(M:Mk K C fI)(bI:jv K fdI ["self","many","ties"] [])(GI:bD P w K mg base bb 7 fI fdI ["self","many","ties"] (AM C Pt))(NE:dI P w K mg base bb 3 "_law_net" ["_law_pot_here"] GV)(OU:dI P w K mg base bb 1 "_law_outs" ["_law_many","_law_ties"] v9)(ST:dI P w K mg base bb 2 "_law_start" ["_law_pot_here","_law_outs_here"] v_)(FA:dI P w K mg base bb 1 "_law_far" ["_law_outs_here"] A0):
  bD P w K mg base bb 9 f fd ["_law_pot_here"] (A7 C Pt):=by
 refine F.ok on (fun vs H Q E h=>?_) (fun eL A outer s H vs Q E hr h=>?_)
 .obtain⟨p,rfl,_⟩:=h;rfl
 .obtain⟨p,rfl,hp,tb,q⟩:=h;have h1:cj 1 _:=hr.mono (by decide);have h2:cj 2 _:=hr.mono (by decide);have h3:cj 3 _:=hr.mono (by decide);refine⟨_,(aj (dR (aI NE h3 aH (aa (pv 0) ag)) (dv (n:=2) rfl (aG (az (i:=1) on.nd rfl (Or.inl rfl)) (aG (az (i:=2) on.nd rfl (Or.inl rfl)) b9))))
   (aj (aU (i:=3) on.nd rfl (Or.inl rfl) (aI OU h1 aH (aa (pv 1) (aa (pv 2) ag))))
   (aj (dR (aI ST h2 aH (aa (pv 0) (aa (pv 3) ag))) (dv (n:=2) rfl (aG (az (i:=4) on.nd rfl (Or.inl rfl)) (aG (az (i:=5) on.nd rfl (Or.inl rfl)) b9))))
   (aq (a9 (cG (aa (Bw M GI hr rfl T.IJ bI .nil aH (aa (pv 1) (aa (pv 2) ag))) (aa (pv 3) (aa (aI FA h1 aH (aa (pv 3) ag)) (aa (pv 4) (aa (pv 5) ag))))))))))),?_⟩
  refine⟨_,rfl,p,rfl,hp,fun t0 r n zs H1 s1 lR ht0 Wk yn MJ La F1=>⟨t0,_,rfl,c_.of Wk,rfl,_,_,rfl,_,_,rfl,rfl,?_⟩⟩;refine⟨_,rfl,_,rfl,n,r,zs,rfl,MJ,La,F1,fun oa H2 s2 Uk R2=>?_⟩;have WT:∀ {b:Addr},H1 b=none->H b=none:=fun h=>s1.free lR.full h;refine⟨_,rfl,_,rfl,p,oa,n,zp zs,_,rfl,F1.n1,F1.n2,lR.same s2,R2,Uk,fun z=>lR.full z,fun t3 ha sa homes st H3 s3 mE ht3 hha hsa sl SD=>⟨t3,_,rfl,c_.of ht3,rfl,_,_,rfl,_,_,rfl,rfl,?_⟩⟩;have R3:=R2.keep Uk fun b o l e=>s3 b o e fun z=>lR.full (z ▸ l);have nrp:r≠p:=hp.ne yn;have A8:=s3 _ _ (s2 _ _ MJ) nrp;have ML:=(La.same s2).oX s3 (lR.same s2);have OM:aL p H H3:=(s1.trans (aL.of s2)).trans s3;have Z7:=tb.j_ OM hp;refine⟨_,rfl,_,rfl,fun px dx nx ndx WU=>?_⟩;have sN:aK H3 (upd (upd H3 dx (.own px)) px (.ins C dx [])):=(ai (o:=.own px) ndx).trans (ai (D:=px) (o:=.ins C dx []) (by rw[am WU.symm];exact nx));refine⟨px,dx,n,r,zs,rfl,af,⟨F1,sN _ _ A8,ML.same sN⟩,Z7.same sN,fun H5 N5 t5 s5=>⟨rfl,?_⟩⟩;have RO:∀b o,H3 b=some o->(∀ps,o≠.ik ps)->H5 b=some o:=fun b o e nt=>s5 b o (sN _ _ e) (ak e nx) ((Z7.same sN).not (sN _ _ e) nt);have Hq:∀ {b:Addr},H3 b=none->H b=none:=fun h=>OM.free mE.full h;have WV:∀ {b:Addr},(upd (upd H3 dx (.own px)) px (.ins C dx [])) b=none->H b=none:=fun h=>Hq (sN.free h);have nl:∀ {xs:List V} (ps),HO.lst xs≠.ik ps:=fun ps z=>by cases z
  have nt:∀ {xs:List V} (ps),HO.tup xs≠.ik ps:=fun ps z=>by cases z
  obtain⟨bs,b1,b2,b3⟩:=R3;have R5:bX H5 (fun a=>H1 a=none) oa n (dP n (zp zs)):=⟨bs,RO _ _ b1 nl,b2,b3.mono fun j hj e=>RO _ _ e nl⟩
  have uh:aY H5 p:=by obtain⟨x,y,e,r⟩:=mE;exact⟨x,y,RO _ _ e nl,r⟩
  have kp:CD Pt p H H5:=fun b o e n m=>s5 b o (sN _ _ (OM _ _ e m)) (ak (OM _ _ e m) nx) n;refine⟨_,rfl,_,rfl,_,oa,n,zp zs,rfl,F1,R5,fun fa H6 s6 Ul R6=>⟨_,rfl,_,rfl,by show 5<=sizeLine;decide,fun t ht=>?_⟩⟩;have sT:=ai (o:=.tup [.ref px,.ref oa,.ref fa,.ref ha,.ref sa]) ht;have Nn:=s6.trans sT;have LD:∀ {b:Addr},H5 b=none->H b=none:=fun {b} h=>by
   cases e:H b with
   |none=>rfl
   |some o=>
    by_cases m:b=p
    .subst m;exact absurd h uh.full
    .by_cases z:b=Pt
     .subst z;rcases t5 with y|⟨c,y,_⟩ <;> (rw[h] at y;cases y)
     .rw[s5 b o (sN _ _ (OM _ _ e m)) (ak (OM _ _ e m) nx) z] at h;cases h
  refine q t px oa fa ha sa n (zp zs) homes st _ (fun b o e n m=>Nn _ _ (kp b o e n m)) (uh.same Nn) (t5.same Nn) ⟨af,(N5.same Nn).weak fun b hb=>WV hb,Hq nx,(R5.weak fun b hb=>WT hb).keep (WT Uk) (fun b o _ e=>Nn _ _ e),WT Uk,(R6.weak fun b hb=>LD hb).keep (LD Ul) (fun b o _ e=>sT _ _ e),LD Ul,Nn _ _ (RO _ _ hha nt),Nn _ _ (RO _ _ hsa nt),sl,SD⟩
end
structure oZ(n:Nat)(homes:List Nat)(st:List (Option Nat)):Prop where
 le:st.length<=16
 len:homes.length=st.length
 hs:∀x∈homes,x<n
 ss:∀y,some y∈st->y<n
theorem oZ.at(S:oZ n homes st)(h:l∈rS st st.length):l<st.length/\∃y,st.getD l none=some y/\y<n/\homes.getD l 0<n:=by
 obtain⟨a,b⟩:=jq h;refine⟨a,_,b,S.ss _ ?_,S.hs _ ?_⟩
 .rw[<-b,b_,bH a];exact eX _
 .rw[cA (by rw[S.len];exact a)];exact eX _
theorem sY.let(S:sY n ts homes st)(le:st.length<=16):oZ n homes st:=⟨le,S.len,S.hs,fun y hy=>by obtain⟨i,hi⟩:=uD.mp hy;exact(S.ss i y hi).1⟩
def Ju(o:HO):Prop:=∀ps,o≠.ik ps
theorem d9.Um(N:d9 C H L p n ts):d9 C H (fun b=>L b/\∃o,H b=some o/\Ju o) p n ts:=by
 obtain⟨dx,tl,ol,ds,a,l1,l2,b,c,d⟩:=N.ob;have ne:∀ {b xs},L b->H b=some (.lst xs)->L b/\∃o,H b=some o/\Ju o:=fun l e=>⟨l,_,e,fun ps z=>by cases z⟩
 have ne':∀ {b xs},L b->H b=some (.tup xs)->L b/\∃o,H b=some o/\Ju o:=fun l e=>⟨l,_,e,fun ps z=>by cases z⟩
 have Bp:∀ {l r},L l->bX H L l n r->bX H (fun b=>L b/\∃o,H b=some o/\Ju o) l n r/\(L l/\∃o,H l=some o/\Ju o):=fun hl ⟨bs,a,b,c⟩=>⟨⟨bs,a,fun x hx=>by
  obtain⟨j,hj,e⟩:=uI hx;have:=c.2 j (by rw[<-c.1];exact hj);rw[b_,bH hj,uN,e] at this;exact ne (b x hx) this,c⟩,ne hl a⟩
 obtain⟨t1,zs,t2,t3,t4,t5⟩:=d;exact⟨N.mn,dx,tl,ol,ds,a,(Bp l1 b).2,(Bp l2 c).2,(Bp l1 b).1,(Bp l2 c).1,ne t1 t2,zs,t2,t3,fun z hz=>ne' (t4 z hz) (t3 z hz),t5⟩
theorem _root_.L2.cM.not(t:cM lp q Pt H)(h:H b=some o)(n:∀ps,o≠.ik ps):b≠Pt:=by
 rintro rfl;rcases t with z|⟨c,z,_⟩ <;> · rw[h] at z;exact n _ (bN z)
theorem _root_.L2.cM.same(t:cM lp q Pt H)(e:aK H H'):cM lp q Pt H':=by
 rcases t with z|⟨c,z,y⟩
 .exact .inl (e _ _ z)
 .exact .inr ⟨c,e _ _ z,e _ _ y⟩
def wa(st:Stmt)(i:Nat):Expr:=match (bR st).getD i (.Pass ⟨0,0,0,0⟩) with
 |.Return (some (.Call _ _ (k::_) _)) _=>k.value
 |_=>.Name "x" ⟨0,0,0,0⟩
def Uo:Expr->Arguments
 |.Lambda a _ _ _=>a
 |_=>{ posonlyargs:=[],args:=[],vararg:=none,kwonlyargs:=[],kw_defaults:=[],kwarg:=none,defaults:=[] }
def Ld:Expr->Expr
 |.Lambda _ b _ _=>b
 |e=>e
def Le:Expr->Scope
 |.Lambda _ _ s _=>s
 |_=>{ kind:=.function,names:=[],isGenerator:=false,isCoroutine:=false }
def Up:Expr->Pos
 |.Lambda _ _ _ p=>p
 |_=>⟨0,0,0,0⟩
theorem cj.lam(r:cj (k+3) A)(env:Env):cj k (A.in1.in1.deeper env):=r.in1.in1.deeper env
theorem mO:(rS st i).Pairwise (·<·):=List.Pairwise.filter _ List.pairwise_lt_range
noncomputable def iB(ts:Ts)(homes:List Nat)(st:List (Option Nat))(l:Nat):Int:=((far ts ((st.getD l none).getD 0) (homes.getD l 0):Nat):Int)
theorem mP(s1:aK H H1)(t2:cM lp q PN H2)(eZ:∀b o,H1 b=some o->b≠PN->H2 b=some o)(s3:aK H2 H3)(A8:H3 r=none):H r=none:=by
 have h2:H2 r=none:=s3.free A8;cases z:H r with
 |none=>rfl
 |some o=>
  by_cases e:r=PN
  .subst e;rcases t2 with q|⟨_,q,_⟩ <;> (rw[h2] at q;cases q)
  .rw[eZ r o (s1 _ _ z) e] at h2;cases h2
def sZ(CR:Addr)(H:Hp)(rx:Addr)(ranks:List Int):Prop:=∃rd ra,H rx=some (.ins CR rd [("ranks",.ref ra)])/\H ra=some (.tup (ranks.map V.int))
theorem sZ.same{CR:Addr}{H H':Hp}{rx:Addr}{ranks:List Int}(h:sZ CR H rx ranks)(s:aK H H'):sZ CR H' rx ranks:=let ⟨rd,ra,a,b⟩:=h;⟨rd,ra,s _ _ a,s _ _ b⟩
structure Uq(K:PySem.W.Frag)(mg:Str->Option Value)(CR:Addr):Prop where
 cl:Ec K CR
 nR:hV K CR "ranks"
 IJ:mg "Ranked"=some (.ref CR)
theorem RP:([("ranks",v)]:List (Str×V)).lookup ("check_letters":Str)=none:=by
 rw[eV];rw[show (("check_letters":Str)==("ranks":Str))=false by decide +kernel];rfl
theorem Lf:([("ranks",v)]:List (Str×V)).lookup ("ranks":Str)=some v:=by
 rw[eV];rw[show (("ranks":Str)==("ranks":Str))=true by decide +kernel]
abbrev wb:Stmt:=eO (top 21) 0
abbrev G7:Stmt:=eO (top 21) 1
abbrev G8:Stmt:=eO (top 20) 1
abbrev A9:Stmt:=eO (top 15) 2
theorem Jv:(["rank"]:List Str).Nodup:=by decide +kernel
abbrev ul:Stmt:=eO (top 18) 0
def ON:Expr:=wa ul 0
def WW:Str:=("Nearest.order":Str)++".<locals>."++"<lambda>"
abbrev wc(PN:Addr)(H:Hp):Prop:=cM (Up ON) WW PN H
abbrev um:Stmt:=eO (top 19) 0
def OO:Expr:=wa um 0
def WX:Str:=("Farthest.order":Str)++".<locals>."++"<lambda>"
abbrev wd(PN:Addr)(H:Hp):Prop:=cM (Up OO) WX PN H
abbrev uo:Stmt:=eO (top 20) 0
def OP:Expr:=wa uo 0
def WY:Str:=("Turns.order":Str)++".<locals>."++"<lambda>"
abbrev we(PN:Addr)(H:Hp):Prop:=cM (Up OP) WY PN H
abbrev uq:Stmt:=eO (top 21) 2
def OQ:Expr:=wa uq 1
def WZ:Str:=("Ranked.order":Str)++".<locals>."++"<lambda>"
abbrev wf(PN:Addr)(H:Hp):Prop:=cM (Up OQ) WZ PN H
section
variable {P:Program} {w:World} {K:PySem.W.Frag} {mg:Str->Option Value} {base:Heap}
theorem No:aP ["self","net","homes","stand","beat"] ["self","net","homes","stand","beat"] (ao ul):=⟨rfl,rfl,rfl,by decide +kernel,rfl,by decide +kernel,by decide +kernel⟩
def A_(C PN:Addr):Sp:=fun vs H Q _=>∃ (L:Addr->Prop) (x0 x4:V) (px ha sa:Addr) (n:Nat) (ts:Ts) (homes:List Nat) (st:List (Option Nat)),vs=[x0,.ref px,.ref ha,.ref sa,x4]/\d9 C H L px n ts/\H ha=some (.tup (NV homes))/\H sa=some (.tup (st.map oV))/\oZ n homes st/\wc PN H/\
 ∀ (r:Addr) (H':Hp) (out:List Nat),wc PN H'->j4 PN H H'->H r=none->out.Perm (rS st st.length)->out.Pairwise (xQ (iB ts homes st))->H' r=some (.lst (NV out))->Q (.ref r) H'
theorem RQ(F:pe K "order" "Nearest.order" ul f fd c)(B:Bl mg)(kb:K.In base)(hb:nX mg base)(hc:PySem.W.codeHdIn K c PN=true)(T:NT K mg C)(MF:iL P w K mg base bb 5 C "far" ["self","one","other"] (oe C))(UW:dI P w K mg base bb 1 "under_way" ["stand"] A3):
  bD P w K mg base bb 9 f fd ["self","net","homes","stand","beat"] (A_ C PN):=by
 obtain⟨fF,fdF,mF,bF,GF⟩:=MF.ex;refine F.ok No (fun vs H Q E h=>?_) (fun A outer s H vs Q E hr h=>?_)
 .obtain⟨L,x0,x4,px,ha,sa,n,ts,homes,st,rfl,_⟩:=h;rfl
 .obtain⟨L,x0,x4,px,ha,sa,n,ts,homes,st,rfl,N,hH,hS,LO,tb,q⟩:=h;have h1:cj 1 _:=hr.mono (by decide);have LF:xP (jX bb P w K mg base ["self","net","homes","stand","beat"] "Nearest.order" (ao ul) f (.ref c) A outer s H E).yw ["letter","net","stand","homes"] [none,some 1,some 3,some 2] (Le ON) WW (Uo ON) (Ld ON) "letter":=
   ⟨br (by kernel_rfl),fun _ _ _ _ _=>rfl,rfl,rfl,rfl,by decide +kernel,rfl,rfl⟩
  have PB:∀f' c' cD s' H',PE (oU (jX bb P w K mg base ["self","net","homes","stand","beat"] "Nearest.order" (ao ul) f (.ref c) A outer s H E).yw ["letter","net","stand","homes"] (Le ON) cD WW f' c' s' H') (Ld ON) (wQ C "far" (oe C) [] E0 (a_ 1) (bi (l6 (C4 K) (a_ 2) (a_ 0)) (bi (l6 (C4 K) (a_ 3) (a_ 0)) fz))):=fun f' c' cD s' H'=>
   bQ (pv 1) T.cl mF GF (cj.lam hr _) bF .nil aH (aa (ba iG (pv 2) (pv 0) (fun _ _=>rfl)) (aa (ba iG (pv 3) (pv 0) (fun _ _=>rfl)) ag))
  refine⟨_,(aq (a9 (iU (jo hr LF PB) rfl B.sorted p9 (aa (aI UW h1 aH (aa (pv 3) ag)) ag) (l7 (qX (NB:=["letter","net","stand","homes"]) (src:=[none,some 1,some 3,some 2]) (mh kb hb hc) (br (by kernel_rfl))) qN)))),?_⟩;refine⟨_,rfl,sa,st,rfl,hS,LO.le,fun l H1 s1 LV hl=>?_⟩;have t1:=tb.same s1;refine⟨t1,fun f' c' H2 t2 eZ wF xb=>?_⟩;have s_:∀ {b o},H1 b=some o->(∀ps,o≠.ik ps)->H2 b=some o:=fun e n=>eZ _ _ e (t1.not e n);have Ee:=s_ hl (by intro ps z;cases z);have OR:=s_ (s1 _ _ hH) (by intro ps z;cases z);have HD:=s_ (s1 _ _ hS) (by intro ps z;cases z);obtain⟨dx0,fs0,i0⟩:∃dx fs,H1 px=some (.ins C dx fs):=by obtain⟨dx,tl,ol,ds,a,_⟩:=(N.same s1).ob;exact⟨dx,_,a⟩
  have N2:=(N.same s1).Um.keep (H':=H2) (fun b o l e=>by obtain⟨_,o',e',n⟩:=l;rw[e] at e';cases e';exact s_ e n) (fun o e=>s_ e (by rw[i0] at e;cases e;intro ps z;cases z));refine⟨l,f',c',rS st st.length,(iB ts homes st),rfl,rfl,aZ.of Ee,eU iA (by have:=LO.le;lia),mO,fun n hn=>by have:=(jq hn).1;have:=LO.le;lia,xb,wF,fun m hm H3 s3=>?_,fun r H3 out s3 A8 op pw=>?_⟩
  .obtain⟨GL,y,ey,hy,Np⟩:=LO.at hm;have N3:=N2.same s3;obtain⟨dx,tl,ol,ds,i1,_⟩:=N3.ob;refine⟨_,rfl,px,dx,_,rfl,i1,QS _ _ _ _,_,rfl,_,rfl,sa,_,_,_,rfl,rfl,c_.of (s3 _ _ HD),aB (Lc GL),_,rfl,_,rfl,ha,_,_,_,rfl,rfl,c_.of (s3 _ _ OR),aB (iZ (by rw[LO.len];exact GL)),?_⟩;rw[ey];refine⟨_,px,n,ts,y,homes.getD m 0,rfl,N3,hy,Np,?_,aK.refl _⟩;unfold iB;rw[ey];rfl
  .have sm:=ai (o:=.lst (NV out)) A8;exact q r _ out ((cM.same t2 s3).same sm) (fun b o e n=>sm _ _ (s3 _ _ (eZ _ _ (s1 _ _ e) n))) (mP s1 t2 eZ s3 A8) op pw af
theorem Nq:aP ["self","net","homes","stand","beat"] ["self","net","homes","stand","beat"] (ao um):=⟨rfl,rfl,rfl,by decide +kernel,rfl,by decide +kernel,by decide +kernel⟩
def Ba(C PN:Addr):Sp:=fun vs H Q _=>∃ (L:Addr->Prop) (x0 x4:V) (px ha sa:Addr) (n:Nat) (ts:Ts) (homes:List Nat) (st:List (Option Nat)),vs=[x0,.ref px,.ref ha,.ref sa,x4]/\d9 C H L px n ts/\H ha=some (.tup (NV homes))/\H sa=some (.tup (st.map oV))/\oZ n homes st/\wd PN H/\
 ∀ (r:Addr) (H':Hp) (out:List Nat),wd PN H'->j4 PN H H'->H r=none->out.Perm (rS st st.length)->out.Pairwise (xQ (fun l=>-iB ts homes st l))->H' r=some (.lst (NV out))->Q (.ref r) H'
theorem RU(F:pe K "order" "Farthest.order" um f fd c)(B:Bl mg)(kb:K.In base)(hb:nX mg base)(hc:PySem.W.codeHdIn K c PN=true)(T:NT K mg C)(MF:iL P w K mg base bb 5 C "far" ["self","one","other"] (oe C))(UW:dI P w K mg base bb 1 "under_way" ["stand"] A3):
  bD P w K mg base bb 9 f fd ["self","net","homes","stand","beat"] (Ba C PN):=by
 obtain⟨fF,fdF,mF,bF,GF⟩:=MF.ex;refine F.ok Nq (fun vs H Q E h=>?_) (fun A outer s H vs Q E hr h=>?_)
 .obtain⟨L,x0,x4,px,ha,sa,n,ts,homes,st,rfl,_⟩:=h;rfl
 .obtain⟨L,x0,x4,px,ha,sa,n,ts,homes,st,rfl,N,hH,hS,LO,tb,q⟩:=h;have h1:cj 1 _:=hr.mono (by decide);have LF:xP (jX bb P w K mg base ["self","net","homes","stand","beat"] "Farthest.order" (ao um) f (.ref c) A outer s H E).yw ["letter","net","stand","homes"] [none,some 1,some 3,some 2] (Le OO) WX (Uo OO) (Ld OO) "letter":=
   ⟨br (by kernel_rfl),fun _ _ _ _ _=>rfl,rfl,rfl,rfl,by decide +kernel,rfl,rfl⟩
  have PB:∀f' c' cD s' H',PE (oU (jX bb P w K mg base ["self","net","homes","stand","beat"] "Farthest.order" (ao um) f (.ref c) A outer s H E).yw ["letter","net","stand","homes"] (Le OO) cD WX f' c' s' H') (Ld OO) (YL (rU fun i=>.int (-i)) (wQ C "far" (oe C) [] E0 (a_ 1) (bi (l6 (C4 K) (a_ 2) (a_ 0)) (bi (l6 (C4 K) (a_ 3) (a_ 0)) fz)))):=fun f' c' cD s' H'=>
   wO qJ (bQ (pv 1) T.cl mF GF (cj.lam hr _) bF .nil aH (aa (ba iG (pv 2) (pv 0) (fun _ _=>rfl)) (aa (ba iG (pv 3) (pv 0) (fun _ _=>rfl)) ag)))
  refine⟨_,(aq (a9 (iU (jo hr LF PB) rfl B.sorted p9 (aa (aI UW h1 aH (aa (pv 3) ag)) ag) (l7 (qX (NB:=["letter","net","stand","homes"]) (src:=[none,some 1,some 3,some 2]) (mh kb hb hc) (br (by kernel_rfl))) qN)))),?_⟩;refine⟨_,rfl,sa,st,rfl,hS,LO.le,fun l H1 s1 LV hl=>?_⟩;have t1:=tb.same s1;refine⟨t1,fun f' c' H2 t2 eZ wF xb=>?_⟩;have s_:∀ {b o},H1 b=some o->(∀ps,o≠.ik ps)->H2 b=some o:=fun e n=>eZ _ _ e (t1.not e n);have Ee:=s_ hl (by intro ps z;cases z);have OR:=s_ (s1 _ _ hH) (by intro ps z;cases z);have HD:=s_ (s1 _ _ hS) (by intro ps z;cases z);obtain⟨dx0,fs0,i0⟩:∃dx fs,H1 px=some (.ins C dx fs):=by obtain⟨dx,tl,ol,ds,a,_⟩:=(N.same s1).ob;exact⟨dx,_,a⟩
  have N2:=(N.same s1).Um.keep (H':=H2) (fun b o l e=>by obtain⟨_,o',e',n⟩:=l;rw[e] at e';cases e';exact s_ e n) (fun o e=>s_ e (by rw[i0] at e;cases e;intro ps z;cases z));refine⟨l,f',c',rS st st.length,(fun l=>-iB ts homes st l),rfl,rfl,aZ.of Ee,eU iA (by have:=LO.le;lia),mO,fun n hn=>by have:=(jq hn).1;have:=LO.le;lia,xb,wF,fun m hm H3 s3=>?_,fun r H3 out s3 A8 op pw=>?_⟩
  .obtain⟨GL,y,ey,hy,Np⟩:=LO.at hm;have N3:=N2.same s3;obtain⟨dx,tl,ol,ds,i1,_⟩:=N3.ob;refine⟨_,rfl,px,dx,_,rfl,i1,QS _ _ _ _,_,rfl,_,rfl,sa,_,_,_,rfl,rfl,c_.of (s3 _ _ HD),aB (Lc GL),_,rfl,_,rfl,ha,_,_,_,rfl,rfl,c_.of (s3 _ _ OR),aB (iZ (by rw[LO.len];exact GL)),?_⟩;rw[ey];refine⟨_,px,n,ts,y,homes.getD m 0,rfl,N3,hy,Np,_,rfl,?_,aK.refl _⟩;unfold iB;dsimp only;rw[ey];rfl
  .have sm:=ai (o:=.lst (NV out)) A8;exact q r _ out ((cM.same t2 s3).same sm) (fun b o e n=>sm _ _ (s3 _ _ (eZ _ _ (s1 _ _ e) n))) (mP s1 t2 eZ s3 A8) op pw af
theorem Nr:aP ["self","net","homes","stand","beat"] ["self","net","homes","stand","beat"] (ao uo):=⟨rfl,rfl,rfl,by decide +kernel,rfl,by decide +kernel,by decide +kernel⟩
def Bb(PN:Addr):Sp:=fun vs H Q _=>∃ (x0 x1:V) (bt:Int) (ha sa:Addr) (n:Nat) (homes:List Nat) (st:List (Option Nat)),vs=[x0,x1,.ref ha,.ref sa,.int bt]/\0<=bt/\H ha=some (.tup (NV homes))/\H sa=some (.tup (st.map oV))/\oZ n homes st/\we PN H/\
 ∀ (r:Addr) (H':Hp) (out:List Nat),we PN H'->j4 PN H H'->H r=none->out.Perm (rS st st.length)->out.Pairwise (xQ (fun l=>((l:Nat)+bt) % ((homes.length:Nat):Int)))->H' r=some (.lst (NV out))->Q (.ref r) H'
theorem RV(F:pe K "order" "Turns.order" uo f fd c)(B:Bl mg)(kb:K.In base)(hb:nX mg base)(hc:PySem.W.codeHdIn K c PN=true)(UW:dI P w K mg base bb 1 "under_way" ["stand"] A3):
  bD P w K mg base bb 9 f fd ["self","net","homes","stand","beat"] (Bb PN):=by
 refine F.ok Nr (fun vs H Q E h=>?_) (fun A outer s H vs Q E hr h=>?_)
 .obtain⟨x0,x1,bt,ha,sa,n,homes,st,rfl,_⟩:=h;rfl
 .obtain⟨x0,x1,bt,ha,sa,n,homes,st,rfl,b0,hH,hS,LO,tb,q⟩:=h;have h1:cj 1 _:=hr.mono (by decide);have LF:xP (jX bb P w K mg base ["self","net","homes","stand","beat"] "Turns.order" (ao uo) f (.ref c) A outer s H E).yw ["letter","beat","homes"] [none,some 4,some 2] (Le OP) WY (Uo OP) (Ld OP) "letter":=
   ⟨br (by kernel_rfl),fun _ _ _ _ _=>rfl,rfl,rfl,rfl,by decide +kernel,rfl,rfl⟩
  have PB:∀f' c' cD s' H',PE (oU (jX bb P w K mg base ["self","net","homes","stand","beat"] "Turns.order" (ao uo) f (.ref c) A outer s H E).yw ["letter","beat","homes"] (Le OP) cD WY f' c' s' H') (Ld OP) (l6 (rI (fun _ j=>0<j) fun i j=>.int (i % j)) (l6 (zM fun i j=>.int (i+j)) (a_ 0) (a_ 1)) (Pw (fun xs H Q=>∃p ys,xs=[V.ref p]/\(aZ K H p ys\/c_ K H p ys)/\Q (.int ys.length) H) (bi (a_ 2) fz))):=fun f' c' cD s' H'=>
   aV hJ (aV cE (pv 0) (pv 1)) (aE aM (by rfl) B.len dN (aa (pv 2) ag))
  refine⟨_,(aq (a9 (iU (jo hr LF PB) rfl B.sorted p9 (aa (aI UW h1 aH (aa (pv 3) ag)) ag) (l7 (qX (NB:=["letter","beat","homes"]) (src:=[none,some 4,some 2]) (mh kb hb hc) (br (by kernel_rfl))) qN)))),?_⟩;refine⟨_,rfl,sa,st,rfl,hS,LO.le,fun l H1 s1 LV hl=>?_⟩;have t1:=tb.same s1;refine⟨t1,fun f' c' H2 t2 eZ wF xb=>?_⟩;have s_:∀ {b o},H1 b=some o->(∀ps,o≠.ik ps)->H2 b=some o:=fun e n=>eZ _ _ e (t1.not e n);have Ee:=s_ hl (by intro ps z;cases z);have OR:=s_ (s1 _ _ hH) (by intro ps z;cases z);have HD:=s_ (s1 _ _ hS) (by intro ps z;cases z);refine⟨l,f',c',rS st st.length,(fun l=>((l:Nat)+bt) % ((homes.length:Nat):Int)),rfl,rfl,aZ.of Ee,eU iA (by have:=LO.le;lia),mO,fun n hn=>by have:=(jq hn).1;have:=LO.le;lia,xb,wF,fun m hm H3 s3=>?_,fun r H3 out s3 A8 op pw=>?_⟩
  .obtain⟨GL,y,ey,hy,Np⟩:=LO.at hm;refine⟨_,rfl,_,rfl,_,_,rfl,rfl,_,rfl,ha,_,rfl,.inr (c_.of (s3 _ _ OR)),_,_,rfl,rfl,?_,?_,aK.refl _⟩
   .rw[bj,LO.len];lia
   .rw[bj]
  .have sm:=ai (o:=.lst (NV out)) A8;exact q r _ out ((cM.same t2 s3).same sm) (fun b o e n=>sm _ _ (s3 _ _ (eZ _ _ (s1 _ _ e) n))) (mP s1 t2 eZ s3 A8) op pw af
theorem Nt:aP ["self","homes"] ["self","homes"] (ao G7):=⟨rfl,rfl,rfl,by decide +kernel,rfl,by decide +kernel,by decide +kernel⟩
def Bc(CR:Addr):Sp:=fun vs H Q _=>∃ (rx ha:Addr) (ranks:List Int) (homes:List Nat),vs=[.ref rx,.ref ha]/\sZ CR H rx ranks/\H ha=some (.tup (NV homes))/\ranks.length=homes.length/\Q .cS H
theorem Jw{f CR:Addr}{fd:FuncData}(F:ii K "check_letters" "Ranked.check_letters" G7 f fd)(B:Bl mg)(RT:Uq K mg CR):bD P w K mg base bb 1 f fd ["self","homes"] (Bc CR):=by
 refine F.ok Nt (fun vs H Q E h=>?_) (fun eL A outer s H vs Q E hr h=>?_)
 .obtain⟨rx,ha,ranks,homes,rfl,_⟩:=h;rfl
 .obtain⟨rx,ha,ranks,homes,rfl,⟨rd,ra,g1,g2⟩,hH,rl,q⟩:=h;refine⟨_,(aq (df (aX tH (aE aM (by rfl) B.len dN (aa (nL (pv 0) rfl) ag)) (aE aM (by rfl) B.len dN (aa (pv 1) ag)) (be _)) dQ bq)),?_⟩;exact⟨_,rfl,rx,CR,rd,_,_,rfl,g1,RT.cl,RT.nR,Lf,ra,_,rfl,.inr (c_.of g2),_,rfl,ha,_,rfl,.inr (c_.of hH),rfl,_,rfl,ye (by rw[aW,bj,rl];simp) q⟩
theorem Nv:aP ["self","homes"] ["self","homes"] (ao G8):=⟨rfl,rfl,rfl,by decide +kernel,rfl,by decide +kernel,by decide +kernel⟩
def Bd:Sp:=fun vs H Q _=>∃ (x:V) (ha:Addr) (homes:List Nat),vs=[x,.ref ha]/\H ha=some (.tup (NV homes))/\Q (.int (max homes.length 1:Nat)) H
theorem Jx(F:ii K "period" "Turns.period" G8 f fd)(B:Bl mg):bD P w K mg base bb 1 f fd ["self","homes"] Bd:=by
 refine F.ok Nv (fun vs H Q E h=>?_) (fun eL A outer s H vs Q E hr h=>?_)
 .obtain⟨x,ha,homes,rfl,_⟩:=h;rfl
 .obtain⟨x,ha,homes,rfl,hH,q⟩:=h;refine⟨_,(aq (a9 (aE (ky rfl) (by rfl) B.max qe (aa (aE aM (by rfl) B.len dN (aa (pv 1) ag)) (aa ap ag))))),?_⟩;refine⟨_,rfl,ha,_,rfl,.inr (c_.of hH),_,_,rfl,?_⟩;rw[bj,show (if (1:Int) > ((homes.length:Nat):Int) then (1:Int) else ((homes.length:Nat):Int))=((max homes.length 1:Nat):Int) by split <;> lia];exact q
theorem RW:aP ["self","homes"] ["self","homes"] (ao A9):=⟨rfl,rfl,rfl,by decide +kernel,rfl,by decide +kernel,by decide +kernel⟩
def kg:Sp:=fun vs H Q _=>∃ (x y:V),vs=[x,y]/\Q (.int 1) H
theorem rV(F:ii K "period" "Rule.period" A9 f fd):bD P w K mg base bb 1 f fd ["self","homes"] kg:=by
 refine F.ok RW (fun vs H Q E h=>?_) (fun eL A outer s H vs Q E hr h=>?_)
 .obtain⟨x,y,rfl,_⟩:=h;rfl
 .obtain⟨x,y,rfl,q⟩:=h;exact⟨_,(aq (a9 ap)),q⟩
theorem Jy:aP ["self","ranks"] ["self","ranks"] (ao wb):=⟨rfl,rfl,rfl,by decide +kernel,rfl,by decide +kernel,by decide +kernel⟩
def wg(CR:Addr):Sp:=fun vs H Q _=>∃ (p dx ra:Addr) (ranks:List Int),vs=[.ref p,.ref ra]/\H p=some (.ins CR dx [])/\H ra=some (.tup (ranks.map V.int))/\ranks.length<=16/\∀H',sZ CR H' p ranks->aL p H H'->Q .cS H'
theorem G9{f CR:Addr}{fd:FuncData}(F:ii K "__init__" "Ranked.__init__" wb f fd)(B:Bl mg)(RT:Uq K mg CR)(WH:dI P w K mg base bb 1 "is_whole" ["thing"] (my K)):bD P w K mg base bb 2 f fd ["self","ranks"] (wg CR):=by
 refine F.ok Jy (fun vs H Q E h=>?_) (fun eL A outer s H vs Q E hr h=>?_)
 .obtain⟨p,dx,ra,ranks,rfl,_⟩:=h;rfl
 .obtain⟨p,dx,ra,ranks,rfl,hp,DZ,rl,q⟩:=h;refine'⟨_,(aj (df (PW.pt (wH (iF (g_ (aE hW (by rfl) B.KG oo (aa (pv 1) (aa (jf (v:=.ty "tuple") rfl B.tup qb rfl) ag))))) (vd (iF (g_ (aE (Dv rfl) (by rfl) B.all PyProof.Rows.boot_all (aa ?c1 ag))))))) dQ bq)
   (aq (qK (pv 0) (pv 1) rfl))),?_⟩
  case c1=>
   refine' cI (g:=(bA 0)) (te:=oz (my K) [] E0 (bi (a_ 0) fz)) (NB:=["rank"]) (src:=[none]) (br (by kernel_rfl)) rfl (LC (pv 1)) ?g ?t ?e;case g=>exact fun cl C s₃ H₃ fp=>(az (i:=0) Jv rfl (Or.inl rfl) (Or.inr rfl))
   case t=>exact fun cl C s₃ H₃ fp=>cV
   case e=>exact fun cl C s₃ H₃ fp=>aI WH hr aH (aa (pv 0) ag)
  refine⟨_,rfl,_,_,_,.type "tuple",true,rfl,⟨rfl,Ce⟩,.of (.tup DZ),_,rfl,iI ?_⟩;refine⟨_,rfl,ra,rfl,⟨_,c_.of DZ⟩,fun D hD=>?_⟩;refine Gq (K:=K) (a:=ra) (xs:=ranks.map V.int) (fun i ys σ H2=>(∃x,σ=[x])/\aK H H2/\H2 D=some (.lst ys)/\ys=(List.replicate i true).map V.bl) ⟨⟨_,rfl⟩,ai hD,af,rfl⟩ (fun i ys σ H2 _ z=>c_.of (z.2.1 _ _ DZ)) ?_ ?_
  .rintro i x ys σ H2 Kt Kf hx ⟨⟨x',rfl⟩,sm,jw,rfl⟩ kt kf;have hi:i<ranks.length:=by have:=(cJ.mp hx).1;rwa [aW] at this
   rw[bV,bH hi] at hx;cases hx;refine⟨_,rfl,_,_,rfl,.int _,?_⟩;exact kt _ _ _ jw (by rw[aW,oq];exact bn (show i<17 by lia) (by decide)) ⟨⟨_,rfl⟩,bK sm hD,af,by rw[yS,cY];rfl⟩
  .rintro ys σ H2 ⟨_,sm,jw,rfl⟩;refine⟨D,_,rfl,aZ.of jw,_,rfl,?_⟩;have e:(List.replicate (ranks.map V.int).length true).all id=true:=by
    rw[i9];intro x o5;rw[(List.mem_replicate.mp o5).2];rfl
   rw[e];refine iI ⟨_,rfl,_,rfl,p,CR,dx,[],rfl,sm _ _ hp,RT.cl,RT.nR,(by show 0<1000;decide),?_⟩;have npr:ra≠p:=by rintro rfl;rw[hp] at DZ;cases DZ
   exact q _ ⟨dx,ra,by rw[af];rfl,by rw[am npr];exact sm _ _ DZ⟩ (fun b o e n=>by rw[am n];exact sm _ _ e)
theorem Ny:aP ["self","net","homes","stand","beat"] ["self","net","homes","stand","beat"] (ao uq):=⟨rfl,rfl,rfl,by decide +kernel,rfl,by decide +kernel,by decide +kernel⟩
def Be(CR PN:Addr):Sp:=fun vs H Q _=>∃ (x1 x4:V) (rx ha sa:Addr) (n:Nat) (ranks:List Int) (homes:List Nat) (st:List (Option Nat)),vs=[.ref rx,x1,.ref ha,.ref sa,x4]/\sZ CR H rx ranks/\ranks.length=homes.length/\H ha=some (.tup (NV homes))/\H sa=some (.tup (st.map oV))/\oZ n homes st/\wf PN H/\
 ∀ (r:Addr) (H':Hp) (out:List Nat),wf PN H'->j4 PN H H'->H r=none->out.Perm (rS st st.length)->out.Pairwise (xQ (fun l=>ranks.getD l 0))->H' r=some (.lst (NV out))->Q (.ref r) H'
theorem RX{f c CR PN:Addr}{fd:FuncData}(F:pe K "order" "Ranked.order" uq f fd c)(B:Bl mg)(kb:K.In base)(hb:nX mg base)(hc:PySem.W.codeHdIn K c PN=true)(RT:Uq K mg CR)(MC:iL P w K mg base bb 1 CR "check_letters" ["self","homes"] (Bc CR))(UW:dI P w K mg base bb 1 "under_way" ["stand"] A3):
  bD P w K mg base bb 9 f fd ["self","net","homes","stand","beat"] (Be CR PN):=by
 obtain⟨fC,fdC,mC,bC,GC⟩:=MC.ex;refine F.ok Ny (fun vs H Q E h=>?_) (fun A outer s H vs Q E hr h=>?_)
 .obtain⟨x1,x4,rx,ha,sa,n,ranks,homes,st,rfl,_⟩:=h;rfl
 .obtain⟨x1,x4,rx,ha,sa,n,ranks,homes,st,rfl,RK,rl,hH,hS,LO,tb,q⟩:=h;have h1:cj 1 _:=hr.mono (by decide);have LF:xP (jX bb P w K mg base ["self","net","homes","stand","beat"] "Ranked.order" (ao uq) f (.ref c) A outer s H E).yw ["letter","self"] [none,some 0] (Le OQ) WZ (Uo OQ) (Ld OQ) "letter":=
   ⟨br (by kernel_rfl),fun _ _ _ _ _=>rfl,rfl,rfl,rfl,by decide +kernel,rfl,rfl⟩
  have PB:∀f' c' cD s' H',PE (oU (jX bb P w K mg base ["self","net","homes","stand","beat"] "Ranked.order" (ao uq) f (.ref c) A outer s H E).yw ["letter","self"] (Le OQ) cD WZ f' c' s' H') (Ld OQ) (l6 (C4 K) (LJ K (a_ 1) "ranks") (a_ 0)):=fun f' c' cD s' H'=>
   ba iG (nL (pv 1) rfl) (pv 0) (fun _ _=>rfl)
  refine⟨_,(aj (b8 (bQ (pv 0) RT.cl mC GC h1 bC .nil aH (aa (pv 2) ag))) (aq (a9 (iU (jo hr LF PB) rfl B.sorted p9 (aa (aI UW h1 aH (aa (pv 3) ag)) ag) (l7 (qX (NB:=["letter","self"]) (src:=[none,some 0]) (mh kb hb hc) (br (by kernel_rfl))) qN))))),?_⟩;obtain⟨rd0,ra0,g10,g20⟩:=id RK;refine⟨_,rfl,rx,rd0,_,rfl,g10,RP,_,rfl,rx,ha,ranks,homes,rfl,RK,hH,rl,?_⟩;refine⟨_,rfl,sa,st,rfl,hS,LO.le,fun l H1 s1 LV hl=>?_⟩;have t1:=tb.same s1;refine⟨t1,fun f' c' H2 t2 eZ wF xb=>?_⟩;have s_:∀ {b o},H1 b=some o->(∀ps,o≠.ik ps)->H2 b=some o:=fun e n=>eZ _ _ e (t1.not e n);have Ee:=s_ hl (by intro ps z;cases z);have OR:=s_ (s1 _ _ hH) (by intro ps z;cases z);have HD:=s_ (s1 _ _ hS) (by intro ps z;cases z);obtain⟨rd,ra,g1,g2⟩:=RK.same s1;have g1:=s_ g1 (by intro ps z;cases z);have g2:=s_ g2 (by intro ps z;cases z);refine⟨l,f',c',rS st st.length,(fun l=>ranks.getD l 0),rfl,rfl,aZ.of Ee,eU iA (by have:=LO.le;lia),mO,fun n hn=>by have:=(jq hn).1;have:=LO.le;lia,xb,wF,fun m hm H3 s3=>?_,fun r H3 out s3 A8 op pw=>?_⟩
  .obtain⟨GL,y,ey,hy,Np⟩:=LO.at hm;refine⟨_,rfl,rx,CR,rd,_,_,rfl,s3 _ _ g1,RT.cl,RT.nR,Lf,_,rfl,ra,_,_,_,rfl,rfl,c_.of (s3 _ _ g2),aB (by rw[bV,bH (show m<ranks.length by rw[rl,LO.len];exact GL)];rfl),?_,aK.refl _⟩;dsimp only;rw[b_,bH (show m<ranks.length by rw[rl,LO.len];exact GL)];rfl
  .have sm:=ai (o:=.lst (NV out)) A8;exact q r _ out ((cM.same t2 s3).same sm) (fun b o e n=>sm _ _ (s3 _ _ (eZ _ _ (s1 _ _ e) n))) (mP s1 t2 eZ s3 A8) op pw af
end
abbrev Bg:Stmt:=top 48
abbrev G_:Stmt:=top 49
abbrev W0:Stmt:=top 50
theorem lQ:(["_law_k","_law_pot_here","_law_size"]:List Str).Nodup:=by decide +kernel
theorem kh:(["_law_mark","_law_letter"]:List Str).Nodup:=by decide +kernel
theorem Nz:(["_law_one"]:List Str).Nodup:=by decide +kernel
theorem _root_.L2.Jz(hu:X.A.units+(d+1)<cLine):l4 X (compareOp .Eq) (KS X false d):=by
 intro ae s σ H x y v u Q I rx ry h;obtain⟨p,q,xs,ys,rfl,rfl,hp,hq,hl,he,k⟩:=h;obtain rfl:v=Value.ref p:=rx;obtain rfl:u=Value.ref q:=ry;obtain⟨us,r1,p1,_⟩:=I.list hp;obtain⟨vs,r2,p2,_⟩:=I.list hq;refine SeqAt.eq_listAt (e:=fun _=>true) p1.isList p2.isList (by simp only[cu];rw[<-r1.length,<-r2.length];exact hl) (by lia) (DR I (by show X.A.units+1+d<cLine;lia) r1 r2 he) ⟨.bl _,H,I,rfl,?_⟩;rw[Ga];exact k
theorem JA(hu:X.A.units+2<cLine):l4 X (compareOp .Eq) (KS X false 0):=Jz (d:=0) (by lia)
theorem NA{X:Cx}{H:Hp}{os:List Nat}:∀i,i<(NV os).length->i<(NV os).length->TY X H 0 ((NV os).getD i .cS) ((NV os).getD i .cS):=fun i h _=>by
 rw[b_,bH h,uN,qo];exact I0
noncomputable def D4(ts:Ts)(homes:List Nat)(st:List (Option Nat))(bt:Int)(ranks:List Int):Nat->Nat->Int
 |0,_=>0
 |1,l=>iB ts homes st l
 |2,l=>-iB ts homes st l
 |3,l=>((l:Nat)+bt) % ((homes.length:Nat):Int)
 |4,_=>0
 |_,l=>ranks.getD l 0
theorem NC{ts:Ts}{homes:List Nat}{st:List (Option Nat)}{bt:Int}{ranks:List Int}{lU l:Nat}(h:lU<6):wU [V.int 0,.int (iB ts homes st l),.int (-iB ts homes st l),.int (((l:Nat)+bt) % ((homes.length:Nat):Int)),.int 0,.int (ranks.getD l 0)] (lU:Int)=some (.int (D4 ts homes st bt ranks lU l)):=by
 match lU,h with
 |0,_=>exact aB (j:=0) rfl
 |1,_=>exact aB (j:=1) rfl
 |2,_=>exact aB (j:=2) rfl
 |3,_=>exact aB (j:=3) rfl
 |4,_=>exact aB (j:=4) rfl
 |5,_=>exact aB (j:=5) rfl
theorem JB(e:zp zs=us.map fun l=>(kz l,ci l))(pm:lT.Perm zs)(Q5:TV (zp lT)):∃out:List Nat,(lT.map fun z=>V.int z.2.2)=NV out/\out.Perm us/\out.Pairwise (xQ kz):=by
 have pz:(zp lT).Perm (us.map fun l=>(kz l,ci l)):=by rw[<-e];exact pm.map _
 have mem:∀u∈zp lT,∃l∈us,u=(kz l,ci l):=fun u hu=>by
  obtain⟨l,hl,e⟩:=bh.mp (pz.mem_iff.mp hu);exact⟨l,hl,e.symm⟩
 refine⟨(zp lT).map fun u=>u.2.toNat,?_,?_,?_⟩
 .unfold zp NV;rw[cQ,cQ];refine jt fun z hz=>?_;obtain⟨l,_,el⟩:=mem z.2 (bh.mpr ⟨z,hz,rfl⟩);show V.int z.2.2=V.int ((z.2.2.toNat:Nat):Int);rw[el];rfl
 .have:=pz.map fun u=>u.2.toNat;rw[cQ] at this;refine this.trans ?_;rw[show ((fun u:Int×Int=>u.2.toNat) ∘ fun l=>(kz l,ci l))=id from funext fun l=>rfl,lx]
 .refine f9.mpr (Q5.imp_of_mem fun {u v} hu hv h=>?_);obtain⟨l,_,rfl⟩:=mem u hu;obtain⟨m,_,rfl⟩:=mem v hv;exact h
theorem Ha(b:∀n∈us,n<64):∀ {l1 l2:List Nat},l1.Perm us->l2.Perm us->l1.Pairwise (xQ kz)->l2.Pairwise (xQ kz)->l1=l2:=fun {l1 l2} p1 p2 s1 s2=>by
 refine List.Perm.eq_of_pairwise (le:=xQ kz) (fun x y hx hy h1 h2=>?_) s1 s2 (p1.trans p2.symm);have:=b x (p1.mem_iff.mp hx);have:=b y (p2.mem_iff.mp hy);unfold xQ at h1 h2;lia
section
variable {P:Program} {w:World} {K:PySem.W.Frag} {mg:Str->Option Value} {base:Heap}
theorem CG:aP ["_law_pot_here","_law_many","_law_size"] ["_law_pot_here","_law_many"] (ao Bg):=⟨rfl,rfl,rfl,by decide +kernel,rfl,by decide +kernel,by decide +kernel⟩
def wj:Sp:=fun vs H Q _=>∃ (p:Addr) (m:Nat),vs=[.ref p,.int (m:Nat)]/\aY H p/\m<=16/\∀ (t:Addr) (ranks:List Int) (H':Hp),aL p H H'->aY H' p->H' t=some (.tup (ranks.map V.int))->ranks.length=m->Q (.ref t) H'
theorem Hb(F:ii K "_law_ranks" "_law_ranks" Bg f fd)(B:Bl mg)(TK:dI P w K mg base bb 1 "_law_take" ["_law_pot_here","_law_many"] fT):bD P w K mg base bb 2 f fd ["_law_pot_here","_law_many"] wj:=by
 refine F.ok CG (fun vs H Q E h=>?_) (fun eL A outer s H vs Q E hr h=>?_)
 .obtain⟨p,m,rfl,_⟩:=h;rfl
 .obtain⟨p,m,rfl,hp,m1,q⟩:=h;refine'⟨_,(aj (aU (i:=2) CG.nd rfl (Or.inr rfl) (ba aR (ce (aa ap (aa (aV jW ap (aV zN ap ap)) ag))) (aI TK hr aH (aa (pv 0) (aa ap ag))) (fun _ _=>rfl)))
   (aq (a9 (cP iH (by rfl) B.tup qb (aa ?c1 ag))))),?_⟩
  case c1=>
   refine' cI (g:=(bA 0)) (te:=(l6 (zM fun i j=>.int (i-j)) (oz fT [] E0 (bi (a_ 1) (bi (a_ 2) fz))) (l6 (rI Pl fun i j=>.int (i / j)) (a_ 2) (tC (.int 2))))) (NB:=["_law_k","_law_pot_here","_law_size"]) (src:=[none,some 0,some 2]) (br (by kernel_rfl)) rfl (bv rfl B.range (aa (pv 1) ag)) ?g ?t ?e;case g=>exact fun cl C s₃ H₃ fp=>(az (i:=0) lQ rfl (Or.inl rfl) (Or.inr rfl))
   case t=>exact fun cl C s₃ H₃ fp=>cV
   case e=>exact fun cl C s₃ H₃ fp=>(aV jh (aI TK hr aH (aa (pv 1) (aa (pv 2) ag))) (aV pM (pv 2) ap))
  have e59:((10:Int) ^ Int.toNat 59)=100000000000000000000000000000000000000000000000000000000000:=by decide +kernel
  refine⟨_,_,rfl,rfl,⟨by decide,by decide,by decide⟩,_,_,rfl,rfl,?_,by show 2<=sizeLine;decide,fun l hl=>?_⟩
  .exact .inl ⟨by decide,by decide⟩
  have sl:=ai (o:=.lst [V.int 3,.int (2*10 ^ Int.toNat 59)]) hl;refine⟨_,rfl,p,2,rfl,by decide,by decide,hp.same sl,fun d H1 hd s1 lR=>?_⟩;have gl:=s1 _ _ (af (H:=H) (a:=l) (o:=.lst [V.int 3,.int (2*10 ^ Int.toNat 59)])) (hp.ne hl);have s01:aL p H H1:=(aL.of sl).trans s1;obtain⟨z,hz,z0,z1⟩:∃z:Nat,wU [V.int 3,.int (2*10 ^ Int.toNat 59)] (d:Int)=some (.int (z:Nat))/\0<z/\z<2 ^ 200:=by
   rcases(show d=0\/d=1 by lia) with rfl|rfl
   .exact⟨3,aB (j:=0) rfl,by decide,by decide⟩
   .refine⟨200000000000000000000000000000000000000000000000000000000000,?_,by decide,by decide⟩;rw[e59];exact aB (j:=1) rfl
  refine⟨l,_,_,_,rfl,rfl,aZ.of gl,hz,?_⟩;clear gl hz;refine⟨_,rfl,(m:Nat),rfl,by lia,by lia,fun D hD=>?_⟩;have nD:D≠p:=lR.ne hD;rw[f_];refine eT (fun i ys σ H2=>(∃x,σ=[x,some (.ref p),some (.int (z:Nat))])/\aL p H1 H2/\aY H2 p/\H2 D=some (.lst ys)/\∃rs:List Int,ys=rs.map V.int/\rs.length=i) ⟨⟨_,rfl⟩,aL.of (ai hD),lR.same (ai hD),af,[],rfl,rfl⟩ ?_ ?_
  .rintro i ys σ H2 Kt Kf hi ⟨⟨x,rfl⟩,s2,xI,jw,rs,rfl,rl⟩ kt kf;refine⟨_,rfl,_,rfl,p,z,rfl,z0,z1,xI,fun e H3 he s3 mE=>⟨_,rfl,_,_,rfl,rfl,⟨by decide,by decide⟩,_,_,rfl,rfl,?_⟩⟩;refine kt _ _ _ (s3 _ _ jw nD) (by rw[aW,rl];exact bn (show i<17 by lia) (by decide)) ⟨⟨_,rfl⟩,fun b o e' n=>?_,?_,af,rs++[_],by rw[cY];rfl,by rw[cp,rl];rfl⟩
   .rw[am (ak e' hD)];exact s3 _ _ (s2 _ _ e' n) n
   .exact mE.put nD.symm
  .rintro ys σ H2 ⟨_,s2,xI,jw,rs,rfl,rl⟩;refine⟨D,_,rfl,.inl ⟨aZ.of jw,fun t ht=>?_⟩⟩;exact q t rs _ ((s01.trans s2).trans (aL.of (ai ht))) (xI.same (ai ht)) af rl
theorem W1:aP ["_law_told","_law_due"] ["_law_told","_law_due"] (ao W0):=⟨rfl,rfl,rfl,by decide +kernel,rfl,by decide +kernel,by decide +kernel⟩
def ND:Sp:=fun vs H Q _=>∃ (a b:Addr) (os:List Nat),vs=[.ref a,.ref b]/\H a=some (.lst (NV os))/\H b=some (.lst (NV os))/\os.length<=16/\∀H',aK H H'->Q (.bl true) H'
theorem RY(F:ii K "_law_is_list" "_law_is_list" W0 f fd)(B:Bl mg):bD P w K mg base bb 1 f fd ["_law_told","_law_due"] ND:=by
 refine F.ok W1 (fun vs H Q E h=>?_) (fun eL A outer s H vs Q E hr h=>?_)
 .obtain⟨a,b,os,rfl,_⟩:=h;rfl
 .obtain⟨a,b,os,rfl,ha,hb,ol,q⟩:=h;refine'⟨_,(aq (a9 (jU (aE hW (by rfl) B.KG oo (aa (pv 0) (aa (jf (v:=.ty "list") rfl B.lst mS rfl) ag))) (jU (ku (JA hr.u) (pv 0) (pv 1) (be _)) (nG (EB (aE (tZ rfl) (by rfl) B.any PyProof.Rows.boot_any (aa ?c1 ag)))))))),?_⟩;case c1=>
   refine' cI (g:=(bA 0)) (te:=Pw (PZ K) (bi (a_ 0) (bi (tC (.ty "bool")) fz))) (NB:=["_law_one"]) (src:=[none]) (br (by kernel_rfl)) rfl (cw (pv 0)) ?g ?t ?e;case g=>exact fun cl C s₃ H₃ fp=>(az (i:=0) Nz rfl (Or.inl rfl) (Or.inr rfl))
   case t=>exact fun cl C s₃ H₃ fp=>cV
   case e=>exact fun cl C s₃ H₃ fp=>(aE hW (by rfl) B.KG oo (aa (pv 0) (aa (jf (v:=.ty "bool") rfl B.bool PyProof.Rows.boot_bool rfl) ag)))
  refine⟨_,rfl,_,_,_,.type "list",true,rfl,⟨rfl,xV⟩,.of (.lst ha),true,rfl,?_⟩;refine vp ⟨_,rfl,_,rfl,a,b,_,_,rfl,rfl,aZ.of ha,aZ.of hb,rfl,NA,_,rfl,vp ?_⟩;refine⟨_,rfl,a,rfl,⟨_,aZ.of ha⟩,fun D hD=>?_⟩;refine v4 os (fun (x:Nat)=>V.int (x:Int)) (fun _=>V.bl false) (fun σ=>∃x,σ=[x]) ha hD (by lia) ⟨_,rfl⟩ ?_ ?_
  .rintro x σ H2 R Kf hx ⟨x',rfl⟩ sm kk;exact⟨_,rfl,_,_,_,.type "int",false,rfl,⟨rfl,mx⟩,.of (.int _),kk _ _ ⟨_,rfl⟩ (aK.refl _)⟩
  .intro H2 sm jw;have e0:(os.map fun _=>V.bl false)=(os.map fun _=>false).map V.bl:=by rw[cQ];rfl
   rw[e0] at jw;refine⟨D,_,rfl,aZ.of jw,_,rfl,?_⟩;have e:(os.map fun _=>false).any id=false:=by
    rw[uM];intro x o5;obtain⟨_,_,rfl⟩:=bh.mp o5;decide
   rw[e];exact q _ sm
theorem rW:aP ["_law_way","_law_far_here","_law_homes","_law_stand","_law_beat_here","_law_ranks_here","_law_found","_law_letter","_law_house","_law_left"] ["_law_way","_law_far_here","_law_homes","_law_stand","_law_beat_here","_law_ranks_here"] (ao G_):=⟨rfl,rfl,rfl,by decide +kernel,rfl,by decide +kernel,by decide +kernel⟩
def Bh:Sp:=fun vs H Q _=>∃ (lU:Nat) (fa ha sa ra:Addr) (bt:Int) (n:Nat) (ts:Ts) (L:Addr->Prop) (homes:List Nat) (st:List (Option Nat)) (ranks:List Int),vs=[.int (lU:Nat),.ref fa,.ref ha,.ref sa,.int bt,.ref ra]/\lU<6/\bX H L fa n (fun h=>(List.range n).map (far ts h))/\L fa/\H ha=some (.tup (NV homes))/\H sa=some (.tup (st.map oV))/\oZ n homes st/\H ra=some (.tup (ranks.map V.int))/\ranks.length=homes.length/\
 ∀ (r:Addr) (H':Hp) (out:List Nat),aK H H'->H r=none->H' r=some (.lst (NV out))->out.Perm (rS st st.length)->out.Pairwise (xQ (D4 ts homes st bt ranks lU))->Q (.ref r) H'
theorem JC{f:Addr}{fd:FuncData}(F:ii K "_law_order" "_law_order" G_ f fd)(B:Bl mg)(hE:mg "enumerate"=none):bD P w K mg base bb 1 f fd ["_law_way","_law_far_here","_law_homes","_law_stand","_law_beat_here","_law_ranks_here"] Bh:=by
 refine F.ok rW (fun vs H Q E h=>?_) (fun eL A outer s H vs Q E hr h=>?_)
 .obtain⟨lU,fa,ha,sa,ra,bt,n,ts,L,homes,st,ranks,rfl,_⟩:=h;rfl
 .obtain⟨lU,fa,ha,sa,ra,bt,n,ts,L,homes,st,ranks,rfl,w6,RF,hLf,hH,hS,LO,hR,rl,q⟩:=h;refine'⟨_,(aj (aU (i:=6) rW.nd rfl (Or.inl rfl) (ce ag))
   (aj (dC eF rfl (xt rfl hE (aa (pv 3) ag)) (dv (n:=2) rfl (aG (az (i:=7) rW.nd rfl (Or.inl rfl)) (aG (az (i:=8) rW.nd rfl (Or.inl rfl)) b9)))
    (aq (df (aX Bu (pv 8) jT (be _)) (aj (aU (i:=9) rW.nd rfl (Or.inl rfl) (ba aR (ba aR (pv 1) (pv 8) (fun _ _=>rfl)) (ba iG (pv 2) (pv 7) (fun _ _=>rfl)) (fun _ _=>rfl)))
     (aq (b8 (fK e_ iN iM cz (pv 6) (aa (cG (aa (ba aR (ce (aa ap (aa (pv 9) (aa (wO qJ (pv 9)) (aa (aV hJ (aV cE (pv 7) (pv 4)) (aE aM (by rfl) B.len dN (aa (pv 2) ag))) (aa ap (aa (ba iG (pv 5) (pv 7) (fun _ _=>rfl)) ag))))))) (pv 0) (fun _ _=>rfl)) (aa (pv 7) ag))) ag))))) bq)))
   (aq (a9 ?c1)))),?_⟩
  case c1=>
   refine' cI (g:=(sn K 2 (fj (bA 0) (fj (bA 1) sj)))) (te:=(a_ 1)) (NB:=["_law_mark","_law_letter"]) (src:=[none,none]) (br (by kernel_rfl)) rfl (cw (aE rp (by rfl) B.sorted p9 (aa (pv 6) ag))) ?g ?t ?e;case g=>exact fun cl C s₃ H₃ fp=>(dv (n:=2) rfl (aG (az (i:=0) kh rfl (Or.inl rfl) (Or.inr rfl)) (aG (az (i:=1) kh rfl (Or.inl rfl) (Or.inr rfl)) b9)))
   case t=>exact fun cl C s₃ H₃ fp=>cV
   case e=>exact fun cl C s₃ H₃ fp=>(pv 1)
  refine⟨by show 0<=sizeLine;decide,fun Fo Z8=>?_⟩;have sF:=ai (o:=.lst []) Z8;have le:=LO.le;refine⟨_,rfl,sa,_,rfl,c_.of (sF _ _ hS),Du (K:=K) (xs:=st.map oV) (fun i σ Hc=>∃zs:Zs,(∃x7 x8 x9,σ=[some (.int (lU:Nat)),some (.ref fa),some (.ref ha),some (.ref sa),some (.int bt),some (.ref ra),some (.ref Fo),x7,x8,x9])/\aK H Hc/\Hc Fo=some (.lst (zr zs))/\PO Hc zs/\zp zs=(rS st i).map fun l=>(D4 ts homes st bt ranks lU l,ci l)) ⟨[],⟨_,_,_,rfl⟩,sF,af,PO.nil,rfl⟩ (fun i σ Hc _ ⟨zs,z⟩=>c_.of (z.2.1 _ _ hS)) ?_ ?_⟩
  .rintro i x t σ Hc hx ⟨zs,⟨x7,x8,x9,rfl⟩,sc,Lb,po,ez⟩ ht;obtain⟨hi,rfl⟩:=GZ hx;have aD:=ai (o:=.tup [.int (i:Int),oV (st.getD i none)]) ht;refine⟨t,_,rfl,c_.of af,rfl,_,_,rfl,_,_,rfl,rfl,?_⟩;refine⟨_,rfl,rfl,_,rfl,?_⟩;rw[Cz];have s1:=sc.trans aD;have Nh:=aD _ _ Lb;have La:=po.same aD;generalize upd Hc t _=H1 at *;clear ht aD;refine gm (fun e=>?_) (fun e=>?_)
   .obtain⟨_,y,ey,hy,Np⟩:=LO.at (fE.mpr ⟨bP.mpr hi,e⟩);obtain⟨bs,b,r1,r2,r3,_⟩:=(RF.keep hLf (fun b o _ e=>s1 b o e)).row hy;have hg:(NV ((List.range n).map (far ts y)))[homes.getD i 0]?=some (.int (far ts y (homes.getD i 0):Nat)):=by
     rw[bV,bV,gu Np];rfl
    have en:((far ts y (homes.getD i 0):Nat):Int)=iB ts homes st i:=by unfold iB;rw[ey];rfl
    rw[ey];refine⟨_,rfl,_,rfl,fa,_,_,_,rfl,rfl,aZ.of r1,aB r2,_,rfl,_,rfl,ha,_,_,_,rfl,rfl,c_.of (s1 _ _ hH),aB (iZ (by rw[LO.len];exact hi)),b,_,_,_,rfl,rfl,aZ.of r3,aB hg,?_⟩;rw[en];refine⟨_,rfl,.inl ⟨rfl,_,aZ.of Nh⟩,_,rfl,_,rfl,_,rfl,_,rfl,_,rfl,_,_,rfl,rfl,_,rfl,ha,_,rfl,.inr (c_.of (s1 _ _ hH)),_,_,rfl,rfl,?_,_,rfl,_,rfl,ra,_,_,.int (ranks.getD i 0),rfl,rfl,c_.of (s1 _ _ hR),aB ?_,by show 6<=sizeLine;decide,fun L6 hL6=>?_⟩
    .rw[bj,LO.len];lia
    .rw[bV,b_,bH (show i<ranks.length by rw[rl,LO.len];exact hi)];rfl
    rw[bj];have s6:=ai (o:=.lst [V.int 0,.int (iB ts homes st i),.int (-iB ts homes st i),.int (((i:Nat)+bt) % ((homes.length:Nat):Int)),.int 0,.int (ranks.getD i 0)]) hL6;refine⟨_,rfl,L6,_,_,_,rfl,rfl,aZ.of af,NC w6,_,rfl,by show 2<=sizeLine;decide,fun t2 Wl=>?_⟩;have s7:=s6.trans (ai (o:=mR (D4 ts homes st bt ranks lU i,ci i)) Wl);refine⟨Fo,_,_,rfl,rfl,s7 _ _ Nh,?_,zs++[(t2,(D4 ts homes st bt ranks lU i,ci i))],⟨_,_,_,rfl⟩,bK (s1.trans s7) Z8,by rw[af,eA];rfl,PO.putL (xs:=zr zs) ((La.same s7).append (PO.one af)) (s7 _ _ Nh),?_⟩
    .rw[dz,<-bu,ez,aW];exact eU iA (bn (show i<17 by lia) (by decide))
    .rw[eC,ez,mN,av e,cY];rfl
   .refine⟨zs,⟨_,_,_,rfl⟩,s1,Nh,La,?_⟩;rw[mN,au e,qu];exact ez
  .rintro σ Hc ⟨zs,⟨x7,x8,x9,rfl⟩,sc,Lb,po,ez⟩;rw[aW] at ez;have zl:zs.length<=16:=by rw[<-bu,ez,aW];exact a8 iA le
   refine⟨_,rfl,KO ?_⟩;refine Cg Lb po (by lia) (fun u hu=>?_) fun D lT hD pm Q5=>⟨D,rfl,⟨_,aZ.of af⟩,fun D2 jw=>?_⟩
   .rw[ez] at hu;obtain⟨l,hl,rfl⟩:=bh.mp hu;have:=(jq hl).1;show 0<=ci l/\ci l<64;show (0:Int)<=(l:Int)/\(l:Int)<64;lia
   obtain⟨out,eo,op,pw⟩:=JB ez pm Q5;have sD:=ai (o:=.lst (zr lT)) hD;have AU:PO (upd Hc D (.lst (zr lT))) lT:=fun z hz=>sD _ _ (po z (pm.mem_iff.mp hz));refine v4 lT (fun z=>V.ref z.1) (fun z=>V.int z.2.2) (fun σ=>∃a b,σ=[a,b]) af jw (by rw[pm.length_eq];lia) ⟨_,_,rfl⟩ ?_ ?_
   .rintro z σ H2 R Kf hz ⟨a,b,rfl⟩ sm kk;exact⟨z.1,_,rfl,c_.of (sm _ _ (AU z hz)),rfl,_,_,rfl,_,_,rfl,rfl,_,rfl,kk _ _ ⟨_,_,rfl⟩ (aK.refl _)⟩
   .intro H2 sm mB;rw[eo] at mB;exact q D2 H2 out (sc.trans (sD.trans sm)) (sc.free (sD.free jw)) mB op pw
end
abbrev wm:Stmt:=top 51
abbrev OS:List Str:=["self","net","homes","stand","beat"]
theorem ig(a:PE X e t1)(b:PE X e t2):PE X e (fun σ H Q=>t1 σ H Q\/t2 σ H Q):=fun ae s σ H Q I h=>h.elim (a ae s σ H Q I) (b ae s σ H Q I)
structure Lg(K:PySem.W.Frag)(mg:Str->Option Value)(nm:Str)(CB Ci:Addr):Prop where
 cl:Ec K Ci
 IJ:mg nm=some (.ref Ci)
 ha:PySem.W.findIn K (.ref Ci) "__class__"=some (some (.builtin "object.__class__"))
 hn:PySem.W.specialIn K (.builtin "object.__class__") "__get__"=some (some (.builtin "getset_descriptor.__get__"))
 Pp:PySem.W.takesIn K (.builtin "object.__class__")=some true
 hm:PySem.W.mroIn K Ci (.type "object")=some true
 kt:PySem.W.kitOne K (.ref Ci) (.ref CB)=some true
theorem Lg.ty(T:Lg K mg nm CB Ci)(e:H a=some (.ins Ci d fs)):Ko K H (.ref a) (.ref Ci):=.of (.ins e T.cl T.ha T.hn T.Pp T.hm)
structure ip(PN PF PT PR:Addr)(H:Hp):Prop where
 n:wc PN H
 f:wd PF H
 t:we PT H
 r:wf PR H
theorem ip.same{PN PF PT PR:Addr}{H H':Hp}(t:ip PN PF PT PR H)(s:aK H H'):ip PN PF PT PR H':=⟨t.n.same s,t.f.same s,t.t.same s,t.r.same s⟩
def KQ(PN PF PT PR:Addr)(H H':Hp):Prop:=∀b o,H b=some o->b≠PN->b≠PF->b≠PT->b≠PR->H' b=some o
def KN(H H':Hp):Prop:=∀b o,H b=some o->Ju o->H' b=some o
theorem KQ.kn{PN PF PT PR:Addr}{H H':Hp}(k:KQ PN PF PT PR H H')(t:ip PN PF PT PR H):KN H H':=fun b o e n=>k b o e (t.n.not e n) (t.f.not e n) (t.t.not e n) (t.r.not e n)
theorem KQ.of{PN PF PT PR:Addr}{H H':Hp}(s:aK H H'):KQ PN PF PT PR H H':=fun b o e _ _ _ _=>s b o e
theorem KQ.trans{PN PF PT PR:Addr}{H H1 H2:Hp}(a:KQ PN PF PT PR H H1)(b:KQ PN PF PT PR H1 H2):KQ PN PF PT PR H H2:=fun c o e n1 n2 n3 n4=>b c o (a c o e n1 n2 n3 n4) n1 n2 n3 n4
theorem _root_.L2.cM.jy(t:cM lp q P H)(s:j4 P' H H')(hp:∃ps,H P'=some (.ik ps))(n:P≠P'):cM lp q P H':=by
 obtain⟨ps,hp⟩:=hp;rcases t with z|⟨c,z,y⟩
 .exact .inl (s _ _ z n)
 .exact .inr ⟨c,s _ _ z n,s _ _ y (by rintro rfl;rw[hp] at y;cases y)⟩
theorem _root_.L2.cM.ik(t:cM lp q P H):∃ps,H P=some (.ik ps):=by
 rcases t with z|⟨c,z,y⟩
 .exact⟨_,z⟩
 .exact⟨_,z⟩
theorem _root_.L2.cM.putL(t:cM lp q Pt H)(h:H A=some (.lst xs)):cM lp q Pt (upd H A u):=by
 rcases t with z|⟨c,z,y⟩
 .exact .inl (by rw[am (by rintro rfl;rw[h] at z;cases z)];exact z)
 .exact .inr ⟨c,by rw[am (by rintro rfl;rw[h] at z;cases z)];exact z,by rw[am (by rintro rfl;rw[h] at y;cases y)];exact y⟩
theorem ip.putL{PN PF PT PR A:Addr}{H:Hp}{xs:List V}{u:HO}(t:ip PN PF PT PR H)(h:H A=some (.lst xs)):ip PN PF PT PR (upd H A u):=⟨t.n.putL h,t.f.putL h,t.t.putL h,t.r.putL h⟩
def Rl(CE CN CF CT CI CR:Addr)(ranks:List Int)(H:Hp):Nat->Addr->Prop
 |0,a=>∃d,H a=some (.ins CE d [])
 |1,a=>∃d,H a=some (.ins CN d [])
 |2,a=>∃d,H a=some (.ins CF d [])
 |3,a=>∃d,H a=some (.ins CT d [])
 |4,a=>∃d,H a=some (.ins CI d [])
 |_,a=>sZ CR H a ranks
theorem Rl.kn{CE CN CF CT CI CR:Addr}{ranks:List Int}{H H':Hp}{lU:Nat}{a:Addr}(h:Rl CE CN CF CT CI CR ranks H lU a)(k:KN H H'):Rl CE CN CF CT CI CR ranks H' lU a:=by
 match lU,h with
 |0,⟨d,e⟩=>exact⟨d,k _ _ e (fun ps z=>by cases z)⟩
 |1,⟨d,e⟩=>exact⟨d,k _ _ e (fun ps z=>by cases z)⟩
 |2,⟨d,e⟩=>exact⟨d,k _ _ e (fun ps z=>by cases z)⟩
 |3,⟨d,e⟩=>exact⟨d,k _ _ e (fun ps z=>by cases z)⟩
 |4,⟨d,e⟩=>exact⟨d,k _ _ e (fun ps z=>by cases z)⟩
 |n+5,⟨d,ra,e,e'⟩=>exact⟨d,ra,k _ _ e (fun ps z=>by cases z),k _ _ e' (fun ps z=>by cases z)⟩
structure ur(C:Addr)(H:Hp)(t px oa fa ha sa:Addr)(n:Nat)(ts:Ts)(homes:List Nat)(st:List (Option Nat)):Prop where
 tu:H t=some (.tup [.ref px,.ref oa,.ref fa,.ref ha,.ref sa])
 net:d9 C H (fun _=>True) px n ts
 far:bX H (fun _=>True) fa n (fun h=>(List.range n).map (far ts h))
 he:H ha=some (.tup (NV homes))
 se:H sa=some (.tup (st.map oV))
 le:st.length<=16
 sd:sY n ts homes st
theorem ur.kn(c:ur C H t px oa fa ha sa n ts homes st)(k:KN H H'):ur C H' t px oa fa ha sa n ts homes st:=by
 obtain⟨dx,tl,ol,ds,a,_⟩:=c.net.ob;obtain⟨bs,b1,b2,b3⟩:=c.far;exact⟨k _ _ c.tu (fun ps z=>by cases z),(c.net.Um.keep (fun b o l e=>by obtain⟨_,o',e',n⟩:=l;rw[e] at e';cases e';exact k b o e n) fun o e=>k _ _ e (by rw[a] at e;cases e;exact fun ps z=>by cases z)).weak fun _ _=>trivial,
  ⟨bs,k _ _ b1 (fun ps z=>by cases z),b2,b3.mono fun j hj e=>k _ _ e (fun ps z=>by cases z)⟩,k _ _ c.he (fun ps z=>by cases z),k _ _ c.se (fun ps z=>by cases z),c.le,c.sd⟩
section
variable {K:PySem.W.Frag} {C CE CN CF CT CI CR PN PF PT PR:Addr}
abbrev tO(Ci:Addr)(sp:Sp):TE:=wQ Ci "order" sp [] E0 (a_ 10) (bi (a_ 4) (bi (a_ 7) (bi (a_ 8) (bi (a_ 2) fz))))
abbrev tP(Ci:Addr)(sp:Sp):TE:=wQ Ci "period" sp [] E0 (a_ 10) (bi (a_ 7) fz)
abbrev tOU(C CE CN CF CT CI CR PN PF PT PR:Addr):TE:=fun σ H Q=>tO CE rT σ H Q\/(fun σ H Q=>tO CN (A_ C PN) σ H Q\/(fun σ H Q=>tO CF (Ba C PF) σ H Q\/(fun σ H Q=>tO CT (Bb PT) σ H Q\/(fun σ H Q=>tO CI rT σ H Q\/tO CR (Be CR PR) σ H Q) σ H Q) σ H Q) σ H Q) σ H Q
abbrev tPU(CE CN CF CT CI CR:Addr):TE:=fun σ H Q=>tP CE kg σ H Q\/(fun σ H Q=>tP CN kg σ H Q\/(fun σ H Q=>tP CF kg σ H Q\/(fun σ H Q=>tP CT Bd σ H Q\/(fun σ H Q=>tP CI kg σ H Q\/tP CR kg σ H Q) σ H Q) σ H Q) σ H Q) σ H Q
theorem NF:([("ranks",v)]:List (Str×V)).lookup ("order":Str)=none:=by
 rw[eV];rw[show (("order":Str)==("ranks":Str))=false by decide +kernel];rfl
theorem NG:([("ranks",v)]:List (Str×V)).lookup ("period":Str)=none:=by
 rw[eV];rw[show (("period":Str)==("ranks":Str))=false by decide +kernel];rfl
theorem CH:(rS st i).Pairwise (xQ fun _=>0):=mO.imp fun {a b} h=>by unfold xQ;lia
theorem Lh(nd:[PN,PF,PT,PR].Nodup)(tb:ip PN PF PT PR H)(c:ur C H t px oa fa ha sa n ts homes st)(b0:0<=bt)(rl:ranks.length=homes.length)(w6:lU<6)(ra:Rl CE CN CF CT CI CR ranks H lU a)(q:∀ (r:Addr) (H':Hp) (out:List Nat),ip PN PF PT PR H'->KQ PN PF PT PR H H'->H r=none->out.Perm (rS st st.length)->out.Pairwise (xQ (D4 ts homes st bt ranks lU))->H' r=some (.lst (NV out))->Q (.ref r) H'):
  tOU C CE CN CF CT CI CR PN PF PT PR [x0,x1,some (.int bt),x3,some (.ref px),x5,x6,some (.ref ha),some (.ref sa),x9,some (.ref a),RZ,R1] H Q:=by
 have LO:=c.sd.let c.le;simp only[fA,bg,List.not_mem_nil,not_or,or_false,not_false_eq_true,ja,and_true] at nd;obtain⟨⟨n1,n2,n3⟩,⟨n4,n5⟩,n6⟩:=nd;have kq:∀ {P H'},(P=PN\/P=PF\/P=PT\/P=PR)->j4 P H H'->KQ PN PF PT PR H H':=fun h s b o e m1 m2 m3 m4=>s b o e (by rcases h with rfl|rfl|rfl|rfl <;> assumption)
 match lU,w6,ra,q with
 |0,_,⟨d,e⟩,q=>exact .inl ⟨_,rfl,a,d,_,rfl,e,rfl,_,rfl,_,rfl,_,rfl,_,rfl,_,_,_,_,sa,st,rfl,c.se,c.le,fun r H' s yn hr=>q r H' _ (tb.same s) (KQ.of s) yn (ju _) CH hr⟩
 |1,_,⟨d,e⟩,q=>exact .inr (.inl ⟨_,rfl,a,d,_,rfl,e,rfl,_,rfl,_,rfl,_,rfl,_,rfl,_,_,_,px,ha,sa,n,ts,homes,st,rfl,c.net,c.he,c.se,LO,tb.n,fun r H' out t' s yn op pw hr=>q r H' out ⟨t',tb.f.jy s tb.n.ik (cZ n1),tb.t.jy s tb.n.ik (cZ n2),tb.r.jy s tb.n.ik (cZ n3)⟩ (kq (.inl rfl) s) yn op pw hr⟩)
 |2,_,⟨d,e⟩,q=>exact .inr (.inr (.inl ⟨_,rfl,a,d,_,rfl,e,rfl,_,rfl,_,rfl,_,rfl,_,rfl,_,_,_,px,ha,sa,n,ts,homes,st,rfl,c.net,c.he,c.se,LO,tb.f,fun r H' out t' s yn op pw hr=>q r H' out ⟨tb.n.jy s tb.f.ik n1,t',tb.t.jy s tb.f.ik (cZ n4),tb.r.jy s tb.f.ik (cZ n5)⟩ (kq (.inr (.inl rfl)) s) yn op pw hr⟩))
 |3,_,⟨d,e⟩,q=>exact .inr (.inr (.inr (.inl ⟨_,rfl,a,d,_,rfl,e,rfl,_,rfl,_,rfl,_,rfl,_,rfl,_,_,bt,ha,sa,n,homes,st,rfl,b0,c.he,c.se,LO,tb.t,fun r H' out t' s yn op pw hr=>q r H' out ⟨tb.n.jy s tb.t.ik n2,tb.f.jy s tb.t.ik n4,t',tb.r.jy s tb.t.ik (cZ n6)⟩ (kq (.inr (.inr (.inl rfl))) s) yn op pw hr⟩)))
 |4,_,⟨d,e⟩,q=>exact .inr (.inr (.inr (.inr (.inl ⟨_,rfl,a,d,_,rfl,e,rfl,_,rfl,_,rfl,_,rfl,_,rfl,_,_,_,_,sa,st,rfl,c.se,c.le,fun r H' s yn hr=>q r H' _ (tb.same s) (KQ.of s) yn (ju _) CH hr⟩))))
 |5,_,rk,q=>
  have rk:sZ CR H a ranks:=rk;obtain⟨d,Z9,e,e'⟩:=id rk;exact .inr (.inr (.inr (.inr (.inr ⟨_,rfl,a,d,_,rfl,e,NF,_,rfl,_,rfl,_,rfl,_,rfl,_,_,a,ha,sa,n,ranks,homes,st,rfl,rk,rl,c.he,c.se,LO,tb.r,fun r H' out t' s yn op pw hr=>q r H' out ⟨tb.n.jy s tb.r.ik n3,tb.f.jy s tb.r.ik n5,tb.t.jy s tb.r.ik n6,t'⟩ (kq (.inr (.inr (.inr rfl))) s) yn op pw hr⟩))))
theorem R4(he:H ha=some (.tup (NV homes)))(w6:lU<6)(ra:Rl CE CN CF CT CI CR ranks H lU a)(q:Q (.int (if lU=3 then (max homes.length 1:Nat) else 1:Nat)) H):
  tPU CE CN CF CT CI CR [x0,x1,x2,x3,x4,x5,x6,some (.ref ha),x8,x9,some (.ref a),RZ,R1] H Q:=by
 match lU,w6,ra,q with
 |0,_,⟨d,e⟩,q=>exact .inl ⟨_,rfl,a,d,_,rfl,e,rfl,_,rfl,_,_,rfl,q⟩
 |1,_,⟨d,e⟩,q=>exact .inr (.inl ⟨_,rfl,a,d,_,rfl,e,rfl,_,rfl,_,_,rfl,q⟩)
 |2,_,⟨d,e⟩,q=>exact .inr (.inr (.inl ⟨_,rfl,a,d,_,rfl,e,rfl,_,rfl,_,_,rfl,q⟩))
 |3,_,⟨d,e⟩,q=>exact .inr (.inr (.inr (.inl ⟨_,rfl,a,d,_,rfl,e,rfl,_,rfl,_,ha,homes,rfl,he,q⟩)))
 |4,_,⟨d,e⟩,q=>exact .inr (.inr (.inr (.inr (.inl ⟨_,rfl,a,d,_,rfl,e,rfl,_,rfl,_,_,rfl,q⟩))))
 |5,_,rk,q=>
  have rk:sZ CR H a ranks:=rk;obtain⟨d,Z9,e,e'⟩:=id rk;exact .inr (.inr (.inr (.inr (.inr ⟨_,rfl,a,d,_,rfl,e,NG,_,rfl,_,_,rfl,q⟩))))
end
section
variable {P:Program} {w:World} {K:PySem.W.Frag} {mg:Str->Option Value} {base:Heap}
theorem fW:aP ["_law_rules","_law_case_here","_law_beat_here","_law_ranks_here","_law_net_here","_law_outs_here","_law_far_here","_law_homes","_law_stand","_law_way","_law_rule","_law_due","_law_told"] ["_law_rules","_law_case_here","_law_beat_here","_law_ranks_here"] (ao wm):=⟨rfl,rfl,rfl,by decide +kernel,rfl,by decide +kernel,by decide +kernel⟩
structure R7(P:Program)(w:World)(K:PySem.W.Frag)(mg:Str->Option Value)(base:Heap)(C CB CE CN CF CT CI CR PN PF PT PR:Addr):Prop where
 gB:mg "Rule"=some (.ref CB)
 e:Lg K mg "Elder" CB CE
 n:Lg K mg "Nearest" CB CN
 f:Lg K mg "Farthest" CB CF
 t:Lg K mg "Turns" CB CT
 i:Lg K mg "InTurn" CB CI
 r:Lg K mg "Ranked" CB CR
 nd:[PN,PF,PT,PR].Nodup
 oE:iL P w K mg base bb 2 CE "order" OS rT
 oN:iL P w K mg base bb 9 CN "order" OS (A_ C PN)
 oF:iL P w K mg base bb 9 CF "order" OS (Ba C PF)
 oT:iL P w K mg base bb 9 CT "order" OS (Bb PT)
 oI:iL P w K mg base bb 2 CI "order" OS rT
 oR:iL P w K mg base bb 9 CR "order" OS (Be CR PR)
 pE:iL P w K mg base bb 1 CE "period" ["self","homes"] kg
 pN:iL P w K mg base bb 1 CN "period" ["self","homes"] kg
 pF:iL P w K mg base bb 1 CF "period" ["self","homes"] kg
 pT:iL P w K mg base bb 1 CT "period" ["self","homes"] Bd
 pI:iL P w K mg base bb 1 CI "period" ["self","homes"] kg
 pR:iL P w K mg base bb 1 CR "period" ["self","homes"] kg
theorem R7.ty{C CB CE CN CF CT CI CR PN PF PT PR:Addr}(R:R7 P w K mg base C CB CE CN CF CT CI CR PN PF PT PR){H:Hp}{ranks:List Int}{lU a:Nat}(w6:lU<6)(h:Rl CE CN CF CT CI CR ranks H lU a):∃t,PySem.W.kitOne K t (.ref CB)=some true/\Ko K H (.ref a) t:=by
 match lU,w6,h with
 |0,_,⟨d,e⟩=>exact⟨_,R.e.kt,R.e.ty e⟩
 |1,_,⟨d,e⟩=>exact⟨_,R.n.kt,R.n.ty e⟩
 |2,_,⟨d,e⟩=>exact⟨_,R.f.kt,R.f.ty e⟩
 |3,_,⟨d,e⟩=>exact⟨_,R.t.kt,R.t.ty e⟩
 |4,_,⟨d,e⟩=>exact⟨_,R.i.kt,R.i.ty e⟩
 |5,_,rk=>
  obtain⟨d,Z9,e,e'⟩:=(show sZ CR H a ranks from rk)
  exact⟨_,R.r.kt,R.r.ty e⟩
def wn(C CE CN CF CT CI PN PF PT PR:Addr):Sp:=fun vs H Q _=>∃ (rl t ra a0 a1 a2 a3 a4:Addr) (bt:Nat) (px oa fa ha sa:Addr) (n:Nat) (ts:Ts) (homes:List Nat) (st:List (Option Nat)) (ranks:List Int),vs=[.ref rl,.ref t,.int (bt:Nat),.ref ra]/\H rl=some (.lst [.ref a0,.ref a1,.ref a2,.ref a3,.ref a4])/\
 (∃d,H a0=some (.ins CE d []))/\(∃d,H a1=some (.ins CN d []))/\(∃d,H a2=some (.ins CF d []))/\(∃d,H a3=some (.ins CT d []))/\(∃d,H a4=some (.ins CI d []))/\ur C H t px oa fa ha sa n ts homes st/\H ra=some (.tup (ranks.map V.int))/\ranks.length=homes.length/\ip PN PF PT PR H/\
 ∀H',ip PN PF PT PR H'->KQ PN PF PT PR H H'->Q (.bl true) H'
theorem Hf{f Z_ C CB CE CN CF CT CI CR PN PF PT PR:Addr}{fd R8:FuncData}(F:ii K "_law_right" "_law_right" wm f fd)(B:Bl mg)(B2:OE mg)(hE:mg "enumerate"=none)(R:R7 P w K mg base C CB CE CN CF CT CI CR PN PF PT PR)(M:Mk K CR Z_)(bI:jv K R8 ["self","ranks"] [])(GI:bD P w K mg base bb 2 Z_ R8 ["self","ranks"] (wg CR))(OD:dI P w K mg base bb 1 "_law_order" ["_law_way","_law_far_here","_law_homes","_law_stand","_law_beat_here","_law_ranks_here"] Bh)(IL:dI P w K mg base bb 1 "_law_is_list" ["_law_told","_law_due"] ND):bD P w K mg base bb 10 f fd ["_law_rules","_law_case_here","_law_beat_here","_law_ranks_here"] (wn C CE CN CF CT CI PN PF PT PR):=by
 obtain⟨f1,d1,m1,b1,G1⟩:=R.oE.ex;obtain⟨f2,d2,m2,b2,G2⟩:=R.oN.ex;obtain⟨f3,d3,m3,b3,G3⟩:=R.oF.ex;obtain⟨f4,d4,m4,b4,G4⟩:=R.oT.ex;obtain⟨f5,d5,m5,b5,G5⟩:=R.oI.ex;obtain⟨f6,d6,m6,b6,G6⟩:=R.oR.ex;obtain⟨g1,e1,n1,c1,K1⟩:=R.pE.ex;obtain⟨g2,e2,n2,c2,K2⟩:=R.pN.ex;obtain⟨g3,e3,n3,c3,K3⟩:=R.pF.ex;obtain⟨g4,e4,n4,c4,K4⟩:=R.pT.ex;obtain⟨g5,e5,n5,c5,K5⟩:=R.pI.ex;obtain⟨g6,e6,n6,c6,K6⟩:=R.pR.ex;refine F.ok fW (fun vs H Q E h=>?_) (fun eL A outer s H vs Q E hr h=>?_)
 .obtain⟨rl,t,ra,a0,a1,a2,a3,a4,bt,px,oa,fa,ha,sa,n,ts,homes,st,ranks,rfl,_⟩:=h;rfl
 .obtain⟨rl,t,ra,a0,a1,a2,a3,a4,bt,px,oa,fa,ha,sa,n,ts,homes,st,ranks,rfl,Hv,r0,r1,r2,r3,r4,ca,DZ,NH,tb,q⟩:=h;have h1:cj 1 _:=hr.mono (by decide);have h2:cj 2 _:=hr.mono (by decide);have h3:cj 3 _:=hr.mono (by decide);have hu8:(A.deeper (PyProof.Rows.envOfC "_law_right" (ao wm) s.heap.objs.size f eL)).units+8<cLine:=by have:=hr.un;lia
  refine⟨_,(aj (dR (pv 1) (dv (n:=5) rfl (aG (az (i:=4) fW.nd rfl (Or.inl rfl)) (aG (az (i:=5) fW.nd rfl (Or.inl rfl)) (aG (az (i:=6) fW.nd rfl (Or.inl rfl)) (aG (az (i:=7) fW.nd rfl (Or.inl rfl)) (aG (az (i:=8) fW.nd rfl (Or.inl rfl)) b9)))))))
   (aj (dC eF rfl (Im rfl hE (aa (aV qR (pv 0) (ce (aa (Bw M GI h3 rfl R.r.IJ bI .nil aH (aa (pv 3) ag)) ag))) ag)) (dv (n:=2) rfl (aG (az (i:=9) fW.nd rfl (Or.inl rfl)) (aG (az (i:=10) fW.nd rfl (Or.inl rfl)) b9)))
    (aj (aU (i:=11) fW.nd rfl (Or.inl rfl) (aI OD h1 aH (aa (pv 9) (aa (pv 6) (aa (pv 7) (aa (pv 8) (aa (pv 2) (aa (pv 3) ag))))))))
    (aj (aU (i:=12) fW.nd rfl (Or.inl rfl) (ig (bQ (pv 10) R.e.cl m1 G1 h2 b1 .nil aH (aa (pv 4) (aa (pv 7) (aa (pv 8) (aa (pv 2) ag))))) (ig (bQ (pv 10) R.n.cl m2 G2 hr b2 .nil aH (aa (pv 4) (aa (pv 7) (aa (pv 8) (aa (pv 2) ag))))) (ig (bQ (pv 10) R.f.cl m3 G3 hr b3 .nil aH (aa (pv 4) (aa (pv 7) (aa (pv 8) (aa (pv 2) ag))))) (ig (bQ (pv 10) R.t.cl m4 G4 hr b4 .nil aH (aa (pv 4) (aa (pv 7) (aa (pv 8) (aa (pv 2) ag))))) (ig (bQ (pv 10) R.i.cl m5 G5 h2 b5 .nil aH (aa (pv 4) (aa (pv 7) (aa (pv 8) (aa (pv 2) ag))))) (bQ (pv 10) R.r.cl m6 G6 hr b6 .nil aH (aa (pv 4) (aa (pv 7) (aa (pv 8) (aa (pv 2) ag)))))))))))
    (aj (df (PW.pt (wH (iF (g_ (aE Dd (by rfl) B.KG oo (aa (pv 10) (aa (pL (v:=.ref CB) rfl R.gB rfl) ag))))) (vd (iF (g_ (aI IL h1 aH (aa (pv 12) (aa (pv 11) ag)))))))) (aq (a9 qH)) bq)
    (aj (b8 (LN e_ PySem.F.slot_list_reverse PySem.F.type_list_reverse zY (pv 12)))
    (aj (b8 (fK e_ iN iM cz (pv 12) (aa ap ag)))
    (aj (df (iF (g_ (aI IL h1 aH (aa (ig (bQ (pv 10) R.e.cl m1 G1 h2 b1 .nil aH (aa (pv 4) (aa (pv 7) (aa (pv 8) (aa (pv 2) ag))))) (ig (bQ (pv 10) R.n.cl m2 G2 hr b2 .nil aH (aa (pv 4) (aa (pv 7) (aa (pv 8) (aa (pv 2) ag))))) (ig (bQ (pv 10) R.f.cl m3 G3 hr b3 .nil aH (aa (pv 4) (aa (pv 7) (aa (pv 8) (aa (pv 2) ag))))) (ig (bQ (pv 10) R.t.cl m4 G4 hr b4 .nil aH (aa (pv 4) (aa (pv 7) (aa (pv 8) (aa (pv 2) ag))))) (ig (bQ (pv 10) R.i.cl m5 G5 h2 b5 .nil aH (aa (pv 4) (aa (pv 7) (aa (pv 8) (aa (pv 2) ag))))) (bQ (pv 10) R.r.cl m6 G6 hr b6 .nil aH (aa (pv 4) (aa (pv 7) (aa (pv 8) (aa (pv 2) ag)))))))))) (aa (pv 11) ag))))) (aq (a9 qH)) bq)
    (aq (df (aX tH (aE (rM hr.gd hu8) (by rfl) B2.repr PyProof.Rows.boot_repr (aa (ig (bQ (pv 10) R.e.cl n1 K1 h1 c1 .nil aH (aa (pv 7) ag)) (ig (bQ (pv 10) R.n.cl n2 K2 h1 c2 .nil aH (aa (pv 7) ag)) (ig (bQ (pv 10) R.f.cl n3 K3 h1 c3 .nil aH (aa (pv 7) ag)) (ig (bQ (pv 10) R.t.cl n4 K4 h1 c4 .nil aH (aa (pv 7) ag)) (ig (bQ (pv 10) R.i.cl n5 K5 h1 c5 .nil aH (aa (pv 7) ag)) (bQ (pv 10) R.r.cl n6 K6 h1 c6 .nil aH (aa (pv 7) ag))))))) ag)) (aE (rM hr.gd hu8) (by rfl) B2.repr PyProof.Rows.boot_repr (aa (ba aR (ce (aa ap (aa (aE (ky rfl) (by rfl) B.max qe (aa ap (aa (aE aM (by rfl) B.len dN (aa (pv 7) ag)) ag))) ag))) (cP uk (by rfl) B.int yQ (aa (ku hU (pv 9) ap (be _)) ag)) (fun _ _=>rfl)) ag)) (be _)) (aq (a9 qH)) bq)))))))))
   (aq (a9 qH)))),?_⟩
  have LO:=ca.sd.let ca.le;have aaj:homes.length<=16:=by rw[LO.len];exact LO.le
  refine⟨_,rfl,t,_,rfl,c_.of ca.tu,rfl,_,_,rfl,_,_,rfl,_,_,rfl,_,_,rfl,_,_,rfl,rfl,?_⟩;refine⟨_,rfl,_,rfl,fun rx rd nx nrd WU=>?_⟩;have sN:aK H (upd (upd H rd (.own rx)) rx (.ins CR rd [])):=(ai (o:=.own rx) nrd).trans (ai (D:=rx) (o:=.ins CR rd []) (by rw[am WU.symm];exact nx));refine⟨rx,rd,ra,ranks,rfl,af,sN _ _ DZ,by lia,fun H2 rk2 se2=>⟨rfl,by show 1<=sizeLine;decide,fun l1 yA=>?_⟩⟩;have W2:aK H H2:=fun b o e=>se2 _ _ (sN _ _ e) (ak e nx);have sL:=ai (o:=.lst [V.ref rx]) yA;refine⟨rl,l1,_,_,rfl,rfl,sL _ _ (W2 _ _ Hv),af,by show 6<=sizeLine;decide,fun RL hRL=>?_⟩;have sR:=ai (o:=.lst ([V.ref a0,.ref a1,.ref a2,.ref a3,.ref a4]++[.ref rx])) hRL;have s0:aK H (upd (upd H2 l1 (.lst [V.ref rx])) RL (.lst ([V.ref a0,.ref a1,.ref a2,.ref a3,.ref a4]++[.ref rx]))):=(W2.trans sL).trans sR;have rk0:=(rk2.same sL).same sR;have gRL:=af (H:=upd H2 l1 (.lst [V.ref rx])) (a:=RL) (o:=.lst ([V.ref a0,.ref a1,.ref a2,.ref a3,.ref a4]++[.ref rx]));generalize upd (upd H2 l1 (.lst [V.ref rx])) RL _=H0 at *;have OT:=tb.same s0;have ca0:=ca.kn (fun b o e _=>s0 b o e);have rl0:∀i x,[V.ref a0,.ref a1,.ref a2,.ref a3,.ref a4,.ref rx][i]?=some x->∃a,x=.ref a/\i<6/\Rl CE CN CF CT CI CR ranks H0 i a:=fun i x hx=>by
   obtain⟨d0,r0⟩:=r0;obtain⟨d1,r1⟩:=r1;obtain⟨d2,r2⟩:=r2;obtain⟨d3,r3⟩:=r3;obtain⟨d4,r4⟩:=r4
   match i,hx with
   |0,hx=>cases hx;exact⟨a0,rfl,by decide,d0,s0 _ _ r0⟩
   |1,hx=>cases hx;exact⟨a1,rfl,by decide,d1,s0 _ _ r1⟩
   |2,hx=>cases hx;exact⟨a2,rfl,by decide,d2,s0 _ _ r2⟩
   |3,hx=>cases hx;exact⟨a3,rfl,by decide,d3,s0 _ _ r3⟩
   |4,hx=>cases hx;exact⟨a4,rfl,by decide,d4,s0 _ _ r4⟩
   |5,hx=>cases hx;exact⟨rx,rfl,by decide,rk0⟩
   |i+6,hx=>cases hx
  have W3:=s0 _ _ DZ;clear r0 r1 r2 r3 r4 rk0 sR sL sN W2 yA hRL;refine⟨RL,_,rfl,gRL,Fs (K:=K) (xs:=[V.ref a0,.ref a1,.ref a2,.ref a3,.ref a4,.ref rx]) (fun i σ Hc=>(∃x9 OK RZ R1,σ=[some (.ref rl),some (.ref t),some (.int (bt:Nat)),some (.ref ra),some (.ref px),some (.ref oa),some (.ref fa),some (.ref ha),some (.ref sa),x9,OK,RZ,R1])/\ip PN PF PT PR Hc/\KQ PN PF PT PR H0 Hc) ⟨⟨_,_,_,_,rfl⟩,OT,KQ.of (aK.refl _)⟩ (fun i σ Hc _ z=>aZ.of (z.2.2.kn OT _ _ gRL (fun ps z=>by cases z))) ?_ (fun σ Hc ⟨⟨x9,OK,RZ,R1,e⟩,tc,kc⟩=>?_)⟩
  .rintro i x p σ Hc hx ⟨⟨x9,OK,RZ,R1,rfl⟩,tc,kc⟩ hp;obtain⟨a,rfl,w6,rla⟩:=rl0 i x hx;have sP:=ai (o:=.tup [.int (i:Int),.ref a]) hp;have k1:KN H0 (upd Hc p (.tup [.int (i:Int),.ref a])):=fun b o e n=>sP _ _ (kc.kn OT b o e n);refine⟨p,_,rfl,c_.of af,rfl,_,_,rfl,_,_,rfl,rfl,?_⟩;have c1:=ca0.kn k1;have t1:=tc.same sP;have kq1:KQ PN PF PT PR H0 (upd Hc p (.tup [.int (i:Int),.ref a])):=kc.trans (KQ.of sP);have ra1:=rla.kn k1;have W4:=k1 _ _ W3 (fun ps z=>by cases z);generalize upd Hc p _=H1 at *;clear sP hp kc;refine⟨_,rfl,_,rfl,_,rfl,_,rfl,_,rfl,_,rfl,i,fa,ha,sa,ra,(bt:Nat),n,ts,_,homes,st,ranks,rfl,w6,c1.far,trivial,c1.he,c1.se,LO,W4,NH,fun d H2 out s2 hd0 hd op pw=>?_⟩;have t2:=t1.same s2;have c2:=c1.kn (fun b o e _=>s2 b o e);have W5:=ra1.kn (fun b o e _=>s2 b o e);have ol:out.length<=16:=by rw[op.length_eq];exact a8 iA LO.le
   have Hx:∀m∈rS st st.length,m<64:=fun m hm=>by have:=(jq hm).1;have:=LO.le;lia
   refine Lh R.nd t2 c2 (by lia) NH w6 W5 (fun r H3 JD t3 k3 yn Tj pw' hr=>?_);obtain rfl:JD=out:=Ha Hx Tj op pw' pw;have Ur:=k3.kn t2;have Ra:=Ur _ _ hd (fun ps z=>by cases z);have aak:d≠r:=by rintro rfl;rw[hd] at yn;cases yn
   have ra3:=W5.kn Ur;have c3:=c2.kn Ur;obtain⟨ty,kt,tyx⟩:=R.ty w6 ra3;refine⟨_,rfl,.ref a,CB,ty,true,rfl,kt,tyx,_,rfl,iI ?_⟩;refine⟨_,rfl,_,rfl,r,d,_,rfl,hr,Ra,ol,fun H4 s4=>⟨_,rfl,iI ?_⟩⟩;have sf:=s4 _ _ hr;refine⟨_,rfl,.inl ⟨rfl,_,aZ.of sf⟩,r,_,rfl,rfl,sf,?_⟩;refine⟨_,rfl,.inl ⟨rfl,_,aZ.of af⟩,r,_,_,rfl,rfl,af,by rw[List.length_reverse,bj];exact eU ol (by decide),?_⟩;rw[kr];have t5:ip PN PF PT PR (upd H4 r (.lst ((NV JD).reverse++[.int 0]))):=(t3.same s4).putL sf;have k5:KQ PN PF PT PR H2 (upd H4 r (.lst ((NV JD).reverse++[.int 0]))):=fun b o e m1 m2 m3 m4=>by rw[am (ak e yn)];exact s4 _ _ (k3 b o e m1 m2 m3 m4)
   generalize upd H4 r _=H5 at *;clear sf s4 hr Ra ra3 c3 tyx kt Ur k3 t3;have W6:=k5.kn t2;have c5:=c2.kn W6;have ra5:=W5.kn W6;have hd5:=W6 _ _ hd (fun ps z=>by cases z);refine Lh R.nd t5 c5 (by lia) NH w6 ra5 (fun r' H6 R9 t6 k6 aal W7 W8 w_=>?_);obtain rfl:R9=JD:=Ha Hx W7 op W8 pw;have kn6:=k6.kn t5;refine⟨_,rfl,r',d,_,rfl,w_,kn6 _ _ hd5 (fun ps z=>by cases z),ol,fun H7 s7=>⟨_,rfl,iI ?_⟩⟩;have kn7:KN H5 H7:=fun b o e n=>s7 _ _ (kn6 b o e n);have c7:=c5.kn kn7;have ra7:=ra5.kn kn7;refine R4 c7.he w6 ra7 ?_;obtain⟨v,hv,v1,v2⟩:∃v:Nat,(if i=3 then max homes.length 1 else 1)=v/\v<=16/\(i=3->v=max homes.length 1)/\(i≠3->v=1):=⟨_,rfl,by split <;> lia,fun e=>av e,fun e=>au e⟩
   rw[hv];have lg:((v:Nat):Int).natAbs.log2<1920:=by
    rw[Int.natAbs_natCast];by_cases z:v=0
    .subst z;decide
    .exact lu ((Nat.log2_lt z).mpr (show v<2 ^ 5 by lia)) (by decide)
   refine⟨.int (v:Nat),.int (v:Nat),rfl,.inr (.inr (.inr (.inl ⟨_,rfl,rfl,lg⟩))),?_⟩;refine⟨_,rfl,ha,_,rfl,.inr (c_.of c7.he),1,_,rfl,by show 2<=sizeLine;decide,fun l hl=>?_⟩;have s8:=s7.trans (ai (o:=.lst [V.int 1,.int (if ((((NV homes).length:Nat):Int)) > 1 then (((NV homes).length:Nat):Int) else 1)]) hl);refine⟨_,rfl,rfl,_,rfl,l,_,_,.int (v:Nat),rfl,rfl,aZ.of af,?_,.int (v:Nat),.int (v:Nat),rfl,.inr (.inr (.inr (.inl ⟨_,rfl,rfl,lg⟩))),rfl,_,rfl,ye (by simp) ⟨⟨_,_,_,_,rfl⟩,t6.same s8,((kq1.trans (KQ.of s2)).trans k5).trans (k6.trans (KQ.of s8))⟩⟩;rw[bj];by_cases c:i=3
   .subst c;rw[v2.1 rfl];refine aB (j:=1) ?_;show some (V.int _)=some (V.int _);congr 2;split <;> lia
   .rw[v2.2 c,show decide (V.int ((i:Nat):Int)=V.int 3)=false from fc (fun z=>by cases z;exact c rfl)];exact aB (j:=0) rfl
  .subst e;exact q Hc tc (fun b o e m1 m2 m3 m4=>kc _ _ (s0 _ _ e) m1 m2 m3 m4)
end
abbrev Bi:Stmt:=top 52
abbrev rX(A:Addr)(H H':Hp):Prop:=∀b o,H b=some o->Ju o->b≠A->H' b=some o
theorem d9.CJ(N:d9 C H (·≠A) p n ts)(hp:p≠A)(k:rX A H H'):d9 C H' (·≠A) p n ts:=by
 obtain⟨dx,tl,ol,ds,a,_⟩:=N.ob;exact(N.Um.keep (fun b o l e=>by obtain⟨l1,o',e',n⟩:=l;rw[e] at e';cases e';exact k b o e n l1) fun o e=>k _ _ e (by rw[a] at e;cases e;exact fun ps z=>by cases z) hp).weak fun b h=>h.1
theorem bX.CJ(R:bX H (·≠A) l n r)(hl:l≠A)(k:rX A H H'):bX H' (·≠A) l n r:=by
 obtain⟨bs,a,b,c⟩:=R;refine⟨bs,k _ _ a (fun ps z=>by cases z) hl,b,c.mono fun j hj e=>k _ _ e (fun ps z=>by cases z) (b _ ?_)⟩;rw[b_,bH (by rw[c.1];exact hj)];exact eX _
structure rY(C A:Addr)(H:Hp)(t px oa fa ha sa:Addr)(n:Nat)(ts:Ts)(homes:List Nat)(st:List (Option Nat)):Prop where
 tu:H t=some (.tup [.ref px,.ref oa,.ref fa,.ref ha,.ref sa])
 tA:t≠A
 net:d9 C H (·≠A) px n ts
 px:px≠A
 out:bX H (·≠A) oa n (dP n ts)
 oa:oa≠A
 far:bX H (·≠A) fa n (fun h=>(List.range n).map (far ts h))
 fa:fa≠A
 hA:ha≠A
 sA:sa≠A
 he:H ha=some (.tup (NV homes))
 se:H sa=some (.tup (st.map oV))
 le:st.length<=16
 sd:sY n ts homes st
theorem rY.keep{C A:Addr}{H H':Hp}{t px oa fa ha sa:Addr}{n:Nat}{ts:Ts}{homes:List Nat}{st:List (Option Nat)}(c:rY C A H t px oa fa ha sa n ts homes st)(k:rX A H H'):rY C A H' t px oa fa ha sa n ts homes st:=
 ⟨k _ _ c.tu (fun ps z=>by cases z) c.tA,c.tA,c.net.CJ c.px k,c.px,c.out.CJ c.oa k,c.oa,c.far.CJ c.fa k,c.fa,c.hA,c.sA,k _ _ c.he (fun ps z=>by cases z) c.hA,k _ _ c.se (fun ps z=>by cases z) c.sA,c.le,c.sd⟩
theorem om.toK{C A:Addr}{H0 H:Hp}{t px oa fa ha sa:Addr}{n:Nat}{ts:Ts}{homes:List Nat}{st:List (Option Nat)}{xs:List V}(c:om C H0 H t px oa fa ha sa n ts homes st)(e0:H0 A≠none)(e:H A=some (.lst xs)):rY C A H t px oa fa ha sa n ts homes st:=by
 have f:∀b,H0 b=none->b≠A:=fun b h z=>e0 (z ▸ h);have g:∀ {b ys},H b=some (.tup ys)->b≠A:=fun h z=>by rw[z,e] at h;cases h
 exact⟨c.tu,g c.tu,c.net.weak f,f _ c.px,c.out.weak f,f _ c.oa,c.far.weak f,f _ c.fa,g c.ha,g c.sa,c.ha,c.sa,c.le,c.sd⟩
theorem kM.putL(t:kM Pt H)(e:H D=some (.lst xs)):kM Pt (upd H D o):=by
 have f:∀ {b u},H b=some u->(∀ys,u≠.lst ys)->(upd H D o) b=some u:=fun h n=>by rw[am (by rintro rfl;rw[e] at h;cases h;exact n _ rfl)];exact h
 rcases t with z|⟨c,z,y⟩
 .exact .inl (f z (fun ys z=>by cases z))
 .exact .inr ⟨c,f z (fun ys z=>by cases z),f y (fun ys z=>by cases z)⟩
theorem om.oX{C p:Addr}{H0 H H':Hp}{t px oa fa ha sa:Addr}{n:Nat}{ts:Ts}{homes:List Nat}{st:List (Option Nat)}(c:om C H0 H t px oa fa ha sa n ts homes st)(s:aL p H H')(f:H0 p≠none)(hp:aY H p):om C H0 H' t px oa fa ha sa n ts homes st:=by
 have ne:∀b,H0 b=none->b≠p:=fun b e z=>f (z ▸ e);exact⟨s _ _ c.tu (hp.neT c.tu),c.net.keep (fun b o l e=>s b o e (ne b l)) (fun o e=>s _ _ e (ne _ c.px)),c.px,c.out.keep c.oa (fun b o l e=>s b o e (ne b l)),c.oa,c.far.keep c.fa (fun b o l e=>s b o e (ne b l)),c.fa,s _ _ c.ha (hp.neT c.ha),s _ _ c.sa (hp.neT c.sa),c.le,c.sd⟩
theorem rY.toT{C A:Addr}{H:Hp}{t px oa fa ha sa:Addr}{n:Nat}{ts:Ts}{homes:List Nat}{st:List (Option Nat)}(c:rY C A H t px oa fa ha sa n ts homes st):ur C H t px oa fa ha sa n ts homes st:=⟨c.tu,c.net.weak fun _ _=>trivial,c.far.weak fun _ _=>trivial,c.he,c.se,c.le,c.sd⟩
theorem _root_.L2.cM.j_(t:cM lp q Pt H)(s:aL p H H')(hp:aY H p):cM lp q Pt H':=by
 obtain⟨a,b,e,_⟩:=hp;rcases t with z|⟨c,z,y⟩
 .exact .inl (s _ _ z (by rintro rfl;rw[z] at e;cases e))
 .exact .inr ⟨c,s _ _ z (by rintro rfl;rw[z] at e;cases e),s _ _ y (by rintro rfl;rw[y] at e;cases e)⟩
theorem _root_.L2.cM.ut(t:cM lp q P H)(k:CD Pt p H H')(hp:aY H p)(tb:kM Pt H)(n:P≠Pt):cM lp q P H':=by
 obtain⟨a,b,e,_⟩:=hp;obtain⟨ps,hP⟩:=cM.ik tb;rcases t with z|⟨c,z,y⟩
 .exact .inl (k _ _ z n (by rintro rfl;rw[z] at e;cases e))
 .exact .inr ⟨c,k _ _ z n (by rintro rfl;rw[z] at e;cases e),k _ _ y (by rintro rfl;rw[hP] at y;cases y) (by rintro rfl;rw[y] at e;cases e)⟩
theorem ip.j_{PN PF PT PR p:Addr}{H H':Hp}(t:ip PN PF PT PR H)(s:aL p H H')(hp:aY H p):ip PN PF PT PR H':=⟨t.n.j_ s hp,t.f.j_ s hp,t.t.j_ s hp,t.r.j_ s hp⟩
theorem ip.ut{PN PF PT PR p Pt:Addr}{H H':Hp}(t:ip PN PF PT PR H)(k:CD Pt p H H')(hp:aY H p)(tb:kM Pt H)(n:Pt∉[PN,PF,PT,PR]):ip PN PF PT PR H':=by
 simp only[bg,List.not_mem_nil,not_or,or_false] at n;obtain⟨n1,n2,n3,n4⟩:=n;exact⟨t.n.ut k hp tb (cZ n1),t.f.ut k hp tb (cZ n2),t.t.ut k hp tb (cZ n3),t.r.ut k hp tb (cZ n4)⟩
def yo(C A:Addr)(H:Hp)(q:Addr):Prop:=∃ (t ra:Addr) (bt:Nat) (px oa fa ha sa:Addr) (n:Nat) (ts:Ts) (homes:List Nat) (st:List (Option Nat)) (ranks:List Int),H q=some (.tup [.ref t,.int bt,.ref ra])/\q≠A/\H ra=some (.tup (ranks.map V.int))/\ra≠A/\ranks.length=homes.length/\rY C A H t px oa fa ha sa n ts homes st
theorem yo.keep(c:yo C A H q)(k:rX A H H'):yo C A H' q:=by
 obtain⟨t,ra,bt,px,oa,fa,ha,sa,n,ts,homes,st,ranks,e,m,e2,m2,l,d⟩:=c;exact⟨t,ra,bt,px,oa,fa,ha,sa,n,ts,homes,st,ranks,k _ _ e (fun ps z=>by cases z) m,m,k _ _ e2 (fun ps z=>by cases z) m2,m2,l,d.keep k⟩
theorem kj(nx:H x=none)(nd:H d=none)(ne:x≠d):aK H (upd (upd H d (.own x)) x (.ins C d [])):=(ai (o:=.own x) nd).trans (ai (D:=x) (o:=.ins C d []) (by rw[am ne];exact nx))
structure yp(CE CN CF CT CI:Addr)(H:Hp)(rl a0 a1 a2 a3 a4:Addr):Prop where
 l:H rl=some (.lst [.ref a0,.ref a1,.ref a2,.ref a3,.ref a4])
 e:∃d,H a0=some (.ins CE d [])
 n:∃d,H a1=some (.ins CN d [])
 f:∃d,H a2=some (.ins CF d [])
 t:∃d,H a3=some (.ins CT d [])
 i:∃d,H a4=some (.ins CI d [])
theorem yp.keep{CE CN CF CT CI A rl a0 a1 a2 a3 a4:Addr}{H H':Hp}{xs:List V}(r:yp CE CN CF CT CI H rl a0 a1 a2 a3 a4)(n:rl≠A)(hA:H A=some (.lst xs))(k:rX A H H'):yp CE CN CF CT CI H' rl a0 a1 a2 a3 a4:=by
 have g:∀ {b C d},H b=some (.ins C d [])->H' b=some (.ins C d []):=fun {b C d} e=>k _ _ e (fun ps z=>by cases z) (by rintro rfl;rw[hA] at e;cases e);exact⟨k _ _ r.l (fun ps z=>by cases z) n,let ⟨d,e⟩:=r.e;⟨d,g e⟩,let ⟨d,e⟩:=r.n;⟨d,g e⟩,let ⟨d,e⟩:=r.f;⟨d,g e⟩,let ⟨d,e⟩:=r.t;⟨d,g e⟩,let ⟨d,e⟩:=r.i;⟨d,g e⟩⟩
theorem yp.kn{CE CN CF CT CI rl a0 a1 a2 a3 a4:Addr}{H H':Hp}(r:yp CE CN CF CT CI H rl a0 a1 a2 a3 a4)(k:KN H H'):yp CE CN CF CT CI H' rl a0 a1 a2 a3 a4:=by
 have g:∀ {b C d},H b=some (.ins C d [])->H' b=some (.ins C d []):=fun {b C d} e=>k _ _ e (fun ps z=>by cases z);exact⟨k _ _ r.l (fun ps z=>by cases z),let ⟨d,e⟩:=r.e;⟨d,g e⟩,let ⟨d,e⟩:=r.n;⟨d,g e⟩,let ⟨d,e⟩:=r.f;⟨d,g e⟩,let ⟨d,e⟩:=r.t;⟨d,g e⟩,let ⟨d,e⟩:=r.i;⟨d,g e⟩⟩
section
variable {P:Program} {w:World} {K:PySem.W.Frag} {mg:Str->Option Value} {base:Heap}
def Li(K:PySem.W.Frag)(H:Hp)(a:Addr)(xs:List V):Prop:=(∃o,H a=some (.wr o (.lst xs)))\/(∀H':Hp,aZ K H' a xs)
theorem Li.seq(h:Li K H a xs):aZ K H a xs:=by
 rcases h with ⟨o,h⟩|h
 .exact .inl (.inr ⟨o,h⟩)
 .exact h H
theorem Li.mono(h:Li K H a xs)(e:∀o u,H a=some (.wr o u)->H' a=some (.wr o u)):Li K H' a xs:=by
 rcases h with ⟨o,h⟩|h
 .exact .inl ⟨o,e _ _ h⟩
 .exact .inr h
theorem kZ:aP ["_law_script","_law_rules","_law_asked","_law_k","_law_pot_here","_law_beat_here","_law_case_here","_law_ranks_here"] ["_law_script"] (ao Bi):=⟨rfl,rfl,rfl,by decide +kernel,rfl,by decide +kernel,by decide +kernel⟩
def CK(K:PySem.W.Frag)(Pt PN PF PT PR:Addr):Sp:=fun vs H Q _=>∃ (a:Addr) (ns:List Int),vs=[.ref a]/\Li K H a (ns.map V.int)/\ns.length<=63/\kM Pt H/\ip PN PF PT PR H/\∀H',Q (.bl true) H'
theorem NI{f C CB CE CN CF CT CI CR Pt PN PF PT PR:Addr}{fd:FuncData}(F:ii K "law" "law" Bi f fd)(B:Bl mg)(R:R7 P w K mg base C CB CE CN CF CT CI CR PN PF PT PR)(nP:Pt∉[PN,PF,PT,PR])(kE:OC K CE)(kN:OC K CN)(kF:OC K CF)(kT:OC K CT)(kI:OC K CI)(PT':dI P w K mg base bb 1 "_law_pot" ["_law_script","_law_k"] (Gf K))(BE:dI P w K mg base bb 2 "_law_beat" ["_law_pot_here"] AT)(CA:dI P w K mg base bb 9 "_law_case" ["_law_pot_here"] (A7 C Pt))(RA:dI P w K mg base bb 2 "_law_ranks" ["_law_pot_here","_law_many"] wj)(RI:dI P w K mg base bb 10 "_law_right" ["_law_rules","_law_case_here","_law_beat_here","_law_ranks_here"] (wn C CE CN CF CT CI PN PF PT PR)):bD P w K mg base bb 11 f fd ["_law_script"] (CK K Pt PN PF PT PR):=by
 refine F.ok kZ (fun vs H Q E h=>?_) (fun eL A outer s H vs Q E hr h=>?_)
 .obtain⟨a,ns,rfl,_⟩:=h;rfl
 .obtain⟨a,ns,rfl,hS,xn,tp,tb,q⟩:=h;have h1:cj 1 _:=hr.mono (by decide);have h2:cj 2 _:=hr.mono (by decide);have h9:cj 9 _:=hr.mono (by decide);refine⟨_,(aj (aU (i:=1) kZ.nd rfl (Or.inl rfl) (ce (aa (rL kE rfl R.e.IJ) (aa (rL kN rfl R.n.IJ) (aa (rL kF rfl R.f.IJ) (aa (rL kT rfl R.t.IJ) (aa (rL kI rfl R.i.IJ) ag)))))))
   (aj (aU (i:=2) kZ.nd rfl (Or.inl rfl) (ce ag))
   (aj (dC eF rfl (bv rfl B.range (aa ap ag)) (az (i:=3) kZ.nd rfl (Or.inl rfl))
    (aj (aU (i:=4) kZ.nd rfl (Or.inl rfl) (aI PT' h1 aH (aa (pv 0) (aa (pv 3) ag))))
    (aj (aU (i:=5) kZ.nd rfl (Or.inl rfl) (aI BE h2 aH (aa (pv 4) ag)))
    (aj (aU (i:=6) kZ.nd rfl (Or.inl rfl) (aI CA h9 aH (aa (pv 4) ag)))
    (aq (b8 (fK e_ iN iM cz (pv 2) (aa (cG (aa (pv 6) (aa (pv 5) (aa (aI RA h2 aH (aa (pv 4) (aa (aE aM (by rfl) B.len dN (aa (ba iG (pv 6) ap (fun _ _=>rfl)) ag)) ag))) ag)))) ag))))))))
   (aj (dC eF rfl (cw (aV qR (pv 2) (qO vj (pv 2) vf (vg ap)))) (dv (n:=3) rfl (aG (az (i:=6) kZ.nd rfl (Or.inl rfl)) (aG (az (i:=5) kZ.nd rfl (Or.inl rfl)) (aG (az (i:=7) kZ.nd rfl (Or.inl rfl)) b9))))
    (aq (df (iF (g_ (aI RI hr aH (aa (pv 1) (aa (pv 6) (aa (pv 5) (aa (pv 7) ag))))))) (aq (a9 qH)) bq)))
   (aq (a9 qH)))))),?_⟩
  refine fun a0 d0 x0 y0 z0=>?_;have w0:=kj (C:=CE) x0 y0 (cZ z0);have g0:=af (H:=upd H d0 (.own a0)) (a:=a0) (o:=.ins CE d0 []);generalize upd (upd H d0 _) a0 _=H0 at *;refine fun a1 d1 x1 y1 z1=>?_;have w1:=kj (C:=CN) x1 y1 (cZ z1);have g1:=af (H:=upd H0 d1 (.own a1)) (a:=a1) (o:=.ins CN d1 []);generalize upd (upd H0 d1 _) a1 _=H1 at *;refine fun a2 d2 x2 y2 z2=>?_;have w2:=kj (C:=CF) x2 y2 (cZ z2);have g2:=af (H:=upd H1 d2 (.own a2)) (a:=a2) (o:=.ins CF d2 []);generalize upd (upd H1 d2 _) a2 _=H2 at *;refine fun a3 d3 x3 y3 z3=>?_;have w3:=kj (C:=CT) x3 y3 (cZ z3);have g3:=af (H:=upd H2 d3 (.own a3)) (a:=a3) (o:=.ins CT d3 []);generalize upd (upd H2 d3 _) a3 _=H3 at *;refine fun a4 d4 x4 y4 z4=>?_;have w4:=kj (C:=CI) x4 y4 (cZ z4);have g4:=af (H:=upd H3 d4 (.own a4)) (a:=a4) (o:=.ins CI d4 []);generalize upd (upd H3 d4 _) a4 _=H4 at *;refine⟨by show 5<=sizeLine;decide,fun rl Hv=>?_⟩;have w5:=ai (o:=.lst [V.ref a0,.ref a1,.ref a2,.ref a3,.ref a4]) Hv;have rs:yp CE CN CF CT CI (upd H4 rl (.lst [V.ref a0,.ref a1,.ref a2,.ref a3,.ref a4])) rl a0 a1 a2 a3 a4:=⟨af,⟨_,w5 _ _ (w4 _ _ (w3 _ _ (w2 _ _ (w1 _ _ g0))))⟩,⟨_,w5 _ _ (w4 _ _ (w3 _ _ (w2 _ _ g1)))⟩,⟨_,w5 _ _ (w4 _ _ (w3 _ _ g2))⟩,⟨_,w5 _ _ (w4 _ _ g3)⟩,⟨_,w5 _ _ g4⟩⟩
  have w:=((((w0.trans w1).trans w2).trans w3).trans w4).trans w5;generalize upd H4 rl _=H5 at *;clear g0 g1 g2 g3 g4 w0 w1 w2 w3 w4 w5 x0 x1 x2 x3 x4 y0 y1 y2 y3 y4 z0 z1 z2 z3 z4 Hv;refine⟨by show 0<=sizeLine;decide,fun Ak hA=>?_⟩;have sA:=ai (o:=.lst []) hA;have gA:=af (H:=H5) (a:=Ak) (o:=.lst []);have nRA:rl≠Ak:=ak rs.l hA;have S0:=hS.mono fun o u e=>sA _ _ (w _ _ e);have tp0:=(tp.same w).same sA;have OT:=(tb.same w).same sA;have rs0:=rs.kn (fun b o e _=>sA b o e);generalize upd H5 Ak _=H6 at *;clear sA hA hS tp tb rs w;refine⟨2,rfl,by decide,by decide,dh (n:=2) (lo:=0) (fun k σ Hc=>(∃x3 x4 x5 x6,σ=[some (.ref a),some (.ref rl),some (.ref Ak),x3,x4,x5,x6,none])/\Li K Hc a (ns.map V.int)/\kM Pt Hc/\ip PN PF PT PR Hc/\yp CE CN CF CT CI Hc rl a0 a1 a2 a3 a4/\∃qs:List Addr,qs.length=k/\Hc Ak=some (.lst (qs.map V.ref))/\∀q∈qs,yo C Ak Hc q) ⟨⟨_,_,_,_,rfl⟩,S0,tp0,OT,rs0,[],rfl,gA,fun q hq=>(nomatch hq)⟩ ?_ ?_⟩
  .rintro k σ Hc hk ⟨⟨x3,x4,x5,x6,rfl⟩,Sc,tp,tb,rs,qs,ql,Ac,Qc⟩;rw[g7];refine⟨_,rfl,_,rfl,a,ns,k,rfl,Sc.seq,by lia,fun p H3 s3 KH mE=>?_⟩;refine⟨_,rfl,p,rfl,mE,fun bt H4 hbt s4 oY=>?_⟩;have t4:=(tp.same s3).j_ s4 mE;have u4:=(tb.same s3).j_ s4 mE;have A4:=s4 _ _ (s3 _ _ Ac) (ak Ac KH);refine⟨_,rfl,p,rfl,oY,t4,fun t px oa fa ha sa n ts homes st H5 k5 uh t5 ca=>?_⟩;have u5:=u4.ut k5 oY t4 nP;have kc5:∀b o,Hc b=some o->Ju o->H5 b=some o:=fun b o e n=>k5 b o (s4 _ _ (s3 _ _ e) (ak e KH)) (t4.not (s4 _ _ (s3 _ _ e) (ak e KH)) n) (ak e KH);have A5:=kc5 _ _ Ac (fun ps z=>by cases z);have LO:=ca.sd.let ca.le;refine⟨_,rfl,.inl ⟨rfl,_,aZ.of A5⟩,_,rfl,_,rfl,_,rfl,_,rfl,t,_,_,_,rfl,rfl,c_.of ca.tu,aB (j:=3) rfl,ha,_,rfl,.inr (c_.of ca.ha),p,homes.length,by rw[bj];rfl,uh,by rw[LO.len];exact LO.le,fun ra ranks H6 s6 DA DZ NH=>?_⟩;have nAp:Ak≠p:=ak Ac KH;have A6:=s6 _ _ A5 nAp;have kc6:∀b o,Hc b=some o->Ju o->H6 b=some o:=fun b o e n=>s6 b o (kc5 b o e n) (ak e KH);have ck6:=(ca.oX s6 oY.full uh).toK (A:=Ak) (fun z=>by rw[A4] at z;cases z) A6;have t6:=t5.j_ s6 uh;have u6:=u5.j_ s6 uh;refine⟨by show 3<=sizeLine;decide,fun q hq=>?_⟩;have sq:=ai (o:=.tup [.ref t,.int (bt:Nat),.ref ra]) hq;have k7:rX Ak H6 (upd (upd H6 q (.tup [.ref t,.int (bt:Nat),.ref ra])) Ak (.lst (qs.map V.ref++[.ref q]))):=fun b o e n m=>by rw[am m];exact sq _ _ e
   have nq:q≠Ak:=(ak A6 hq).symm;have W9:rX Ak Hc (upd (upd H6 q (.tup [.ref t,.int (bt:Nat),.ref ra])) Ak (.lst (qs.map V.ref++[.ref q]))):=fun b o e n m=>k7 b o (kc6 b o e n) n m;have nra:ra≠Ak:=by rintro rfl;rw[A6] at DZ;cases DZ
   refine⟨Ak,_,_,rfl,rfl,sq _ _ A6,by rw[aW,ql];exact bn hk (by decide),⟨_,_,_,_,rfl⟩,Sc.mono fun o u e=>W9 _ _ e (fun ps z=>by cases z) (by rintro rfl;rw[Ac] at e;cases e),(t6.same sq).putL (sq _ _ A6),(u6.same sq).putL (sq _ _ A6),rs.keep nRA Ac W9,qs++[q],by rw[cp,ql];rfl,by rw[af,cY];rfl,fun q' ER=>?_⟩;rcases bO.mp ER with z|z
   .exact(Qc _ z).keep W9
   .rw[bL.mp z];exact⟨t,ra,bt,px,oa,fa,ha,sa,n,ts,homes,st,ranks,by rw[am nq];exact af,nq,k7 _ _ DZ (fun ps z=>by cases z) nra,nra,NH,ck6.keep k7⟩
  .rintro σ Hc ⟨⟨x3,x4,x5,x6,rfl⟩,Sc,tp,tb,rs,qs,ql,Ac,Qc⟩;clear Sc tp S0 tp0 OT rs0 gA
   match qs,ql with
   |[q0,q1],_=>
   have Q0:=Qc q0 bp;have Q1:=Qc q1 (cW _ bp);refine⟨_,rfl,_,rfl,_,rfl,Ak,_,rfl,aZ.of Ac,fun c hc=>?_⟩;have ec:ji ([q0,q1].map V.ref) none (some 1)=[.ref q0]:=rfl;rw[ec];have sC:=ai (o:=.lst [.ref q0]) hc;refine⟨Ak,c,_,_,rfl,rfl,sC _ _ Ac,af,by show 3<=sizeLine;decide,fun r w_=>?_⟩;have sR:=ai (o:=.lst ([q0,q1].map V.ref++[.ref q0])) w_;have s1:=sC.trans sR;have gr:=af (H:=upd Hc c (.lst [.ref q0])) (a:=r) (o:=.lst ([q0,q1].map V.ref++[.ref q0]));generalize upd (upd Hc c _) r _=H3 at *;have Q0:=Q0.keep (fun b o e _ _=>s1 b o e);have Q1:=Q1.keep (fun b o e _ _=>s1 b o e);have tb:=tb.same s1;have rs:=rs.kn (fun b o e _=>s1 b o e);clear sC sR s1 hc w_ Qc Ac ec;refine⟨r,rfl,⟨_,aZ.of gr⟩,iT (K:=K) (xs:=[.ref q0,.ref q1,.ref q0]) (fun j σ Hd=>(∃x3 x4 x5 x6 x7,σ=[some (.ref a),some (.ref rl),some (.ref Ak),x3,x4,x5,x6,x7])/\ip PN PF PT PR Hd/\KQ PN PF PT PR H3 Hd) ⟨⟨_,_,_,_,_,rfl⟩,tb,KQ.of (aK.refl _)⟩ (fun j σ Hd _ z=>aZ.of (z.2.2.kn tb _ _ gr (fun ps z=>by cases z))) ?_ (fun σ Hd _=>q Hd)⟩;rintro j x σ Hd hx ⟨⟨y3,y4,y5,y6,y7,rfl⟩,td,kd⟩;obtain⟨qq,rfl,QQ⟩:∃q,x=.ref q/\yo C Ak H3 q:=by
    match j,hx with
    |0,hx=>cases hx;exact⟨q0,rfl,Q0⟩
    |1,hx=>cases hx;exact⟨q1,rfl,Q1⟩
    |2,hx=>cases hx;exact⟨q0,rfl,Q0⟩
    |j+3,hx=>cases hx
   have kn:=kd.kn tb;obtain⟨t,ra,bt,px,oa,fa,ha,sa,n,ts,homes,st,ranks,eq,_,era,_,NH,ca⟩:=QQ.keep (H':=Hd) (fun b o e n _=>kn b o e n);have rd:=rs.kn kn;refine⟨qq,_,rfl,c_.of eq,rfl,_,_,rfl,_,_,rfl,_,_,rfl,rfl,?_⟩;exact⟨_,rfl,_,rfl,_,rfl,_,rfl,rl,t,ra,a0,a1,a2,a3,a4,bt,px,oa,fa,ha,sa,n,ts,homes,st,ranks,rfl,rd.l,rd.e,rd.n,rd.f,rd.t,rd.i,ca.toT,era,NH,td,fun H' t' k'=>⟨_,rfl,iI ⟨⟨_,_,_,_,_,rfl⟩,t',kd.trans k'⟩⟩⟩
end
def FD(K:PySem.W.Frag)(n:Str)(st:Stmt):Prop:=∃ (f:Addr) (oc:Value) (od an:Option Addr) (sl:Array (Option Value)) (kV dc pm cd ct:Value),PySem.W.nsIn K mainGlobals n=some (some (.ref f))/\K.lookup f=some ⟨oc,od,.func (PySem.W.fnOf n n (dt st) (bR st) (ao st) .none kV dc pm an cd ct),sl⟩/\PySem.W.codeIn K cd n=true/\PySem.W.keepIn K (.ref f)=true
def FC(K:PySem.W.Frag)(n:Str)(st:Stmt)(c:Addr):Prop:=∃ (f:Addr) (oc:Value) (od an:Option Addr) (sl:Array (Option Value)) (kV dc pm ct:Value),PySem.W.nsIn K mainGlobals n=some (some (.ref f))/\K.lookup f=some ⟨oc,od,.func (PySem.W.fnOf n n (dt st) (bR st) (ao st) .none kV dc pm an (.ref c) ct),sl⟩/\PySem.W.codeIn K (.ref c) n=true/\PySem.W.keepIn K (.ref f)=true
def MD(K:PySem.W.Frag)(C:Addr)(n q:Str)(st:Stmt):Prop:=∃ (f:Addr) (oc:Value) (od an:Option Addr) (sl:Array (Option Value)) (kV dc pm cd ct:Value),PySem.W.findIn K (.ref C) n=some (some (.ref f))/\PySem.W.isFn K (.ref f)=true/\K.lookup f=some ⟨oc,od,.func (PySem.W.fnOf n q (dt st) (bR st) (ao st) .none kV dc pm an cd ct),sl⟩/\PySem.W.codeIn K cd q=true/\PySem.W.keepIn K (.ref f)=true
def MC(K:PySem.W.Frag)(C:Addr)(n q:Str)(st:Stmt)(c:Addr):Prop:=∃ (f:Addr) (oc:Value) (od an:Option Addr) (sl:Array (Option Value)) (kV dc pm ct:Value),PySem.W.findIn K (.ref C) n=some (some (.ref f))/\PySem.W.isFn K (.ref f)=true/\K.lookup f=some ⟨oc,od,.func (PySem.W.fnOf n q (dt st) (bR st) (ao st) .none kV dc pm an (.ref c) ct),sl⟩/\PySem.W.codeIn K (.ref c) q=true/\PySem.W.keepIn K (.ref f)=true
section
variable {P:Program} {w:World} {K:PySem.W.Frag} {mg:Str->Option Value} {base h:Heap} {n q:Str} {st:Stmt} {f c C:Addr} {oc kV dc pm cd ct:Value} {od an:Option Addr} {sl:Array (Option Value)} {CX:yx} {k:Nat} {ps:List Str} {sp:Sp}
theorem FD.mk(a:PySem.W.nsIn K mainGlobals n=some (some (.ref f)))(l:K.lookup f=some ⟨oc,od,.func (PySem.W.fnOf n n (dt st) (bR st) (ao st) .none kV dc pm an cd ct),sl⟩)(d:PySem.W.codeIn K cd n=true)(k:PySem.W.keepIn K (.ref f)=true):FD K n st:=⟨f,oc,od,an,sl,kV,dc,pm,cd,ct,a,l,d,k⟩
theorem FC.mk(a:PySem.W.nsIn K mainGlobals n=some (some (.ref f)))(l:K.lookup f=some ⟨oc,od,.func (PySem.W.fnOf n n (dt st) (bR st) (ao st) .none kV dc pm an (.ref c) ct),sl⟩)(d:PySem.W.codeIn K (.ref c) n=true)(k:PySem.W.keepIn K (.ref f)=true):FC K n st c:=⟨f,oc,od,an,sl,kV,dc,pm,ct,a,l,d,k⟩
theorem MD.mk(a:PySem.W.findIn K (.ref C) n=some (some (.ref f)))(i:PySem.W.isFn K (.ref f)=true)(l:K.lookup f=some ⟨oc,od,.func (PySem.W.fnOf n q (dt st) (bR st) (ao st) .none kV dc pm an cd ct),sl⟩)(d:PySem.W.codeIn K cd q=true)(k:PySem.W.keepIn K (.ref f)=true):MD K C n q st:=⟨f,oc,od,an,sl,kV,dc,pm,cd,ct,a,i,l,d,k⟩
theorem MC.mk(a:PySem.W.findIn K (.ref C) n=some (some (.ref f)))(i:PySem.W.isFn K (.ref f)=true)(l:K.lookup f=some ⟨oc,od,.func (PySem.W.fnOf n q (dt st) (bR st) (ao st) .none kV dc pm an (.ref c) ct),sl⟩)(d:PySem.W.codeIn K (.ref c) q=true)(k:PySem.W.keepIn K (.ref f)=true):MC K C n q st c:=⟨f,oc,od,an,sl,kV,dc,pm,ct,a,i,l,d,k⟩
def BD(n q:Str)(st:Stmt)(ps:List Str):Prop:=∀ (kV l8 pm:Value) (an:Option Addr) (eL ct:Value) (us:List Value),us.length=ps.length->bindArgs (PySem.W.fnOf n q (dt st) (bR st) (ao st) .none kV l8 pm an eL ct) ⟨us,[]⟩=pure (ps.zip us)
theorem FD.gU(X:K.In h)(G:h.Ns mainGlobals mg)(D:FD K n st)(b:BD n n st ps)(o:∀ {f fd},ii K n n st f fd->bD P w K mg base CX k f fd ps sp):dI P w K mg base CX k n ps sp:=by
 obtain⟨f,_,_,_,_,_,_,_,_,_,a,l,d,kp⟩:=D;have F:=qT (x:=n) (qual:=n) (st:=st) l d kp;exact⟨⟨f,_,gX X G a,kp,F.binds b,o F⟩⟩
theorem FC.gU(X:K.In h)(G:h.Ns mainGlobals mg)(D:FC K n st c)(b:BD n n st ps)(o:∀ {f fd},pe K n n st f fd c->bD P w K mg base CX k f fd ps sp):dI P w K mg base CX k n ps sp:=by
 obtain⟨f,_,_,_,_,_,_,_,_,a,l,d,kp⟩:=D;have F:=BO (x:=n) (qual:=n) (st:=st) l d kp;exact⟨⟨f,_,gX X G a,kp,F.fun.binds b,o F⟩⟩
theorem MD.gU(D:MD K C n q st)(b:BD n q st ps)(o:∀ {f fd},ii K n q st f fd->bD P w K mg base CX k f fd ps sp):iL P w K mg base CX k C n ps sp:=by
 obtain⟨f,_,_,_,_,_,_,_,_,_,a,i,l,d,kp⟩:=D;have F:=qT (x:=n) (qual:=q) (st:=st) l d kp;exact⟨⟨f,_,⟨a,i,kp⟩,F.binds b,o F⟩⟩
theorem MC.gU(D:MC K C n q st c)(b:BD n q st ps)(o:∀ {f fd},pe K n q st f fd c->bD P w K mg base CX k f fd ps sp):iL P w K mg base CX k C n ps sp:=by
 obtain⟨f,_,_,_,_,_,_,_,_,a,i,l,d,kp⟩:=D;have F:=BO (x:=n) (qual:=q) (st:=st) l d kp;exact⟨⟨f,_,⟨a,i,kp⟩,F.fun.binds b,o F⟩⟩
end
theorem NJ{l:PySem.W.OpenLaw}{w:World}{K:PySem.W.Frag}{h:Heap}{mg:Str->Option Value}{fa:Addr}(X:K.In h)(G:h.Ns mainGlobals mg)(Ul:mg "law"=some (.ref fa)){C cO Pt cN PN cF PF cT PT cR PR km dL bY bG dM cU bE:Addr}{pD tf pG:Tok}(aC:PySem.W.nsIn K mainGlobals "Net"=some (some (.ref C)))(NK:PySem.W.nsIn K mainGlobals "Rule"=some (some (.ref km)))(JE:PySem.W.nsIn K mainGlobals "Elder"=some (some (.ref dL)))(D5:PySem.W.nsIn K mainGlobals "Nearest"=some (some (.ref bY)))(Bj:PySem.W.nsIn K mainGlobals "Farthest"=some (some (.ref bG)))(JF:PySem.W.nsIn K mainGlobals "Turns"=some (some (.ref dM)))(Hg:PySem.W.nsIn K mainGlobals "InTurn"=some (some (.ref cU)))(yq:PySem.W.nsIn K mainGlobals "Ranked"=some (some (.ref bE)))(JG:FD K "is_whole" AF)(Hh:FD K "is_whole_within" vP)(JH:FD K "is_house" AG)(R_:FD K "is_row" Mt)(Sa:FD K "are_unlike_houses" Mz)(Sb:FD K "is_tie" Mw)(JI:FD K "check_ties" AJ)(Sd:FD K "check_balance" My)(NL:FC K "houses_out" xW cO)(NM:FD K "distances_from" F5)(JJ:FD K "check_reached" AK)(W_:FD K "under_way" WR)(Se:FD K "_law_pot" MW)(NN:FD K "_law_take" Gc)(NO:FD K "_law_beat" Gd)(NP:FD K "_law_ring" Gv)(NQ:FD K "_law_some_pairs" Gw)(Sf:FD K "_law_box" M4)(JK:FD K "_law_words" rP)(Sg:FD K "_law_one_way" M8)(Sh:FD K "_law_renamed" M9)(Si:FD K "_law_net" Ni)(JL:FD K "_law_outs" A1)(NR:FD K "_law_far" GS)(JM:FD K "_law_start" A2)(NS:FD K "_law_case" G0)(JN:FD K "_law_ranks" Bg)(NU:FD K "_law_order" G_)(Xa:FD K "_law_is_list" W0)(JO:FD K "_law_right" wm)(Sj:FD K "law" Bi)(NW:MD K C "__init__" "Net.__init__" Ch)(JP:MD K C "check_house" "Net.check_house" AI)(Sk:MD K C "far" "Net.far" Mv)(pg:PySem.W.plainGet K C Str.empty=true)(Xb:PySem.W.hasDictIn K C=true)(po:PySem.W.plainOver K C=true)(sa:PySem.W.findIn K (.ref C) "__setattr__"=some (some (.builtin "object.__setattr__")))(mk:PySem.W.makesIn K C=true)(kc:PySem.W.keepIn K (.ref C)=true)(nH:PySem.W.findIn K (.ref C) "house_count"=some none)(nT:PySem.W.findIn K (.ref C) "tie_list"=some none)(nO:PySem.W.findIn K (.ref C) "out_lists"=some none)(nD:PySem.W.findIn K (.ref C) "distances"=some none)(wo:PySem.W.nsIn K mainGlobals "isinstance"=some none)(Sl:PySem.W.nsIn K mainGlobals "int"=some none)(NX:PySem.W.nsIn K mainGlobals "bool"=some none)(JQ:PySem.W.nsIn K mainGlobals "tuple"=some none)(NY:PySem.W.nsIn K mainGlobals "list"=some none)(Sm:PySem.W.nsIn K mainGlobals "str"=some none)(Sn:PySem.W.nsIn K mainGlobals "set"=some none)(Sq:PySem.W.nsIn K mainGlobals "len"=some none)(JR:PySem.W.nsIn K mainGlobals "range"=some none)(Hi:PySem.W.nsIn K mainGlobals "sorted"=some none)(Sr:PySem.W.nsIn K mainGlobals "any"=some none)(Ss:PySem.W.nsIn K mainGlobals "max"=some none)(Su:PySem.W.nsIn K mainGlobals "min"=some none)(wq:PySem.W.nsIn K mainGlobals "ValueError"=some none)(Sv:PySem.W.nsIn K mainGlobals "all"=some none)(Sw:PySem.W.nsIn K mainGlobals "abs"=some none)(Hj:PySem.W.nsIn K mainGlobals "divmod"=some none)(NZ:PySem.W.nsIn K mainGlobals "dict"=some none)(Sx:PySem.W.nsIn K mainGlobals "zip"=some none)(N0:PySem.W.nsIn K mainGlobals "repr"=some none)(o0:PySem.W.nsIn K mainGlobals "enumerate"=some none)(pH:PySem.W.nsIn K mainGlobals "FEWEST_HOUSES"=some (some (.int 2 pD)))(tj:PySem.W.nsIn K mainGlobals "MOST_HOUSES"=some (some (.int 32 tf)))(pJ:PySem.W.nsIn K mainGlobals "MOST_TIES_OUT"=some (some (.int 8 pG)))(D6:PySem.W.specialIn K (.builtin "object.__class__") "__get__"=some (some (.builtin "getset_descriptor.__get__")))(D7:PySem.W.takesIn K (.builtin "object.__class__")=some true)(Xc:PySem.W.plainGet K dL Str.empty=true)(Xd:PySem.W.hasDictIn K dL=true)(Xe:PySem.W.plainOver K dL=true)(Xf:PySem.W.findIn K (.ref dL) "__setattr__"=some (some (.builtin "object.__setattr__")))(Xg:PySem.W.findIn K (.ref dL) "__class__"=some (some (.builtin "object.__class__")))(Xh:PySem.W.mroIn K dL (.type "object")=some true)(Xi:PySem.W.kitOne K (.ref dL) (.ref km)=some true)(Xj:PySem.W.makesIn K dL=true)(Xk:PySem.W.keepIn K (.ref dL)=true)(Xl:PySem.W.findIn K (.ref dL) "__init__"=some (some (.builtin "object.__init__")))(Xm:MD K dL "period" "Rule.period" A9)(Xn:MD K dL "order" "Rule.order" Cy)(Xo:PySem.W.plainGet K bY Str.empty=true)(Xp:PySem.W.hasDictIn K bY=true)(Xq:PySem.W.plainOver K bY=true)(Xr:PySem.W.findIn K (.ref bY) "__setattr__"=some (some (.builtin "object.__setattr__")))(Xs:PySem.W.findIn K (.ref bY) "__class__"=some (some (.builtin "object.__class__")))(Xt:PySem.W.mroIn K bY (.type "object")=some true)(Xu:PySem.W.kitOne K (.ref bY) (.ref km)=some true)(Xv:PySem.W.makesIn K bY=true)(Xw:PySem.W.keepIn K (.ref bY)=true)(Xx:PySem.W.findIn K (.ref bY) "__init__"=some (some (.builtin "object.__init__")))(Xy:MD K bY "period" "Rule.period" A9)(Xz:MC K bY "order" "Nearest.order" ul cN)(XA:PySem.W.plainGet K bG Str.empty=true)(XB:PySem.W.hasDictIn K bG=true)(XC:PySem.W.plainOver K bG=true)(XD:PySem.W.findIn K (.ref bG) "__setattr__"=some (some (.builtin "object.__setattr__")))(XE:PySem.W.findIn K (.ref bG) "__class__"=some (some (.builtin "object.__class__")))(XF:PySem.W.mroIn K bG (.type "object")=some true)(XG:PySem.W.kitOne K (.ref bG) (.ref km)=some true)(XH:PySem.W.makesIn K bG=true)(XI:PySem.W.keepIn K (.ref bG)=true)(XJ:PySem.W.findIn K (.ref bG) "__init__"=some (some (.builtin "object.__init__")))(XM:MD K bG "period" "Rule.period" A9)(XN:MC K bG "order" "Farthest.order" um cF)(XO:PySem.W.plainGet K dM Str.empty=true)(XQ:PySem.W.hasDictIn K dM=true)(XR:PySem.W.plainOver K dM=true)(XS:PySem.W.findIn K (.ref dM) "__setattr__"=some (some (.builtin "object.__setattr__")))(XT:PySem.W.findIn K (.ref dM) "__class__"=some (some (.builtin "object.__class__")))(XU:PySem.W.mroIn K dM (.type "object")=some true)(XV:PySem.W.kitOne K (.ref dM) (.ref km)=some true)(XW:PySem.W.makesIn K dM=true)(XX:PySem.W.keepIn K (.ref dM)=true)(XY:PySem.W.findIn K (.ref dM) "__init__"=some (some (.builtin "object.__init__")))(XZ:MD K dM "period" "Turns.period" G8)(X0:MC K dM "order" "Turns.order" uo cT)(X1:PySem.W.plainGet K cU Str.empty=true)(X2:PySem.W.hasDictIn K cU=true)(X3:PySem.W.plainOver K cU=true)(X4:PySem.W.findIn K (.ref cU) "__setattr__"=some (some (.builtin "object.__setattr__")))(X5:PySem.W.findIn K (.ref cU) "__class__"=some (some (.builtin "object.__class__")))(X6:PySem.W.mroIn K cU (.type "object")=some true)(X7:PySem.W.kitOne K (.ref cU) (.ref km)=some true)(X8:PySem.W.makesIn K cU=true)(X9:PySem.W.keepIn K (.ref cU)=true)(X_:PySem.W.findIn K (.ref cU) "__init__"=some (some (.builtin "object.__init__")))(Ya:MD K cU "period" "Rule.period" A9)(Yb:MD K cU "order" "Rule.order" Cy)(Sy:PySem.W.plainGet K bE Str.empty=true)(Sz:PySem.W.hasDictIn K bE=true)(SA:PySem.W.plainOver K bE=true)(SB:PySem.W.findIn K (.ref bE) "__setattr__"=some (some (.builtin "object.__setattr__")))(Yc:PySem.W.findIn K (.ref bE) "__class__"=some (some (.builtin "object.__class__")))(Yd:PySem.W.mroIn K bE (.type "object")=some true)(Ye:PySem.W.kitOne K (.ref bE) (.ref km)=some true)(Yf:PySem.W.makesIn K bE=true)(Yg:PySem.W.keepIn K (.ref bE)=true)(Yh:MD K bE "period" "Rule.period" A9)(Yi:MC K bE "order" "Ranked.order" uq cR)(Yj:MD K bE "check_letters" "Ranked.check_letters" G7)(N1:MD K bE "__init__" "Ranked.__init__" wb)(Yk:PySem.W.findIn K (.ref bE) "ranks"=some none)(q_n:PySem.W.codeHdIn K cN PN=true)(q_f:PySem.W.codeHdIn K cF PF=true)(q_t:PySem.W.codeHdIn K cT PT=true)(q_r:PySem.W.codeHdIn K cR PR=true)(ndT:[PN,PF,PT,PR].Nodup)(nPt:Pt∉[PN,PF,PT,PR])(N4:PySem.W.codeHdIn K cO Pt=true):
  ∃fd:FuncData,(∀ (s:Shared) (v:Value),BindsTo s fd ⟨[v],[]⟩ [("_law_script",v)])/\∀base:Heap,K.In base->base.Ns mainGlobals mg->nX mg base->bD l.prog w K mg base bb 11 fa fd ["_law_script"] (CK K Pt PN PF PT PR):=by
 obtain⟨aaa,oc,od,an,sl,kV,dc,pm,cd,ct,SC,SE,SF,SG⟩:=Sj;have e:=Ul.symm.trans (gX X G SC);cases e;have SH:=qT (x:="law") (qual:="law") (st:=Bi) SE SF SG;obtain⟨f_i,oci,odi,ani,sli,kVi,dci,pmi,cdi,cti,a_i,i_i,l_i,d_i,k_i⟩:=NW;have yr:=qT (x:="__init__") (qual:="Net.__init__") (st:=Ch) l_i d_i k_i;have Hk:=yr.binds (ps:=["self","many","ties"]) fun _ _ _ _ _ _ us hl=>match us,hl with|[_,_,_],_=>rfl
 have MK:Mk K C f_i:=⟨mk,a_i,i_i,kc⟩
 have B:Bl mg:=⟨eD X G wo,eD X G Sl,eD X G NX,eD X G JQ,eD X G NY,eD X G Sm,eD X G Sn,eD X G Sq,eD X G JR,eD X G Hi,eD X G Sr,eD X G Ss,eD X G Su,eD X G wq,eD X G Sv⟩
 have T:NT K mg C:=⟨⟨pg,Xb,po,sa⟩,nH,nT,nO,nD,gX X G aC⟩
 have B2:OE mg:=⟨eD X G Sw,eD X G Hj,eD X G NZ,eD X G Sx,eD X G N0⟩
 have hE:mg "enumerate"=none:=eD X G o0;have Yl:Uq K mg bE:=⟨⟨Sy,Sz,SA,SB⟩,Yk,gX X G yq⟩
 obtain⟨SI,oc9,od9,an9,sl9,kV9,dc9,pm9,cd9,ct9,Ym,Yn,Yo,Yp,Yq⟩:=N1;have SJ:=qT (x:="__init__") (qual:="Ranked.__init__") (st:=wb) Yo Yp Yq;have Yr:=SJ.binds (ps:=["self","ranks"]) fun _ _ _ _ _ _ us hl=>match us,hl with|[_,_],_=>rfl
 have RMK:Mk K bE SI:=⟨Yf,Ym,Yn,Yg⟩
 refine⟨PySem.W.fnOf "law" "law" (dt Bi) (bR Bi) (ao Bi) .none kV dc pm an cd ct,fun s v=>.of_eq rfl,fun base kb nb hb=>?_⟩;have CL:dI l.prog w K mg base bb 1 "is_whole" ["thing"] (my K):=FD.gU X G JG (fun _ _ _ _ _ _ us hl=>match us,hl with|[_],_=>rfl) fun JS=>FT JS B;have yt:dI l.prog w K mg base bb 2 "is_whole_within" ["thing","least","most"] (mz K):=FD.gU X G Hh (fun _ _ _ _ _ _ us hl=>match us,hl with|[_,_,_],_=>rfl) fun Hl=>DL Hl CL;have CM:dI l.prog w K mg base bb 3 "is_house" ["many","thing"] (p6 K):=FD.gU X G JH (fun _ _ _ _ _ _ us hl=>match us,hl with|[_,_],_=>rfl) fun JT=>FV JT yt;have SL:dI l.prog w K mg base bb 1 "is_row" ["thing","length"] (FW K):=FD.gU X G R_ (fun _ _ _ _ _ _ us hl=>match us,hl with|[_,_],_=>rfl) fun SN=>Mu SN B;have SO:dI l.prog w K mg base bb 4 "are_unlike_houses" ["many","one","other"] FX:=FD.gU X G Sa (fun _ _ _ _ _ _ us hl=>match us,hl with|[_,_,_],_=>rfl) fun SS=>MA SS CM;have SU:dI l.prog w K mg base bb 5 "is_tie" ["many","thing"] FY:=FD.gU X G Sb (fun _ _ _ _ _ _ us hl=>match us,hl with|[_,_],_=>rfl) fun SV=>MB SV SL SO;have JU:dI l.prog w K mg base bb 6 "check_ties" ["many","ties"] kH:=FD.gU X G JI (fun _ _ _ _ _ _ us hl=>match us,hl with|[_,_],_=>rfl) fun JV=>FZ JV B ⟨_,gX X G pH⟩ ⟨_,gX X G tj⟩ yt SU;have SW:dI l.prog w K mg base bb 1 "check_balance" ["many","ties"] kH:=FD.gU X G Sd (fun _ _ _ _ _ _ us hl=>match us,hl with|[_,_],_=>rfl) fun SX=>ME SX B ⟨_,gX X G pJ⟩;have N6:dI l.prog w K mg base bb 1 "houses_out" ["many","ties","house"] (vS Pt):=FC.gU X G NL (fun _ _ _ _ _ _ us hl=>match us,hl with|[_,_,_],_=>rfl) fun N7=>IS N7 B kb hb N4;have N8:dI l.prog w K mg base bb 1 "distances_from" ["out_lists","start"] vT:=FD.gU X G NM (fun _ _ _ _ _ _ us hl=>match us,hl with|[_,_],_=>rfl) fun N9=>IT N9 B;have JW:dI l.prog w K mg base bb 1 "check_reached" ["distances"] vW:=FD.gU X G JJ (fun _ _ _ _ _ _ us hl=>match us,hl with|[_],_=>rfl) fun JX=>F9 JX B;have N_:bD l.prog w K mg base bb 7 f_i _ ["self","many","ties"] (AM C Pt):=IY yr T B JU SW N6 N8 JW;have JY:iL l.prog w K mg base bb 4 C "check_house" ["self","thing"] (rF C):=MD.gU JP (fun _ _ _ _ _ _ us hl=>match us,hl with|[_,_],_=>rfl) fun D8=>DO D8 T CM;have Lj:iL l.prog w K mg base bb 5 C "far" ["self","one","other"] (oe C):=MD.gU Sk (fun _ _ _ _ _ _ us hl=>match us,hl with|[_,_,_],_=>rfl) fun JZ=>IM JZ T JY;have D9:dI l.prog w K mg base bb 1 "under_way" ["stand"] A3:=FD.gU X G W_ (fun _ _ _ _ _ _ us hl=>match us,hl with|[_],_=>rfl) fun Ys=>RM Ys (eD X G o0);have SY:dI l.prog w K mg base bb 1 "_law_pot" ["_law_script","_law_k"] (Gf K):=FD.gU X G Se (fun _ _ _ _ _ _ us hl=>match us,hl with|[_,_],_=>rfl) fun SZ=>MX SZ B B2;have jr:dI l.prog w K mg base bb 1 "_law_take" ["_law_pot_here","_law_many"] fT:=FD.gU X G NN (fun _ _ _ _ _ _ us hl=>match us,hl with|[_,_],_=>rfl) fun Oa=>Jc Oa B2;have Ob:dI l.prog w K mg base bb 2 "_law_beat" ["_law_pot_here"] AT:=FD.gU X G NO (fun _ _ _ _ _ _ us hl=>match us,hl with|[_],_=>rfl) fun Oc=>Jd Oc jr;have Hm:dI l.prog w K mg base bb 1 "_law_ring" ["_law_many"] v5:=FD.gU X G NP (fun _ _ _ _ _ _ us hl=>match us,hl with|[_],_=>rfl) fun Od=>Jh Od B;have Oe:dI l.prog w K mg base bb 2 "_law_some_pairs" ["_law_pot_here","_law_many","_law_more"] AV:=FD.gU X G NQ (fun _ _ _ _ _ _ us hl=>match us,hl with|[_,_,_],_=>rfl) fun Of=>Jj Of B jr;have S4:dI l.prog w K mg base bb 2 "_law_box" ["_law_pot_here"] ui:=FD.gU X G Sf (fun _ _ _ _ _ _ us hl=>match us,hl with|[_],_=>rfl) fun S5=>M5 S5 B jr;have J0:dI l.prog w K mg base bb 2 "_law_words" ["_law_pot_here"] ui:=FD.gU X G JK (fun _ _ _ _ _ _ us hl=>match us,hl with|[_],_=>rfl) fun J4=>GE J4 B jr;have S6:dI l.prog w K mg base bb 2 "_law_one_way" ["_law_pot_here","_law_many"] GR:=FD.gU X G Sg (fun _ _ _ _ _ _ us hl=>match us,hl with|[_,_],_=>rfl) fun S7=>Nb S7 B B2 jr Hm;have S8:dI l.prog w K mg base bb 2 "_law_renamed" ["_law_pot_here","_law_many","_law_ties"] Cw:=FD.gU X G Sh (fun _ _ _ _ _ _ us hl=>match us,hl with|[_,_,_],_=>rfl) fun S9=>Na S9 B jr;have S_:dI l.prog w K mg base bb 3 "_law_net" ["_law_pot_here"] GV:=FD.gU X G Si (fun _ _ _ _ _ _ us hl=>match us,hl with|[_],_=>rfl) fun Ta=>Nj Ta B jr Hm S4 J0 Oe S6 S8;have J5:dI l.prog w K mg base bb 1 "_law_outs" ["_law_many","_law_ties"] v9:=FD.gU X G JL (fun _ _ _ _ _ _ us hl=>match us,hl with|[_,_],_=>rfl) fun J6=>GW J6 B B2;have Og:dI l.prog w K mg base bb 1 "_law_far" ["_law_outs_here"] A0:=FD.gU X G NR (fun _ _ _ _ _ _ us hl=>match us,hl with|[_],_=>rfl) fun Oh=>Jo Oh B;have J7:dI l.prog w K mg base bb 2 "_law_start" ["_law_pot_here","_law_outs_here"] v_:=FD.gU X G JM (fun _ _ _ _ _ _ us hl=>match us,hl with|[_,_],_=>rfl) fun J8=>GY J8 B jr;have Oi:dI l.prog w K mg base bb 9 "_law_case" ["_law_pot_here"] (A7 C Pt):=FD.gU X G NS (fun _ _ _ _ _ _ us hl=>match us,hl with|[_],_=>rfl) fun Oj=>Jt Oj T MK Hk N_ S_ J5 J7 Og;have J9:dI l.prog w K mg base bb 2 "_law_ranks" ["_law_pot_here","_law_many"] wj:=FD.gU X G JN (fun _ _ _ _ _ _ us hl=>match us,hl with|[_,_],_=>rfl) fun J_=>Hb J_ B jr;have Ol:dI l.prog w K mg base bb 1 "_law_order" ["_law_way","_law_far_here","_law_homes","_law_stand","_law_beat_here","_law_ranks_here"] Bh:=FD.gU X G NU (fun _ _ _ _ _ _ us hl=>match us,hl with|[_,_,_,_,_,_],_=>rfl) fun Om=>JC Om B hE;have Yt:dI l.prog w K mg base bb 1 "_law_is_list" ["_law_told","_law_due"] ND:=FD.gU X G Xa (fun _ _ _ _ _ _ us hl=>match us,hl with|[_,_],_=>rfl) fun Yu=>RY Yu B;have Yv:bD l.prog w K mg base bb 2 SI _ ["self","ranks"] (wg bE):=G9 SJ B Yl CL;have Tb:iL l.prog w K mg base bb 1 bE "check_letters" ["self","homes"] (Bc bE):=MD.gU Yj (fun _ _ _ _ _ _ us hl=>match us,hl with|[_,_],_=>rfl) fun F=>Jw F B Yl;have RS:R7 l.prog w K mg base C km dL bY bG dM cU bE PN PF PT PR:=⟨gX X G NK,⟨⟨Xc,Xd,Xe,Xf⟩,gX X G JE,Xg,D6,D7,Xh,Xi⟩,⟨⟨Xo,Xp,Xq,Xr⟩,gX X G D5,Xs,D6,D7,Xt,Xu⟩,⟨⟨XA,XB,XC,XD⟩,gX X G Bj,XE,D6,D7,XF,XG⟩,⟨⟨XO,XQ,XR,XS⟩,gX X G JF,XT,D6,D7,XU,XV⟩,⟨⟨X1,X2,X3,X4⟩,gX X G Hg,X5,D6,D7,X6,X7⟩,⟨⟨Sy,Sz,SA,SB⟩,gX X G yq,Yc,D6,D7,Yd,Ye⟩,ndT,(MD.gU Xn (fun _ _ _ _ _ _ us hl=>match us,hl with|[_,_,_,_,_],_=>rfl) fun F=>CC F D9),(MC.gU Xz (fun _ _ _ _ _ _ us hl=>match us,hl with|[_,_,_,_,_],_=>rfl) fun F=>RQ F B kb hb q_n T Lj D9),(MC.gU XN (fun _ _ _ _ _ _ us hl=>match us,hl with|[_,_,_,_,_],_=>rfl) fun F=>RU F B kb hb q_f T Lj D9),(MC.gU X0 (fun _ _ _ _ _ _ us hl=>match us,hl with|[_,_,_,_,_],_=>rfl) fun F=>RV F B kb hb q_t D9),(MD.gU Yb (fun _ _ _ _ _ _ us hl=>match us,hl with|[_,_,_,_,_],_=>rfl) fun F=>CC F D9),(MC.gU Yi (fun _ _ _ _ _ _ us hl=>match us,hl with|[_,_,_,_,_],_=>rfl) fun F=>RX F B kb hb q_r Yl Tb D9),(MD.gU Xm (fun _ _ _ _ _ _ us hl=>match us,hl with|[_,_],_=>rfl) fun F=>rV F),(MD.gU Xy (fun _ _ _ _ _ _ us hl=>match us,hl with|[_,_],_=>rfl) fun F=>rV F),(MD.gU XM (fun _ _ _ _ _ _ us hl=>match us,hl with|[_,_],_=>rfl) fun F=>rV F),(MD.gU XZ (fun _ _ _ _ _ _ us hl=>match us,hl with|[_,_],_=>rfl) fun F=>Jx F B),(MD.gU Ya (fun _ _ _ _ _ _ us hl=>match us,hl with|[_,_],_=>rfl) fun F=>rV F),(MD.gU Yh (fun _ _ _ _ _ _ us hl=>match us,hl with|[_,_],_=>rfl) fun F=>rV F)⟩
 have Ka:dI l.prog w K mg base bb 10 "_law_right" ["_law_rules","_law_case_here","_law_beat_here","_law_ranks_here"] (wn C dL bY bG dM cU PN PF PT PR):=FD.gU X G JO (fun _ _ _ _ _ _ us hl=>match us,hl with|[_,_,_,_],_=>rfl) fun Kb=>Hf Kb B B2 hE RS RMK Yr Yv Ol Yt;exact NI SH B RS nPt ⟨Xj,Xl,Xk⟩ ⟨Xv,Xx,Xw⟩ ⟨XH,XJ,XI⟩ ⟨XW,XY,XX⟩ ⟨X8,X_,X9⟩ SY Ob Oi J9 Ka
theorem yu(h:((List.range 2000).any fun c=>PySem.W.codeHdIn K c P)=true):∃c,PySem.W.codeHdIn K c P=true:=
 let ⟨c,_,e⟩:=List.any_eq_true.mp h;⟨c,e⟩
theorem On(hO:BN ts H)(h:aZ K H a xs):Li K H a xs:=by
 rcases h with h|h
 .rcases h with h|⟨o,h⟩
  .rcases hO.2 a with z|⟨_,z⟩|⟨o,ys,z⟩ <;> · rw[h] at z;cases z
  .exact .inl ⟨o,h⟩
 .exact .inr fun H'=>.inr h
theorem walk{l:PySem.W.OpenLaw}{q:Program}{tT:List Str}{XP:(Str->Option Value)->Heap->Prop}{YP:World->Heap->Prop}{d:DefRec}{K:Params->PySem.W.Frag}{PR Pt PT PF PN:Addr}(hn:l.most=some 63)(PL:d.params.defaults=[])(hY:∀ (w:World) (h:Heap),YP w h->(K w.params).In h)(hT:∀ (w:World) (h:Heap),YP w h->∀P∈[PR,Pt,PT,PF,PN],h.get? P=some (PySem.W.tabObj #[]))(Yw:∀ (w:World),((List.range 2000).any fun c=>PySem.W.codeHdIn (K w.params) c PR)=true)(Yx:∀ (w:World),(K w.params).lookup PR=none)(Yy:∀ (w:World),((List.range 2000).any fun c=>PySem.W.codeHdIn (K w.params) c Pt)=true)(Yz:∀ (w:World),(K w.params).lookup Pt=none)(YA:∀ (w:World),((List.range 2000).any fun c=>PySem.W.codeHdIn (K w.params) c PT)=true)(YB:∀ (w:World),(K w.params).lookup PT=none)(YC:∀ (w:World),((List.range 2000).any fun c=>PySem.W.codeHdIn (K w.params) c PF)=true)(YD:∀ (w:World),(K w.params).lookup PF=none)(YE:∀ (w:World),((List.range 2000).any fun c=>PySem.W.codeHdIn (K w.params) c PN)=true)(YF:∀ (w:World),(K w.params).lookup PN=none)(F:∀ (w:World) (mg:Str->Option Value) (fa:Addr) (h:Heap),(K w.params).In h->h.Ns mainGlobals mg->mg d.name=some (.ref fa)->
   ∃fd:FuncData,(∀ (s:Shared) (u:Value),BindsTo s fd ⟨[u],[]⟩ [("_law_script",u)])/\∀base:Heap,(K w.params).In base->base.Ns mainGlobals mg->nX mg base->bD l.prog w (K w.params) mg base bb 11 fa fd ["_law_script"] (CK (K w.params) Pt PN PF PT PR)):
  PySem.W.WalkO q tT XP YP l.row.toRowW d [] (fun f vs=>PySem.call f vs):=
 Fl (n:=63) (k:=11) (x:="_law_script") (ts:=[PR,Pt,PT,PF,PN]) (K:=K) (CX:=fun _=>bb) (sp:=fun w=>(CK (K w.params) Pt PN PF PT PR)) hn (by decide) PL ⟨rfl,by decide,by decide,rfl⟩ hY hT
  (fun w P=>fun e=>(bg.mp e).elim (fun e=>by rw[e];exact yu (Yw w)) (fun e=>(bg.mp e).elim (fun e=>by rw[e];exact yu (Yy w)) (fun e=>(bg.mp e).elim (fun e=>by rw[e];exact yu (YA w)) (fun e=>(bg.mp e).elim (fun e=>by rw[e];exact yu (YC w)) (fun e=>by rw[bL.mp e];exact yu (YE w)))))) (fun w P=>fun e=>(bg.mp e).elim (fun e=>by rw[e];exact Yx w) (fun e=>(bg.mp e).elim (fun e=>by rw[e];exact Yz w) (fun e=>(bg.mp e).elim (fun e=>by rw[e];exact YB w) (fun e=>(bg.mp e).elim (fun e=>by rw[e];exact YD w) (fun e=>by rw[bL.mp e];exact YF w))))) F
  (fun w H a ns hl hO hS=>⟨a,ns,rfl,On hO hS,hl,.inl (hO.1 _ (by simp)),⟨.inl (hO.1 _ (by simp)),.inl (hO.1 _ (by simp)),.inl (hO.1 _ (by simp)),.inl (hO.1 _ (by simp))⟩,fun _=>rfl⟩) fun _ _ _ _ _ z=>z
end pZ
open PySem PySem.W PyProof.Rows
namespace PySem.W.Fast
def tw12429534763689680488:=trivial
def tw10577371360501273517:=trivial
def tw7114024390630077449:=trivial
def tw6596227578747963612:=trivial
def tw1854521935829088960:=trivial
def tw6961598164202446317:=trivial
def tw12960926291565818602:=trivial
def tw10859790166047553322:=trivial
def tw11704561160799349302:=trivial
def tw9612635234035484774:=trivial
def tw4084443908274776117:=trivial
def tw6248514699439549380:=trivial
def tw7988056662186636392:=trivial
def tw10805270824241536457:=trivial
def tw14613689437794109478:=trivial
def tw3915619016581122198:=trivial
def tw17048045089690322712:=trivial
def tw9515369550294577744:=trivial
def tw12794742350715524665:=trivial
def tw13892906574207803869:=trivial
def tw15047180407811093372:=trivial
def tw8262882512950118818:=trivial
def tw17395684848067396254:=trivial
def tw13766489768077394030:=trivial
def tw11074466877434643730:=trivial
def tw11878037001726086086:=trivial
def tw12823137885492361726:=trivial
def tw17519679756387544531:=trivial
def tw8627042573550176093:=trivial
def tw10176691278251034719:=trivial
def tw8228039132839498446:=trivial
def tw14418115852903307317:=trivial
def tw18103910801585439579:=trivial
def tw12537039110077352342:=trivial
def tw5802882953683131009:=trivial
def tw12608140338237433258:=trivial
def tw14411252631519980024:=trivial
def tw3172810609073477891:=trivial
def tw12516459123819900922:=trivial
def tw14361267876737114836:=trivial
def tw5844534141079846212:=trivial
def tw12500619159339546269:=trivial
def tw13200021767866453175:=trivial
def tw7235411069638850838:=trivial
def tw6522176811076362705:=trivial
def tw9490763843188000120:=trivial
def tw17213968774467383558:=trivial
def tw6926346334081312070:=trivial
def tw13831640768080013304:=trivial
def tw6082715957145272856:=trivial
def tw8075484337463171657:=trivial
def tw4115804021323629565:=trivial
def tw4513282014363158798:=trivial
def tw9878878579482887951:=trivial
def tw10120841099460389060:=trivial
def tw3766748345396855776:=trivial
def tw5771118562844535240:=trivial
def tw7820144595478795083:=trivial
def tw9674276750005978751:=trivial
def tw11535022504417130135:=trivial
def tw7756047367078424608:=trivial
def tw16522456643860293554:=trivial
def tw3696117147786856356:=trivial
def tw2503268994988807438:=trivial
def tw11652762057880037924:=trivial
def tw13579419602367927610:=trivial
def tw16069100795046212626:=trivial
def tw11538136712768126972:=trivial
def tw14930688429621759892:=trivial
def tw8585640360913904263:=trivial
def tw16764149035043266680:=trivial
def tw6765956276355886108:=trivial
def tw11079782809991581957:=trivial
def tw18382716695298572642:=trivial
def tw14940571706013819205:=trivial
def tw17230266604789480038:=trivial
def tw6649332020281459482:=trivial
def tw7502986899893080410:=trivial
def tw2589924040332283258:=trivial
def tw554580997393134530:=trivial
def tw15072715030750316397:=trivial
def tw2898814310071451070:=trivial
def tw4895666496531083973:=trivial
def tw8462941001971996958:=trivial
def tw7659883623955772766:=trivial
def tw3825265045655388649:=trivial
def tw3457416651322437958:=trivial
def tw16220226957763799761:=trivial
def tw5707893496343244139:=trivial
def tw13916957966869029335:=trivial
def tw4812735028960166173:=trivial
def tw3370552926165077191:=trivial
def tw10991203844755072765:=trivial
def tw4846675998842886568:=trivial
def tw10678676653605889033:=trivial
def tw13642186408967048276:=trivial
def tw4642517837790152341:=trivial
def tw8325693111928596382:=trivial
def tw1226597275547393238:=trivial
def tw16541252737904588532:=trivial
def tw1696854842225590048:=trivial
def tw5209936880886670364:=trivial
def tw7086557299818855398:=trivial
def tw209810277109828385:=trivial
def tw8944674145613589326:=trivial
def tw10898309765051800411:=trivial
def tw9802010859003629891:=trivial
def tw5866159166902156666:=trivial
def tw1235362380199722588:=trivial
def tw10059172079581407492:=trivial
def tw18228501507743876643:=trivial
def tw1256249504137661055:=trivial
def tw15094996779429049406:=trivial
def tw2066909147039959511:=trivial
def tw9250344327142820227:=trivial
def tw2069568632007924167:=trivial
def tw15407418246648688379:=trivial
def tw8032322965833933996:=trivial
def tw12436909875372568828:=trivial
def tw5594905339384746521:=trivial
def tw16898507193908977602:=trivial
def tw3364872173182735454:=trivial
def tw7227370542395979111:=trivial
def tw7558099572798738945:=trivial
def tw5333697883534380335:=trivial
def tw12633670254166379776:=trivial
def tw12613606929471259948:=trivial
def tw10356285962006488320:=trivial
def tw16970707367143619442:=trivial
def tw2850259965488690557:=trivial
def tw10857677681850379063:=trivial
def tw12030690572999517423:=trivial
def tw4205424137602121148:=trivial
def tw15390289200751656336:=trivial
def tw9390437091444345271:=trivial
def tw9460011253771959526:=trivial
def tw14224099929239584262:=trivial
def tw7721110356993742974:=trivial
def tw13728688644327058389:=trivial
def tw1429032827354138756:=trivial
def tw12719281745284960747:=trivial
def tw15611512815222674727:=trivial
def tw6526295627857136077:=trivial
def tw12441824803277577255:=trivial
def tw188685376119336992:=trivial
def tw15351523022276543385:=trivial
def tw15918302978328311126:=trivial
def tw11719167683914060655:=trivial
def tw9208740297573188379:=trivial
def tw363522692157916799:=trivial
def tw9307675573411193976:=trivial
def tw13266953427050378612:=trivial
def tw8744519956917761313:=trivial
def tw11839197753465809374:=trivial
def tw6663856837486812341:=trivial
def tw6245019059297794889:=trivial
def tw14602641292219384526:=trivial
def tw10604569811219218417:=trivial
def tw583380996873539057:=trivial
def tw8499191269994955407:=trivial
def tw3403440078938180268:=trivial
def tw1710726885119868336:=trivial
def tw9567529422017674138:=trivial
def tw16626894784315498479:=trivial
def tw9178248855134953197:=trivial
def tw7781782251888299183:=trivial
def tw3399300992494092131:=trivial
def tw6780545491790838674:=trivial
def tw12836505126407908178:=trivial
def tw12811055181971764847:=trivial
def tw4184649829383892314:=trivial
def tw14778451335489016515:=trivial
def tw4817476026939152419:=trivial
def tw10711188354177047649:=trivial
def tw4457808644476083678:=trivial
def tw12418605747578405553:=trivial
def tw5415618740507256036:=trivial
def tw17098244624406021711:=trivial
def tw2440664784752470207:=trivial
def tw8304200119919939128:=trivial
def tw6352915282562957287:=trivial
def tw13480796656316207641:=trivial
def tw7987541464224807395:=trivial
def tw3166145236047289946:=trivial
def tw14250103387081054383:=trivial
def tw2286285506919643054:=trivial
def tw4899085768853975259:=trivial
def tw15086011401423274379:=trivial
def tw129108917411376701:=trivial
def tw14536512578261157838:=trivial
def tw1720860574830039106:=trivial
def tw9545580572083938581:=trivial
def tw10072644867391184437:=trivial
def tw11052477250535049475:=trivial
def tw9228896297228457486:=trivial
def tw10715084925778567137:=trivial
def tw2014989777994710915:=trivial
def tw6410172407496369263:=trivial
def tw18253373064113832298:=trivial
def tw7550811420889850482:=trivial
def tw16033780047315167127:=trivial
def tw882435426109064110:=trivial
def tw6378919226997376713:=trivial
def tw4533032509658235262:=trivial
def tw4022320308983024521:=trivial
def tw12048302403040867204:=trivial
def tw10752319437224485739:=trivial
def tw17650630425428506594:=trivial
def tw6181124502925978442:=trivial
def tw2844361204912613008:=trivial
def tw5122529394306314314:=trivial
def tw7874669267801496331:=trivial
def tw1673941441911768271:=trivial
def tw10764886098379115380:=trivial
def tw17353859104426466041:=trivial
def tw5289062675453787108:=trivial
def tw17118175327352947307:=trivial
def tw4744310279973504902:=trivial
def tw1913075189967565593:=trivial
def tw4889060317087602639:=trivial
def tw10811505077945216751:=trivial
def tw16960833901146249371:=trivial
def tw9545310991194643343:=trivial
def tw10442073383997638384:=trivial
def tw11810906657398961511:=trivial
def tw11313506910266493700:=trivial
def tw14316995757323178122:=trivial
def tw4366715355854179602:=trivial
def tw4905151011379794533:=trivial
def tw4046373913889492713:=trivial
def tw5022713710095824829:=trivial
def tw7125459415881136326:=trivial
def tw8038231980101935936:=trivial
def tw15690727692897986510:=trivial
def tw16786938531922518217:=trivial
def tw2153430707414710308:=trivial
def tw18093781855754975583:=trivial
def tw8012629938220968728:=trivial
def tw4352100128589922672:=trivial
def tw10587944491089246045:=trivial
def tw16689007705870536569:=trivial
def tw2704618575296660320:=trivial
def tw17519618370116468319:=trivial
def tw5176382621377791362:=trivial
def tw4075738319064915144:=trivial
def tw17509679221171695968:=trivial
def tw3944921368779167271:=trivial
def tw13622428603292372002:=trivial
def tw17588075979302997273:=trivial
def tw15973458144967139810:=trivial
def tw9454540548809772686:=trivial
def tw6225576432379782078:=trivial
def tw17140481003982553927:=trivial
def tw17756675046727381038:=trivial
def tw8666393242497091432:=trivial
def tw4133309570615438885:=trivial
def tw4701534807203420042:=trivial
def tw8511329780499978210:=trivial
def tw3888349164349246295:=trivial
def tw11899312627890538759:=trivial
def tw3284839140732456215:=trivial
def tw18223126655490851159:=trivial
def tw5407781439183332559:=trivial
def tw5964728919251744084:=trivial
def tw15441421163595170809:=trivial
def tw7943117996554704882:=trivial
def tw13933529297661760630:=trivial
def tw4998915452162443379:=trivial
def tw8826046168115943649:=trivial
def tw6710236862548417596:=trivial
def tw16082618764588473175:=trivial
def tw3094247667786084617:=trivial
def tw13278780960787263092:=trivial
def tw10600303922534803930:=trivial
def tw13578225188943317698:=trivial
def tw6654833685974431899:=trivial
def tw6259070454696408092:=trivial
def tw3198606265403323837:=trivial
def tw6196090650574088579:=trivial
def tw6705883637933223979:=trivial
def tw8131736932739990560:=trivial
def tw8995551798246618005:=trivial
def tw14759839059591908227:=trivial
def tw16499374007207713558:=trivial
def tw431366986008603065:=trivial
def tw2775957495167567016:=trivial
def tw3538207914791126047:=trivial
def tw1145688960631766852:=trivial
def tw1072661787090088823:=trivial
def tw2863258545940441788:=trivial
def tw9347990213865767156:=trivial
def tw13586306100060578703:=trivial
def tw16605620567898543578:=trivial
def tw13726667199046530058:=trivial
def tw11308659922520905836:=trivial
def tw479122435031453071:=trivial
def tw7317178231644264296:=trivial
def tw6805695218625343450:=trivial
def tw9428680954649267785:=trivial
def tw15021118335328996835:=trivial
def tw14159823517363651546:=trivial
def tw13850128454793098266:=trivial
def tw7641797289850838080:=trivial
def tw3001513124932918839:=trivial
def tw6930810481934970390:=trivial
def tw4072715070399163376:=trivial
def tw4272217016058828569:=trivial
def tw8090870287158636419:=trivial
def tw15261420602224884108:=trivial
def tw2865330606197594620:=trivial
def tw15910565345785698011:=trivial
def tw11232449645445701922:=trivial
def tw13130590647268159189:=trivial
def tw14684954967386956428:=trivial
def tw13771245335941121548:=trivial
def tw761647186845276661:=trivial
def tw797400697511407370:=trivial
def tw17312890108270752762:=trivial
def tw17691124433065207865:=trivial
def tw16454976612828811821:=trivial
def tw2107160735206318206:=trivial
def tw3415075214929600596:=trivial
def tw16356331197422032735:=trivial
def tw8561897782068158280:=trivial
def tw3731267830085405777:=trivial
def tw11297565656727736208:=trivial
def tw10153826532864157024:=trivial
def tw15887462200955358310:=trivial
def tw16628322197045729169:=trivial
def tw242320743494769639:=trivial
def tw15355703210287414333:=trivial
def tw17122264123529949548:=trivial
def tw15995422798442282562:=trivial
def tw6199440903585838471:=trivial
def tw3977705688916316564:=trivial
def tw2930379919350148221:=trivial
def tw16662148194174676599:=trivial
def tw2150119760479024102:=trivial
def tw1713547467713805169:=trivial
def tw13672036614029586596:=trivial
def tw13933051277829199653:=trivial
def tw17352694878814596617:=trivial
def tw13127327942419630436:=trivial
def tw8034527756900620194:=trivial
def tw6646374171530938255:=trivial
def tw14368179674228514938:=trivial
def tw7223186296288539972:=trivial
def tw16491356197362735183:=trivial
def tw8781595731336961233:=trivial
def tw8614035622062143642:=trivial
def tw14918228599109800768:=trivial
def tw5249317236514930535:=trivial
def tw18272571570242710435:=trivial
def tw5387032177295992502:=trivial
def tw17394797470219189270:=trivial
def tw515845999190472073:=trivial
def tw16081689511927279290:=trivial
def tw14096378829723802881:=trivial
def tw9231228831888900233:=trivial
def tw12557421243231259607:=trivial
def tw10565380954507920222:=trivial
def tw3283386797472286385:=trivial
def tw5360055129542598511:=trivial
def tw17949321959890695670:=trivial
def tw4339151563079406902:=trivial
def tw9462770787007184654:=trivial
def tw12641741672407925470:=trivial
def tw16419280228813552265:=trivial
def tw10364642751014940548:=trivial
def tw1794280462447062574:=trivial
def tw14860418743870820280:=trivial
def tw6714141815086725489:=trivial
def tw12454149907396787187:=trivial
def tw9236060911216275710:=trivial
def tw4867815628332742783:=trivial
def tw1126204166903813379:=trivial
def tw8426957587611214946:=trivial
def tw3981960587180247900:=trivial
def tw2263168704095982300:=trivial
def tw2586276416019061443:=trivial
def tw16648811581520018024:=trivial
def tw4610476697636368251:=trivial
def tw5704951040030556524:=trivial
def tw515664155700718324:=trivial
def tw10307596381993584738:=trivial
def tw2406305174948861769:=trivial
def tw65848979722481789:=trivial
def tw16990518737690560932:=trivial
def tw17406932137235184394:=trivial
def tw1920598721574584425:=trivial
def tw2723193195012843134:=trivial
def tw16646527493940902370:=trivial
def tw6111989008092524144:=trivial
def tw13774704476550140699:=trivial
def tw11362064325235992135:=trivial
def tw15029058599296438873:=trivial
def tw2774922053150163059:=trivial
def tw7403389944090640159:=trivial
def tw14203808834200869615:=trivial
def tw1076708931897219554:=trivial
def tw14770725430681114227:=trivial
def tw8339806467347767740:=trivial
def tw2043440760196008442:=trivial
def tw16963237896568244797:=trivial
def tw8019467924143065178:=trivial
def tw1828504128731668283:=trivial
def tw4482515550927938081:=trivial
def tw6216974063695445444:=trivial
def tw3599294827690236655:=trivial
def tw9147963417211352397:=trivial
def tw12293656765848034323:=trivial
def tw8209541760803592287:=trivial
def tw14390260766081871373:=trivial
def tw9190125061912204704:=trivial
def tw12956941955697096886:=trivial
def tw9044763048474446959:=trivial
def tw6477162378139091118:=trivial
def tw6822194849066196204:=trivial
def tw14065568775957953714:=trivial
def tw5194015063100193458:=trivial
def tw7639657909941616746:=trivial
def tw6580337624229236205:=trivial
def tw6408370354164327937:=trivial
def tw2585570065108959903:=trivial
def tw1348871861007518793:=trivial
def tw7745488617430356992:=trivial
def tw2599341360693240355:=trivial
def tw2939096027304237413:=trivial
def tw14278353003891773844:=trivial
def tw15033618624758132821:=trivial
def tw4052835418327815851:=trivial
def tw4999583234670110884:=trivial
def tw11504519559836977256:=trivial
def tw4579628210419575936:=trivial
def tw2605467715092194266:=trivial
def tw10835891098269983078:=trivial
def tw11953529104425770858:=trivial
def tw14021194867088307191:=trivial
def tw11992425933118671870:=trivial
def tw128085595396704919:=trivial
def tw8408886610101036927:=trivial
def tw18184206484020410973:=trivial
def tw8138381314905496045:=trivial
def tw6953129221584412958:=trivial
def tw13668409835051945319:=trivial
def tw7557139201615459187:=trivial
def tw6460188569182916814:=trivial
def tw12758908555109277450:=trivial
def tw15671925446254570984:=trivial
def tw2321742331263653561:=trivial
def tw1843059624687335794:=trivial
def tw9204204552134218291:=trivial
def tw10200050020425337206:=trivial
def tw8803973669178624611:=trivial
def tw2652197785365890013:=trivial
def tw12395451757313533723:=trivial
def tw18298072491071656312:=trivial
def tw1621971714942593076:=trivial
def tw10430064049198648131:=trivial
def tw274877214607389196:=trivial
def tw6505939026783431254:=trivial
def tw12250509667771352906:=trivial
def tw3349344149168058177:=trivial
def tw5088977641209613167:=trivial
def tw16591182143332211194:=trivial
def tw16960461416543990648:=trivial
def tw17540636328512480345:=trivial
def tw10746260112333312988:=trivial
def tw7851385997951488581:=trivial
end PySem.W.Fast
set_option maxRecDepth 100000 in
set_option maxHeartbeats 0 in
theorem PySem.Challenge.cw_neverwait_k31_orders_holds : PySem.Challenge.rw_neverwait_k31_orders.Holds := by
 w_on; o_law; k_head; (case hw=>w_witness2)
 k_fill
 refine pZ.walk (l:=PySem.Challenge.rw_neverwait_k31_orders) (PR:=_) (Pt:=_) (PT:=_) (PF:=_) (PN:=_) rfl rfl (fun w h Y=>PySem.W.km_in_of Y) (fun w h Y=>PySem.W.km_tabs_of Y) ?cd0 ?kt0 ?cd1 ?kt1 ?cd2 ?kt2 ?cd3 ?kt3 ?cd4 ?kt4 ?F;case F =>
  intro w mg fa h KX G PM;refine' pZ.NJ (PR:=_) (Pt:=_) (PT:=_) (PF:=_) (PN:=_) KX G PM ?_ ?_ ?_ ?_ ?_ ?_ ?_ ?_ ?_ ?_ ?_ ?_ ?_ ?_ ?_ ?_ ?_ ?_ ?_ ?_ ?_ ?_ ?_ ?_ ?_ ?_ ?_ ?_ ?_ ?_ ?_ ?_ ?_ ?_ ?_ ?_ ?_ ?_ ?_ ?_ ?_ ?_ ?_ ?_ ?_ ?_ ?_ ?_ ?_ ?_ ?_ ?_ ?_ ?_ ?_ ?_ ?_ ?_ ?_ ?_ ?_ ?_ ?_ ?_ ?_ ?_ ?_ ?_ ?_ ?_ ?_ ?_ ?_ ?_ ?_ ?_ ?_ ?_ ?_ ?_ ?_ ?_ ?_ ?_ ?_ ?_ ?_ ?_ ?_ ?_ ?_ ?_ ?_ ?_ ?_ ?_ ?_ ?_ ?_ ?_ ?_ ?_ ?_ ?_ ?_ ?_ ?_ ?_ ?_ ?_ ?_ ?_ ?_ ?_ ?_ ?_ ?_ ?_ ?_ ?_ ?_ ?_ ?_ ?_ ?_ ?_ ?_ ?_ ?_ ?_ ?_ ?_ ?_ ?_ ?_ ?_ ?_ ?_ ?_ ?_ ?_ ?_ ?_ ?_ ?_ ?_ ?_ ?_ ?_ ?_ ?_ ?_ ?_ ?_ ?_ ?_ ?_ ?_ ?_;all_goals first
   | (refine' pZ.FD.mk ?a ?l ?d ?k; (case a=>k_is); (case l=>k_is); (case d=>k_is); (case k=>k_is))
   | (refine' pZ.FC.mk ?a ?l ?d ?k; (case a=>k_is); (case l=>k_is); (case d=>k_is); (case k=>k_is))
   | (refine' pZ.MD.mk ?a ?i ?l ?d ?k; (case a=>k_is); (case i=>k_is); (case l=>k_is); (case d=>k_is); (case k=>k_is))
   | (refine' pZ.MC.mk ?a ?i ?l ?d ?k; (case a=>k_is); (case i=>k_is); (case l=>k_is); (case d=>k_is); (case k=>k_is))
   | k_is
   | kernel_rfl
   | decide
   | exact ⟨by kernel_rfl,by k_is,by k_is,by k_is,by k_is,by k_is,by k_is,by kernel_rfl⟩
   | skip
 case kt0=>intro w; kernel_rfl
 case cd0=>intro w; kernel_rfl
 case kt1=>intro w; kernel_rfl
 case cd1=>intro w; kernel_rfl
 case kt2=>intro w; kernel_rfl
 case cd2=>intro w; kernel_rfl
 case kt3=>intro w; kernel_rfl
 case cd3=>intro w; kernel_rfl
 case kt4=>intro w; kernel_rfl
 case cd4=>intro w; kernel_rfl
