import PyProof.Rows.All
import Wide.All
import OpenK.AllK
import Wide.FinOn
import Lean
import PyProof.EqAt
import PyProof.EqKinds
import PyProof.TupleCall
import PySem.Challenge.RW_neverwait_k32_hands_by_rules
set_option Elab.async false
set_option linter.all false
set_option maxRecDepth 100000
set_option maxHeartbeats 8000000
abbrev aQ:=List Nat
abbrev bA:=List (Option Nat)
abbrev dG:=List Int
abbrev i7:=Array (Nat×Nat×Nat)
abbrev lu:=Option Int
abbrev lG:=Int×Int
abbrev o0:=List (Int×Int)
abbrev rL:=Array Int
abbrev ua:=Nat->Int
abbrev ub:=Nat->Nat
abbrev wn:=List (Nat×Nat)
abbrev zA:=List (List Nat)
def au:=@PySem.wpAny_bind
def aT:=@List.length_map
def cw:=@List.getD_eq_getElem?_getD
def bP:=@PySem.Heap.get?_push_of_some
def cz:=@List.getElem?_eq_getElem
def cA:=@List.getElem?_map
def dq:=@List.mem_cons_of_mem
def cK:=@List.mem_cons_self
def bf:=@Nat.ne_of_lt
def eR:=@List.getElem?_eq_some_iff
def ao:=@if_neg
def bv:=@Nat.lt_of_lt_of_le
def aB:=@PyProof.Rows.wpS_bind
def aS:=@PySem.Heap.lt_size
def ap:=@if_pos
def aP:=@Nat.le_refl
def aZ:=@Nat.le_trans
def ce:=@List.size_toArray
def cX:=@PySem.Heap.get?_push_size
def bq:=@List.mem_cons
def dz:=@List.mem_of_getElem?
def dh:=@List.length_append
def di:=@Bool.false_ne_true
def cB:=@Option.some.inj
def bY:=@List.mem_range
def aK:=@PyProof.Rows.wpS_pure
def dA:=@List.mem_singleton
def dk:=@List.length_range
def bB:=@List.mem_map
def cL:=@List.mem_append
def dH:=@Nat.lt_succ_of_lt
def dP:=@List.append_assoc
def e_:=@List.mem_append_right
def dt:=@List.map_append
def eK:=@Nat.lt_of_le_of_lt
def gy:=@PySem.F.plainAttrs_list
def f9:=@List.getElem?_eq_none
def cp:=@Nat.zero_le
def eT:=@PySem.Heap.get?_push_ne
def f_:=@List.getElem?_range
def eU:=@List.filter_cons
def eI:=@PySem.PassesOwn.never
def eV:=@PySem.Heap.size_update
def gC:=@List.mem_append_left
def fu:=@of_decide_eq_true
def gD:=@Array.toList_append
def fj:=@List.length_cons
def d7:=@Int.ofNat.inj
def dQ:=@List.map_map
def i8:=@PySem.F.type_list_append
def i9:=@PySem.F.slot_list_append
def gk:=@List.pairwise_map
def fc:=@PySem.boot_len
def j3:=@Array.perm_iff_toList_perm
def iL:=@List.length_filter_le
def gE:=@Int.toNat_natCast
def gm:=@Bool.and_eq_true
def j4:=@List.getElem?_append_left
def gb:=@List.mem_filter
def ic:=@List.filter_append
def gW:=@List.take_add_one
def i_:=@List.length_replicate
def eL:=@getElem?_pos
def gX:=@List.lookup_cons
def gI:=@List.nodup_cons
def iM:=@Bool.false_eq_true
def ie:=@List.getElem_mem
def gY:=@decide_eq_false
def j5:=@List.perm_append_comm
def fm:=@PyProof.Rows.wpS_forRange
def gJ:=@List.map_cons
def j6:=@List.map_congr_left
def gK:=@PySem.wpAny_holding
def ja:=@List.take_length
def iN:=@List.foldl_cons
def gO:=@Nat.ne_of_gt
def lH:=@List.Perm.append_left
def gc:=@PySem.wpAny_field
def ge:=@PySem.sizeLine_eq
def rM:=@PyProof.Rows.boot_isinstance
def jb:=@List.length_set
def iO:=@decide_eq_true
def j7:=@List.nodup_append
def lI:=@PySem.mem_of_lookup
def lJ:=@Array.length_toList
def o4:=@PyProof.Rows.boot_tuple
def rN:=@List.getElem?_append_right
def lK:=@PySem.Heap.get?_update_ne
def o5:=@PySem.wpAny_callSpecial?_slot
def jc:=@PySem.Heap.size_push
def dI:=@Ne.symm
def lL:=@List.ext_getElem?
def wo:=@PyProof.Rows.slot_tuple_getitem
def uc:=@List.nodup_iff_pairwise_ne
def o_:=@List.mem_of_mem_take
def j8:=@Array.size_map
def lw:=@List.range_succ
def lM:=@Nat.lt_succ_self
def pb:=@beq_eq_false_iff_ne
def lN:=@PySem.wpAny_call_entry
def lO:=@List.length_singleton
def nK:=@PyProof.Rows.boot_sorted
def iE:=@List.Perm.refl
def iF:=@PySem.wpAny_seqItems
def jF:=@Nat.mod_eq_of_lt
def jG:=@List.not_mem_nil
def jH:=@List.nodup_range
def dL:=@PyProof.Rows.wpS_mono
def qk:=@PyProof.Rows.callWith_type1
def fv:=@PySem.wpAny_rule
def eG:=@if_false
def gg:=@beq_iff_eq
def jI:=@List.append_nil
def fw:=@PyProof.Rows.size_push'
def qm:=@List.pairwise_iff_getElem
def qo:=@List.drop_eq_getElem_cons
def kK:=@PySem.wpAny_newObj_type
def nL:=@List.take_append_drop
def nM:=@PySem.Heap.get?_update_other
def nN:=@Array.getElem?_toList
def lP:=@PySem.F.called_set
def kL:=@List.length_take
def kM:=@List.length_drop
def kO:=@List.all_eq_true
def kP:=@Array.toList_map
def jd:=@Nat.lt_irrefl
def iG:=@Int.zero_add
def nQ:=@List.mem_iff_getElem
def nU:=@PySem.Heap.get?_update_self
def gh:=@PyProof.Rows.wpS_modify
def kQ:=@Bool.eq_iff_iff
def nV:=@List.replicate_succ
def qp:=@PyProof.Rows.boot_list
def qr:=@List.take_of_length_le
def qt:=@List.range_succ_eq_map
def qu:=@List.getElem?_set_self
def nW:=@decide_eq_true_iff
def kR:=@List.nodup_nil
def kU:=@PyProof.Rows.get?_update_seq
def lQ:=@Nat.div_add_mod
def lR:=@List.find?_cons
def lS:=@List.Perm.of_eq
def nX:=@PySem.wpAny_Call_Name_kw
def jJ:=@Nat.zero_add
def qv:=@List.getElem?_set_ne
def nY:=@List.flatMap_cons
def nZ:=@Array.toList_push
def jK:=@PyProof.Rows.listUpdate_at
def lT:=@PySem.codeAny_builtin
def qw:=@Int.toNat_of_nonneg
def ud:=@List.getElem?_replicate
def qx:=@PySem.Heap.get?_none_of_le
def qy:=@PySem.Around.under_plainId
def kW:=@PySem.wpAny_attempt
def kX:=@Nat.le_of_lt
def qz:=@List.mem_filterMap
def ue:=@List.length_pos_of_mem
def uf:=@List.filter_eq_nil_iff
def qA:=@PySem.Heap.SameBut.update
def n0:=@Option.map_some
def n9:=@Nat.not_lt_zero
def n_:=@List.of_mem_zip
def lU:=@List.any_cons
def lV:=@List.all_cons
def ug:=@Nat.le_of_ble_eq_true
def xo:=@Array.getD_eq_getD_getElem?
def qB:=@PySem.wpAny_setField_rec
def og:=@PySem.wpAny_passesOwn
def uh:=@List.replicate_succ'
def ui:=@List.mem_of_mem_drop
def kY:=@List.map_id
def qC:=@Option.getD_some
def qD:=@List.countP_cons
def qE:=@Array.toList_zip
def qF:=@PySem.wpAny_truthy_bool
def xp:=@List.getElem?_zip_eq_some
def xq:=@Classical.byContradiction
def Bw:=@PyProof.Rows.F.plain_set_update_loop
def uj:=@Nat.mul_le_mul_left
def uk:=@List.getElem_of_mem
def fz:=@PyProof.Rows.wpS_get
def qG:=@PyProof.Rows.assignInOrder_cons
def jL:=@PySem.wpAny_mono
def iH:=@Prod.ext
def xr:=@Option.isSome_iff_exists
def oh:=@List.cons.inj
def qH:=@ne_of_beq_false
def qI:=@List.length_zip
def qJ:=@List.forIn_cons
def qK:=@List.filter_map
def ul:=@of_decide_eq_false
def um:=@Int.emod_lt_of_pos
def uq:=@Array.forIn_toList
def oj:=@PySem.wpAny_standAt
def ur:=@decide_eq_true_eq
def ut:=@bne_self_eq_false
def uv:=@List.getElem?_set
def qL:=@List.forIn_nil
def uw:=@List.flatten_cons
def ux:=@List.any_eq_false
def xt:=@List.Perm.append_right
def xu:=@Array.toList_filterMap
def uy:=@PySem.wpAny_pyIter_tuple
def xv:=@Nat.eq_of_beq_eq_true
def xw:=@List.mem_iff_getElem?
def uz:=@decide_eq_decide
def lW:=@Nat.mod_lt
def uA:=@List.getElem_map
def uB:=@PySem.wpAny_pyIter_list
def jM:=@or_false
def om:=@Int.le_refl
def uC:=@Int.emod_nonneg
def uD:=@Bool.or_eq_true
def xx:=@PySem.builtinLookup_eq_fast
def xy:=@List.length_take_le
def uE:=@PySem.wpAny_eqBool_int
def lX:=@PyProof.Rows.seqEpoch_at
def qM:=@Nat.lt_trans
def qN:=@Nat.le_of_eq
def qO:=@PySem.wpAny_newList
def xz:=@PySem.codeAny_call_builtin
def xA:=@List.pairwise_cons
def uF:=@List.foldl_nil
def Bx:=@Int.fmod_eq_emod_of_nonneg
def By:=@Int.fdiv_eq_ediv_of_nonneg
def Bz:=@PySem.F.plain_extend_loop
def BA:=@Array.getElem?_eq_getElem
def jN:=@if_true
def xB:=@List.take_sublist
def xC:=@List.foldl_append
def qP:=@PySem.wpAny_typeOf
def qQ:=@PySem.codeAny_mono
def BB:=@PySem.F.args_tuple_add_2
def BC:=@List.length_erase_of_mem
def BF:=@List.getElem?_take_of_lt
def uG:=@Bool.not_true
def uH:=@PySem.wpAny_newTuple
def uI:=@PySem.wpAny_bindName
def BG:=@decide_eq_false_iff_not
def on:=@PySem.call_meets
def BH:=@PySem.F.entry_tuple_add
def BI:=@PyProof.Rows.boot_range
def xD:=@Nat.succ_le_succ
def xE:=@Nat.le_add_right
def xF:=@List.any_eq_true
def jO:=@PyProof.Rows.wpS_lift
def BJ:=@PySem.F.slot_tuple_add
def uJ:=@Nat.succ.inj
def uK:=@Nat.sub_zero
def uL:=@Nat.sub_self
def uM:=@Nat.min_self
def BK:=@Nat.div_div_eq_div_mul
def xG:=@PySem.wpAny_setState_of
def xH:=@Array.Perm.refl
def uN:=@PySem.plainId_quiet
def BL:=@PyProof.Rows.boot_min
def BM:=@PyProof.Rows.boot_max
def uO:=@Nat.mul_pos
def BN:=@List.mem_erase_of_ne
def BO:=@List.length_take_le'
def BP:=@List.Pairwise.filter
def BQ:=@Array.toList_reverse
def BR:=@Array.toList_extract
def BS:=@PySem.wpAny_pyNext_list_item
def qR:=@PySem.wpAny_call
def qS:=@PySem.wpAny_Name
def Iw:=@PyProof.Rows.F.entry_set_update_loop
def BU:=@List.filter_sublist
def BV:=@List.filterMap_cons
def xI:=@PySem.wpAny_updateSeq
def xJ:=@PySem.wpAny_execs_nil
def xK:=@PySem.typeLookup_type
def xL:=@List.set_comm
def BW:=@PySem.wpAny_pyNext_list_end
def BY:=@Option.toList_some
def BZ:=@List.mem_replicate
def B0:=@List.getElem_range
def B1:=@List.find?_eq_none
def B3:=@PySem.wpAny_loadName_local
def xM:=@Nat.beq_refl
def B4:=@List.reverse_perm
def xN:=@List.map_set
def B5:=@List.filter_congr
def B6:=@Bool.eq_false_iff
def B7:=@PySem.wpAny_loadName_free
def B8:=@List.zipIdx_cons
def B9:=@List.mem_flatMap
def B_:=@List.ext_getElem
def xO:=@Nat.mul_one
def xP:=@Nat.le_succ
def Ix:=@Int.mul_le_mul_of_nonneg_left
def Ca:=@StateT.run_pure
def Cb:=@Nat.min_eq_left
def Cc:=@List.find?_some
def Cd:=@List.filter_nil
def Ce:=@List.count_cons
def Iy:=@PySem.F.typeOf_object_class
def Cf:=@PySem.wpAny_loadPart_at
def Iz:=@Nat.mul_lt_mul_of_pos_left
def Cg:=@Nat.mul_le_mul
def Ch:=@List.drop_zero
def IA:=@Array.toList_setIfInBounds
def IC:=@Array.getElem?_eq_some_iff
def ID:=@PySem.F.entry_extend_loop
def IE:=@List.mem_of_find?_eq_some
def Cj:=@PySem.wpAny_pyIter_zip
def Ck:=@PySem.wpAny_isInstance
def Cm:=@PySem.noFill_tuple_add
def IF:=@PyProof.noPylong_of_log2
def IG:=@List.filterMap_cons_some
namespace PySem
open PySem.Spec PyProof.Rows PySem.W
abbrev aR:=Shared
abbrev a_:=W.Frag
abbrev bu:=Array Keyed
abbrev bw:=List Value
abbrev bL:=Program
abbrev bQ:=List Str
abbrev bV:=Value->Shared->Prop
abbrev cE:=List (Addr×Obj)
abbrev br:=Around
abbrev bD:=Array Value
abbrev bR:=List Addr
abbrev bZ:=SortSt
abbrev cr:=Str->Option Value
abbrev eA:=FuncData
abbrev gZ:=List Expr
abbrev iP:=List (Str×Addr)
abbrev iQ:=Addr->Prop
abbrev jt:=Option Addr
abbrev j9:=List Env
abbrev lY:=Arguments
abbrev lZ:=Keyed->Int
abbrev nh:=Array (Option Value)
abbrev ni:=SetTable
abbrev uP:=Addr->Int×Int
abbrev wq:=List (Str×Value)
abbrev wr:=List (Str×NameKind)
abbrev wu:=Unit->SortSt->Prop
abbrev zB:=Result->Shared->Prop
abbrev zC:=Option Bool->SortSt->Prop
abbrev zD:=Option Nat->SortSt->Prop
abbrev Ej:=Str->Option NameKind
abbrev II:=Nat->Heap->Prop
abbrev IJ:=World->Heap->Prop
abbrev IK:=Option Value->Shared->Prop
abbrev IL:=Bool->Shared->Prop
abbrev IM:=Bool->SortSt->Prop
abbrev IN:=Array Keyed->SortSt->Prop
end PySem
namespace L2
open PySem PySem.Spec PyProof.Rows
abbrev iW:=Sum Int Str
def wv:iW->Value->Bool
 |.inl k,v=>Value.isInt k v
 |.inr x,v=>Value.isStrOf x v
def Zl(w:World):iW->Int
 |.inl k=>hashInt k
 |.inr x=>hashStr w x
theorem eC:∀ {k:iW} {v:Value},wv k v=true->(∃i t,k=Sum.inl i/\v=Value.int i t)\/(∃x t,k=Sum.inr x/\v=Value.str x t)
 |.inl i,v,h=>by
  obtain⟨t,e⟩:=Value.isInt_shape (k:=i) (v:=v) h;exact .inl ⟨i,t,rfl,e⟩
 |.inr x,v,h=>by
  obtain⟨t,e⟩:=Value.isStrOf_shape (x:=x) (v:=v) h;exact .inr ⟨x,t,rfl,e⟩
theorem F5(i:Int)(t:Tok):wv (.inl i) (.int i t)=true:=by simp[wv,Value.isInt]
theorem F7(x:Str)(t:Tok):wv (.inr x) (.str x t)=true:=by simp[wv,Value.isStrOf]
theorem Qj(a b:Int):decide ((Sum.inl a:iW)=Sum.inl b)=(a==b):=by
 by_cases e:a=b
 .subst e;simp
 .have h:¬ (Sum.inl a:iW)=Sum.inl b:=fun q=>e (Sum.inl.inj q);rw[gY h];exact(pb.mpr e).symm
theorem Qk(a b:Str):decide ((Sum.inr a:iW)=Sum.inr b)=decide (a=b):=by
 by_cases e:a=b
 .subst e;simp
 .have h:¬ (Sum.inr a:iW)=Sum.inr b:=fun q=>e (Sum.inr.inj q);rw[gY h,gY e]
theorem Ql(a:Int)(b:Str):decide ((Sum.inl a:iW)=Sum.inr b)=false:=gY (fun q=>nomatch q)
theorem Qm(a:Str)(b:Int):decide ((Sum.inr a:iW)=Sum.inl b)=false:=gY (fun q=>nomatch q)
def cZ(prog:bL)(w:World):PySem.KeyKind prog w iW where
 is:=wv
 hash:=Zl w
 inj:=fun v a b ha hb=>by
  rcases eC ha with ⟨i,t,rfl,rfl⟩|⟨x,t,rfl,rfl⟩
  .rcases eC hb with ⟨j,u,rfl,e⟩|⟨y,u,rfl,e⟩
   .injection e with e1 _;rw[e1]
   .exact nomatch e
  .rcases eC hb with ⟨j,u,rfl,e⟩|⟨y,u,rfl,e⟩
   .exact nomatch e
   .injection e with e1 _;rw[e1]
 byValue:=fun k v h=>by
  rcases eC h with ⟨i,t,rfl,rfl⟩|⟨x,t,rfl,rfl⟩ <;> rfl
 pyHash:=fun hv h=>by
  rcases eC hv with ⟨i,t,rfl,rfl⟩|⟨x,t,rfl,rfl⟩
  .exact wpAny_pyHash_int h
  .exact wpAny_pyHash_str h
 eqBool:=fun hu hv h=>by
  rcases eC hu with ⟨i,t,rfl,rfl⟩|⟨x,t,rfl,rfl⟩
  .rcases eC hv with ⟨j,u,rfl,rfl⟩|⟨y,u,rfl,rfl⟩
   .rw[Qj] at h;exact uE h
   .rw[Ql] at h;exact SeqAt.EqAt.int_str i t y u _ _ _ _ h
  .rcases eC hv with ⟨j,u,rfl,rfl⟩|⟨y,u,rfl,rfl⟩
   .rw[Qm] at h;exact SeqAt.EqAt.str_int x t j u _ _ _ _ h
   .rw[Qk] at h;exact wpAny_eqBool_str h
 «strs»:=fun k x t v h=>by
  rcases eC h with ⟨i,u,rfl,e⟩|⟨y,u,rfl,e⟩
  .exact nomatch e
  .injection e with e1 _
   subst e1
   cases v <;> rfl
theorem zE(prog:bL)(w:World)(i:Int)(t:Tok):(cZ prog w).is (.inl i) (.int i t)=true:=F5 i t
theorem zF(prog:bL)(w:World)(x:Str)(t:Tok):(cZ prog w).is (.inr x) (.str x t)=true:=F7 x t
inductive V where
 |cI|bl (b:Bool)|int (i:Int)|str (x:Str)|HY (b:Array UInt8)|Qn (b:UInt64)|ref (a:Addr)|ty (n:String)
 deriving DecidableEq
abbrev rO:=List (Str×V)
abbrev bg:=List V
def bW:V->Value->Prop
 |.cI,u=>u=Value.none
 |.bl b,u=>u=Value.bool b
 |.int i,u=>∃t,u=Value.int i t
 |.str x,u=>∃t,u=Value.str x t
 |.HY b,u=>∃t,u=Value.bytes b t
 |.Qn b,u=>∃t,u=Value.float b t
 |.ref a,u=>u=Value.ref a
 |.ty n,u=>u=Value.type n
abbrev ba:List V->List Value->Prop:=Paired bW
theorem ba.length(r:ba xs us):xs.length=us.length:=Paired.length r
theorem ba.get:∀ {xs:bg} {us:bw} {i:Nat} {x:V},ba xs us->xs[i]?=some x->∃u,us[i]?=some u/\bW x u
 |_,_,_,_,.nil,e=>by simp at e
 |_,_,0,_,.cons r _,e=>by simp at e;subst e;exact⟨_,rfl,r⟩
 |_,_,i+1,x,.cons _ t,e=>by
  obtain⟨u,h1,h2⟩:=ba.get (i:=i) (x:=x) t (by simpa using e);exact⟨u,by simpa using h1,h2⟩
theorem ba.set(r:bW x u):∀ {xs:bg} {us:bw} (i:Nat),ba xs us->ba (xs.set i x) (us.set i u)
 |_,_,_,.nil=>.nil
 |_,_,0,.cons _ t=>.cons r t
 |_,_,i+1,.cons q t=>.cons q (ba.set r i t)
theorem ba.append:∀ {xs ys:bg} {us ws:bw},ba xs us->ba ys ws->ba (xs++ys) (us++ws)
 |_,_,_,_,.nil,s=>s
 |_,_,_,_,.cons r t,s=>.cons r (ba.append t s)
theorem ba.take:∀ {xs:bg} {us:bw} (n:Nat),ba xs us->ba (xs.take n) (us.take n)
 |_,_,0,_=>.nil
 |_,_,_+1,.nil=>.nil
 |_,_,n+1,.cons r t=>.cons r (ba.take n t)
theorem ba.drop:∀ {xs:bg} {us:bw} (n:Nat),ba xs us->ba (xs.drop n) (us.drop n)
 |_,_,0,r=>r
 |_,_,_+1,.nil=>.nil
 |_,_,n+1,.cons _ t=>ba.drop n t
def pc:Option V->Option Value->Prop
 |some v,some u=>bW v u
 |none,none=>True
 |_,_=>False
def KV{κ:Type}:List (κ×V)->List (κ×Value)->Prop:=Paired fun (p:κ×V) (q:κ×Value)=>p.1=q.1/\bW p.2 q.2
def kV:iW->V
 |.inl i=>.int i
 |.inr x=>.str x
inductive HO where
 |lst (xs:bg)
 |tup (xs:bg)
 |dK (dR:List (iW×V))|dT (dR:List (List iW×V))
 |set (S:Int->Bool) (n:Nat)
 |ins (C dx:Addr) (fs:rO)
 |own (x:Addr)
 |xd (fs:rO)
 |met (f x:Addr)
 |Ek (lo hi:Int)
 |zn (o:Obj) (u:HO)
 |jp (ps:bD)
 |ext (φ:Heap->Prop)
abbrev Hp:=Addr->Option HO
abbrev El:=Bool->Hp->Prop
abbrev zG:=List V->Hp->Prop
abbrev rP:=Hp->Prop
def upd(H:Hp)(a:Addr)(o:HO):Hp:=fun b=>if b=a then some o else H b
theorem ae:upd H a o a=some o:=by unfold upd;rw[ap rfl]
theorem aq(h:b≠a):upd H a o b=H b:=by unfold upd;rw[ao h]
theorem mN:upd (upd H a o) a u=upd H a u:=by
 funext b;unfold upd;split <;> rfl
theorem ig{H:Hp}{a b:Addr}{o u:HO}(h:H a=some o)(h':H b=some u)(d:o≠u):a≠b:=by
 intro e;subst e;rw[h] at h';exact d (cB h')
theorem am{H:Hp}{a b:Addr}{o:HO}(h:H a=some o)(h':H b=none):a≠b:=by
 intro e;subst e;rw[h] at h';cases h'
section
variable (P:bL) (w:World)
def l0(h:Heap)(a:Addr)(items:bD):Prop:=∃o,h.get? a=some o/\o.cls=.type "tuple"/\∃n,o.data=.seq items n/\o.dict=none
theorem l0.tup(p:l0 h a items):IsTup h a items:=let ⟨o,e,c,n,d,_⟩:=p;⟨o,e,c,n,d⟩
theorem l0.new(h:Heap)(items:bD):l0 (h.push { cls:=.type "tuple",data:=.seq items }) h.objs.size items:=⟨_,cX _ rfl,rfl,_,rfl,rfl⟩
def dB(H:Hp)(h:Heap)(a:Addr):HO->Prop
 |.lst xs=>xs.length<=sizeLine/\∃ (its:bw) (n:Nat),ba xs its/\h.get? a=some { cls:=.type "list",data:=.seq its.toArray n }
 |.tup xs=>xs.length<=sizeLine/\∃its:List Value,ba xs its/\l0 h a its.toArray
 |.dK dR=>dR.length<=sizeLine/\(a==sysModules)=false/\∃vs,KV dR vs/\h.DictOf (cZ P w) a vs
 |.dT dR=>dR.length<=sizeLine/\(a==sysModules)=false/\∃xs:List (List iW×Addr×Value),
   Paired (fun (p:List iW×V) (q:List iW×Addr×Value)=>p.1=q.1/\H q.2.1=some (.tup (p.1.map kV))/\bW p.2 q.2.2) dR xs/\
   ∃o es ep,h.get? a=some o/\o.ExactDict/\o.data=.dict es ep/\es.toList=xs.map (entryOfKey (tupleKind (cZ P w)))/\(xs.map (·.1)).Nodup
 |.set S n=>h.SetOf (intKind P w) a S n
 |.ins C dx fs=>H dx=some (.own a)/\fs.length<=1000/\dx≠a/\h.get? a=some (W.instObj C dx)/\
   ∃mA,h.Ns1 dx mA/\(∀f,pc (fs.lookup f) (mA f))/\PySem.Within mA (fs.map (·.1))
 |.own _=>∃o,h.get? a=some o
 |.xd fs=>∃mA,h.Ns1 a mA/\∀f,pc (fs.lookup f) (mA f)
 |.Ek lo hi=>∃t u v,h.get? a=some { cls:=.type "range",data:=.fields #[.int lo t,.int hi u,.int 1 v] }
 |.zn o u=>h.get? a=some o/\dB H h a u
 |.jp ps=>h.get? a=some { cls:=.none,data:=.fields ps }
 |.met f x=>h.get? a=some (W.methodObj (.ref f) (.ref x))
 |.ext φ=>φ h/\(∃o,h.get? a=some o)/\∀h1 h2:Heap,φ h1->(∀o,h1.get? a=some o->h2.get? a=some o)->φ h2
def oo(H:Hp)(h:Heap):Prop:=∀a o,H a=some o->dB P w H h a o
end
section
variable {P:bL} {w:World} {H H':Hp} {h h':Heap} {a:Addr} {o:HO}
theorem dB.lt(x:dB P w H h a o):a<h.objs.size:=by
 cases o with
 |lst xs=>obtain⟨_,_,_,_,e⟩:=x;exact aS e
 |tup xs=>obtain⟨_,_,_,p⟩:=x;exact p.tup.lt
 |dK dR=>obtain⟨_,_,_,_,o,_,_,e,_⟩:=x;exact aS e
 |dT dR=>obtain⟨_,_,_,_,o,_,_,e,_⟩:=x;exact aS e
 |set S n=>obtain⟨o,_,_,_,e,_⟩:=x;exact aS e
 |ins C dx fs=>obtain⟨_,_,_,e,_⟩:=x;exact aS e
 |own y=>obtain⟨_,e⟩:=x;exact aS e
 |xd fs=>obtain⟨_,⟨_,_,_,e,_⟩,_⟩:=x;exact aS e
 |Ek lo hi=>obtain⟨_,_,_,e⟩:=x;exact aS e
 |zn ob u=>obtain⟨e,_⟩:=x;exact aS e
 |jp ps=>exact aS (show h.get? a=some _ from x)
 |met f y=>exact aS (show h.get? a=some _ from x)
 |ext φ=>obtain⟨_,⟨_,e⟩,_⟩:=x;exact aS e
theorem Paired.Qo:∀ {l₁:List α} {l₂:List β},Paired F l₁ l₂->(∀a b,F a b->G a b)->Paired G l₁ l₂
 |_,_,.nil,_=>.nil
 |_,_,.cons r t,f=>.cons (f _ _ r) (Paired.Qo t f)
theorem dB.jP(x:dB P w H h a o)(k:∀b u,(b=a\/H b=some (.own a))->h.get? b=some u->h'.get? b=some u)(ho:∀b,H b=some (.own a)->H' b=some (.own a))(ht:∀b xs,H b=some (.tup xs)->H' b=some (.tup xs)):dB P w H' h' a o:=by
 induction o with
 |lst xs=>obtain⟨z,its,n,r,e⟩:=x;exact⟨z,its,n,r,k _ _ (.inl rfl) e⟩
 |tup xs=>obtain⟨z,its,r,ob,e,c⟩:=x;exact⟨z,its,r,ob,k _ _ (.inl rfl) e,c⟩
 |dK dR=>obtain⟨z,y,vs,r,ob,es,ep,e,c⟩:=x;exact⟨z,y,vs,r,ob,es,ep,k _ _ (.inl rfl) e,c⟩
 |dT dR=>
  obtain⟨z,y,xs,r,ob,es,ep,e,c⟩:=x;exact⟨z,y,xs,Paired.Qo r fun p q z=>⟨z.1,ht _ _ z.2.1,z.2.2⟩,ob,es,ep,k _ _ (.inl rfl) e,c⟩
 |set S n=>obtain⟨ob,es,ep,t,e,c⟩:=x;exact⟨ob,es,ep,t,k _ _ (.inl rfl) e,c⟩
 |ins C dx fs=>
  obtain⟨d,z,ne,e,mA,⟨od,es,ep,e2,c⟩,r⟩:=x;exact⟨ho _ d,z,ne,k _ _ (.inl rfl) e,mA,⟨od,es,ep,k _ _ (.inr d) e2,c⟩,r⟩
 |own y=>obtain⟨ob,e⟩:=x;exact⟨ob,k _ _ (.inl rfl) e⟩
 |xd fs=>obtain⟨mA,⟨od,es,ep,e,c⟩,r⟩:=x;exact⟨mA,⟨od,es,ep,k _ _ (.inl rfl) e,c⟩,r⟩
 |Ek lo hi=>obtain⟨t,u,v,e⟩:=x;exact⟨t,u,v,k _ _ (.inl rfl) e⟩
 |zn ob u ih=>obtain⟨e,q⟩:=x;exact⟨k _ _ (.inl rfl) e,ih q⟩
 |jp ps=>
  have e:h.get? a=some { cls:=.none,data:=.fields ps }:=x;show h'.get? a=some { cls:=.none,data:=.fields ps };exact k a _ (.inl rfl) e
 |met f y=>
  have e:h.get? a=some (W.methodObj (.ref f) (.ref y)):=x;show h'.get? a=some (W.methodObj (.ref f) (.ref y));exact k a _ (.inl rfl) e
 |ext φ=>obtain⟨p,⟨o,e⟩,st⟩:=x;exact⟨st _ _ p fun o q=>k _ _ (.inl rfl) q,⟨o,k _ _ (.inl rfl) e⟩,st⟩
theorem oo.lt(x:oo P w H h)(e:H a=some o):a<h.objs.size:=(x a o e).lt
theorem oo.fresh(x:oo P w H h)(e:h.objs.size<=a):H a=none:=by
 cases q:H a with
 |none=>rfl
 |some u=>exact absurd (bv (x.lt q) e) (jd _)
theorem oo.kept(x:oo P w H h)(k:∀b u,h.get? b=some u->h'.get? b=some u):oo P w H h':=fun a o e=>
 (x a o e).jP (fun b u _ q=>k b u q) (fun _ q=>q) fun _ _ q=>q
theorem oo.laid(x:oo P w H h)(k:∀b u,h.get? b=some u->h'.get? b=some u)(hp:h.objs.size<=a)(new:dB P w (upd H a o) h' a o):oo P w (upd H a o) h':=fun b u e=>by
 have hn:=x.fresh hp;by_cases hb:b=a
 .subst hb;rw[ae] at e;cases e;exact new
 .rw[aq hb] at e;exact(x b u e).jP (fun c v _ q=>k c v q) (fun c q=>by rw[aq (am q hn)];exact q) fun c xs q=>by rw[aq (am q hn)];exact q
end
def Rd(H:Hp)(a:Addr)(u:HO):Prop:=H a=some u\/∃o,H a=some (.zn o u)
theorem Rd.ok(r:Rd H a u)(x:oo P w H h):dB P w H h a u:=by
 rcases r with r|⟨o,r⟩
 .exact x a u r
 .obtain⟨_,q⟩:=x a _ r;exact q
def Ys:Option HO->Prop
 |some (.lst _)=>True
 |some (.dK _)=>True
 |some (.dT _)=>True
 |some (.set _ _)=>True
 |some (.ins _ _ _)=>True
 |some (.ext _)=>True
 |_=>False
section
variable {P:bL} {w:World} {H:Hp} {h h':Heap} {x e:Addr} {o':HO}
theorem oo.write(ok:oo P w H h)(mu:Ys (H x))(he:e=x\/H e=some (.own x))(k:∀b u,b≠e->h.get? b=some u->h'.get? b=some u)(Ug:∃u,h'.get? e=some u)(new:dB P w (upd H x o') h' x o'):oo P w (upd H x o') h':=fun b u q=>by
 have UU:∀c y,H c=some (.own y)->c≠x:=fun c y r z=>by subst z;rw[r] at mu;exact mu
 have Zm:∀c xs,H c=some (.tup xs)->c≠x:=fun c xs r z=>by subst z;rw[r] at mu;exact mu
 by_cases hb:b=x
 .subst hb;rw[ae] at q;cases q;exact new
 .rw[aq hb] at q;by_cases LV:b=e
  .have q':H b=some (.own x):=by
    rcases he with z|z
    .exact absurd (LV.trans z) hb
    .rw[LV];exact z
   rw[q] at q';cases q';obtain⟨v,hv⟩:=Ug;exact⟨v,by rw[LV];exact hv⟩
  .refine(ok b u q).jP (fun c v hc r=>k c v ?_ r) (fun c r=>by rw[aq (UU c b r)];exact r) fun c xs r=>by rw[aq (Zm c xs r)];exact r
   rcases hc with rfl|hc
   .exact LV
   .rintro rfl;rcases he with z|z
    .exact UU c b hc z
    .rw[hc] at z;cases z;exact hb rfl
end
structure Un(fs ex:bR)(H H':Hp)(h h':Heap):Prop where
 keep:∀b o,h.get? b=some o->H b=none->b∉fs->b∉ex->h'.get? b=some o
 slot:∀b o,h.get? b=some o->H b=none->b∈fs->b∉ex->∃sl,h'.get? b=some { o with slots:=sl }
 free:∀b o,h.get? b=some o->H b=none->b∉ex->H' b=none
 there:∀b o,h.get? b=some o->b∉ex->∃o',h'.get? b=some o'
 pe:∀b xs,H b=some (.tup xs)->H' b=some (.tup xs)
 xQ:∀b o u,H b=some (.zn o u)->H' b=some (.zn o u)
 xR:∀b ps,H b=some (.jp ps)->∃more,H' b=some (.jp (ps++more))
section
variable {fs fs' ex ex':bR} {H H1 H2:Hp} {h h1 h2 h':Heap} {a x e:Addr} {o:HO}
theorem Un.any(u:Un fs ex H H1 h h1)(q:h.get? b=some ob)(n:H b=none)(hx:b∉ex):∃sl,h1.get? b=some { ob with slots:=sl }:=by
 by_cases hb:b∈fs
 .exact u.slot b ob q n hb hx
 .exact⟨ob.slots,u.keep b ob q n hb hx⟩
theorem Un.kept(k:∀b u,h.get? b=some u->h'.get? b=some u):Un fs ex H H h h':=
 ⟨fun b ob q _ _ _=>k b ob q,fun b ob q _ _ _=>⟨ob.slots,k b ob q⟩,fun _ _ _ n _=>n,fun b ob q _=>⟨ob,k b ob q⟩,fun _ _ q=>q,fun _ _ _ q=>q,fun _ ps q=>⟨#[],by rw[q];simp⟩⟩
theorem Un.refl:Un fs ex H H h h:=Un.kept fun _ _ q=>q
theorem Un.laid(k:∀b u,h.get? b=some u->h'.get? b=some u)(hp:h.objs.size<=a)(hn:H a=none):Un fs ex H (upd H a o) h h' where
 keep:=fun b u q _ _ _=>k b u q
 slot:=fun b u q _ _ _=>⟨u.slots,k b u q⟩
 free:=fun b u q n _=>by rw[aq (bf (bv (aS q) hp))];exact n
 there:=fun b u q _=>⟨u,k b u q⟩
 pe:=fun b xs q=>by rw[aq (am q hn)];exact q
 xQ:=fun b u xs q=>by rw[aq (am q hn)];exact q
 xR:=fun b ps q=>⟨#[],by rw[aq (am q hn),q];simp⟩
theorem Un.write(mu:Ys (H x))(he:e=x\/H e=some (.own x))(k:∀b u,b≠e->h.get? b=some u->h'.get? b=some u)(Ug:∃u,h'.get? e=some u):Un fs ex H (upd H x o) h h':=by
 have hx:∀b,H b=none->b≠x:=fun b n z=>by subst z;rw[n] at mu;exact mu
 have hb:∀b,H b=none->b≠e:=fun b n z=>by
  subst z;rcases he with r|r
  .exact hx b n r
  .rw[n] at r;cases r
 have hm:∀b u,H b=some u->¬ Ys (some u)->b≠x:=fun b u q nm z=>by subst z;rw[q] at mu;exact nm mu
 refine⟨fun b u q n _ _=>k b u (hb b n) q,fun b u q n _ _=>⟨u.slots,k b u (hb b n) q⟩,fun b u q n _=>by rw[aq (hx b n)];exact n,fun b u q _=>?_,
  fun b xs q=>by rw[aq (hm b _ q fun z=>z)];exact q,fun b u xs q=>by rw[aq (hm b _ q fun z=>z)];exact q,fun b ps q=>⟨#[],by rw[aq (hm b _ q fun z=>z),q];simp⟩⟩
 by_cases LV:b=e
 .subst LV;exact Ug
 .exact⟨u,k b u LV q⟩
end
def Yt(h:Heap)(H:Hp):List Addr:=(List.range h.objs.size).filter fun a=>(H a).isSome
def vR(h:Heap)(H:Hp):Heap:=W.hideAll h (Yt h H)
theorem F8(h:Heap)(H:Hp):(vR h H).objs.size=h.objs.size:=W.hideAll_size _ _
theorem IP(e:h.get? b=some o)(n:H b=none):(vR h H).get? b=some o:=
 W.hideAll_get _ e fun hm=>by
  have q:(H b).isSome=true:=(gb.mp hm).2;rw[n] at q;simp at q
theorem Mj(e:(vR h H).get? b=some o):h.get? b=some o/\H b=none:=by
 have e':h.get? b=some o:=W.of_hideAll (Yt h H) e;refine⟨e',?_⟩;cases q:H b with
 |none=>rfl
 |some x=>
  have hm:b∈Yt h H:=gb.mpr ⟨bY.mpr (aS e'),by simp[q]⟩;have z:(vR h H).get? b=none:=W.hideAll_none (Yt h H) hm;rw[z] at e;cases e
def kZ(g h:Heap)(L:Addr):List (Addr×Obj):=(List.range h.objs.size).filterMap fun a=>if a=L\/(g.get? a).isSome=true then none else (h.get? a).map fun o=>(a,o)
theorem l3(h1:a≠L)(h2:g.get? a=none)(h3:h.get? a=some o):(a,o)∈kZ g h L:=
 qz.mpr ⟨a,bY.mpr (aS h3),by simp[h1,h2,h3]⟩
theorem uQ(hp:p∈kZ g h L):p.1≠L/\g.get? p.1=none/\h.get? p.1=some p.2:=by
 obtain⟨b,_,e⟩:=qz.mp hp;split at e
 .cases e
 .rename_i hn;cases q:h.get? b with
  |none=>rw[q] at e;simp at e
  |some u=>
   rw[q] at e;simp only[n0,Option.some.injEq] at e;subst e;refine⟨fun z=>hn (.inl z),?_,q⟩;show g.get? b=none;cases r:g.get? b with
   |none=>rfl
   |some v=>exact(hn (.inr (by simp[r]))).elim
theorem IQ:News g L h (kZ g h L):=fun p hp=>let ⟨a,b,c⟩:=uQ hp;⟨c,a,b⟩
structure Mod(K:a_)(mg:cr)(base:Heap):Prop where
 UV:K.In base
 glob:base.Ns mainGlobals mg
 blt:∃mb,base.Ns builtinsNs mb/\∀x:Str,x≠"__name__"->mb x=bootBuiltins x
 nolimit:base.NoLimit
structure Cx where
 prog:Program
 w:World
 K:W.Frag
 mg:Str->Option Value
 base:Heap
 A:Around
 N:List Str
 s₀:Shared
 H₀:Hp
 env:Env
 outer:List Env
 stack:List Env
 ex:List Addr
 fn:Str->Bool
 calm:Bool
 pn:List (Addr×Obj)
 xe:Value->Shared->Prop
def HZ(l:j9):List Addr:=l.filterMap (·.frame)
abbrev Cx.fs(X:Cx):List Addr:=HZ X.outer
def Uh(sc:Scope)(x:Str):Prop:=sc.names.lookup x=some .local\/sc.names.lookup x=some .cell\/sc.names.lookup x=some .free
def UX(sc:Scope)(x:Str):Prop:=sc.names.lookup x=some .local\/sc.names.lookup x=some .cell
def Zn(env:Env)(h:Heap)(m:cr)(x:Str)(u:Value):Prop:=
 (env.kindOf x=some .local/\m x=some u)\/((env.kindOf x=some .cell\/env.kindOf x=some .free)/\∃c,env.cells.lookup x=some c/\h.IsCell c (some u))
structure Cx.Ok(X:Cx):Prop where
 mod:Mod X.K X.mg X.base
 kind:X.env.scope.kind=.function
 glob:X.env.globals=mainGlobals
 blt:X.env.builtins=builtinsNs
 above:X.s₀.heap.objs.size<=X.env.locals
 inj:∀x y c,X.env.cells.lookup x=some c->X.env.cells.lookup y=some c->x=y
 has:∀x,(X.env.kindOf x=some .cell\/X.env.kindOf x=some .free)->∃c,X.env.cells.lookup x=some c
 UY:∀x c,X.fn x=true->X.env.cells.lookup x=some c->X.s₀.heap.objs.size<=c
 hd:X.calm=true->X.A.handled=none
 frames:X.A.frames=some X.stack
 Ui:X.stack=X.outer\/(X.stack=X.env::X.outer/\X.env.frame=some X.env.locals)
 Zo:∀b∈X.ex,b≠X.env.locals/\∀x c,X.env.cells.lookup x=some c->c≠b
 bs:∀b o,X.base.get? b=some o->X.s₀.heap.get? b=some o/\X.H₀ b=none
 IR:X.base.objs.size<=X.s₀.heap.objs.size
 IS:∀b o,X.base.get? b=some o->b∉X.ex
 Ml:∀b∈X.ex,b∉X.fs
 sw:X.s₀.heap.FunFrames X.base X.outer
 Qp:∀b∈X.fs,X.H₀ b=none
structure aU(X:Cx)(af:cE)(σ:List (Option V))(H:Hp)(s:aR):Prop where
 ok:X.Ok
 os:s.os=X.s₀.os
 bare:AllBare s.gens
 base:Un X.fs X.ex X.H₀ H X.s₀.heap s.heap
 loc:∃m,s.heap.Ns X.env.locals m/\∀ (i:Nat) (x:Str) (v:V),X.N[i]?=some x->σ[i]?=some (some v)->Uh X.env.scope x->∃u,bW v u/\Zn X.env s.heap m x u
 cell:∀x c,X.env.cells.lookup x=some c->∃v,s.heap.IsCell c v
 free:H X.env.locals=none
 l4:∀x c,X.env.cells.lookup x=some c->H c=none
 pin:∀p∈X.pn++af,s.heap.get? p.1=some p.2/\H p.1=none/\p.1≠X.env.locals/\p.1∉X.fs/\∀v,p.2.data≠.cell v
 cY:oo X.prog X.w H s.heap
 len:σ.length=X.N.length
section
variable {X:Cx} {af:cE} {σ:List (Option V)} {H H':Hp} {s:aR} {h':Heap}
theorem Cx.Ok.Zp(ok:X.Ok)(e:X.base.get? b=some o):b∉X.fs:=fun hb=>by
 have:=(ok.sw.mem hb).1;rw[e] at this;cases this
theorem aU.bs(I:aU X af σ H s):∀b o,X.base.get? b=some o->s.heap.get? b=some o/\H b=none:=fun b o e=>
 ⟨I.base.keep b o (I.ok.bs b o e).1 (I.ok.bs b o e).2 (I.ok.Zp e) (I.ok.IS b o e),I.base.free b o (I.ok.bs b o e).1 (I.ok.bs b o e).2 (I.ok.IS b o e)⟩
theorem aU.bk(I:aU X af σ H s):∀b o,X.base.get? b=some o->s.heap.get? b=some o:=fun b o e=>(I.bs b o e).1
theorem aU.mod(I:aU X af σ H s):Mod X.K X.mg X.base:=I.ok.mod
theorem aU.pf(I:aU X af σ H s):X.K.In s.heap:=I.ok.mod.UV.keeps I.bk
theorem aU.nolimit(I:aU X af σ H s):s.heap.NoLimit:=I.ok.mod.nolimit.keeps I.bk
theorem aU.fr(I:aU X af σ H s):∃m,Fr X.base X.env.locals s.heap m:=
 let ⟨m,hn,_⟩:=I.loc
 ⟨m,hn,I.bk,aZ I.ok.IR I.ok.above⟩
theorem aU.lt(I:aU X af σ H s):X.env.locals<s.heap.objs.size:=let ⟨_,hn,_⟩:=I.loc;hn.lt
theorem aU.sz(I:aU X af σ H s):X.s₀.heap.objs.size<=s.heap.objs.size:=aZ I.ok.above (kX I.lt)
theorem aU.Zq(I:aU X af σ H s)(h:s.heap.objs.size<=a):a∉X.fs:=fun hb=>by
 obtain⟨_,o,ho,_⟩:=I.ok.sw.mem hb;exact absurd (bv (aS ho) (aZ I.sz h)) (jd _)
theorem aU.Qq(I:aU X af σ H s):∀x c,X.env.cells.lookup x=some c->c≠X.env.locals:=fun x c e z=>by
 obtain⟨v,o,ho,hd⟩:=I.cell x c e;obtain⟨m,⟨o',es,ep,Mm,Mn,_⟩,_⟩:=I.loc;rw[z,Mm] at ho;cases ho;rw[Mn] at hd;cases hd
theorem aU.sw(I:aU X af σ H s):s.heap.FunFrames X.base X.outer:=by
 have all:∀ (l:j9),(∀b∈HZ l,b∈X.fs)->X.s₀.heap.FunFrames X.base l->s.heap.FunFrames X.base l:=by
  intro l;induction l with
  |nil=>intro _ _;trivial
  |cons env r ih=>
   intro hs hl;obtain⟨hk,⟨L,o,hf,hn,ho,hd⟩,hr⟩:=hl;have hL:L∈X.fs:=hs L (by unfold HZ;rw[BV,hf];exact cK);obtain⟨sl,e⟩:=I.base.slot L o ho (I.ok.Qp L hL) hL fun z=>I.ok.Ml L z hL;exact⟨hk,⟨L,_,hf,hn,e,hd⟩,ih (fun b hb=>hs b (by unfold HZ;rw[BV,hf];exact dq _ hb)) hr⟩
 exact all X.outer (fun _ hb=>hb) I.ok.sw
theorem aU.stack(I:aU X af σ H s):s.heap.FunFrames X.base X.stack:=by
 rcases I.ok.Ui with e|⟨e,hf⟩
 .rw[e];exact I.sw
 .rw[e];obtain⟨m,hn,_⟩:=I.loc;refine .cons (by rw[I.ok.kind];decide) hf hn ?_ I.sw;exact qx (aZ I.ok.IR I.ok.above)
theorem aU.xS(I:aU X af σ H s):∀b∈HZ X.stack,b∈X.env.locals::X.fs:=fun b hb=>by
 rcases I.ok.Ui with e|⟨e,hf⟩
 .rw[e] at hb;exact dq _ hb
 .rw[e] at hb;unfold HZ at hb;rw[BV,hf] at hb;exact hb
theorem aU.xT(I:aU X af σ H s):∀b∈HZ X.stack,H b=none:=fun b hb=>by
 rcases bq.mp (I.xS b hb) with e|hb
 .rw[e];exact I.free
 .obtain⟨_,o,ho,_⟩:=I.ok.sw.mem hb;exact I.base.free b o ho (I.ok.Qp b hb) fun z=>I.ok.Ml b z hb
theorem aU.step{g':Array GenState}{t':Nat}{d':Drawn}{ch:bR}(I:aU X af σ H s)(LW:∀b∈ch,(b∈X.ex\/X.s₀.heap.objs.size<=b)/\b≠X.env.locals/\(∀x c,X.env.cells.lookup x=some c->c≠b)/\∀p∈X.pn++af,p.1≠b)(keep:∀b o,b≠X.env.locals->b∉X.fs->b∉ch->s.heap.get? b=some o->H b=none->h'.get? b=some o)(slot:∀b o,b≠X.env.locals->b∈X.fs->b∉ch->s.heap.get? b=some o->H b=none->∃sl,h'.get? b=some { o with slots:=sl })(free:∀b o,b∉ch->s.heap.get? b=some o->H b=none->H' b=none)(there:∀b o,b∉ch->s.heap.get? b=some o->∃o',h'.get? b=some o')(pe:∀b xs,H b=some (.tup xs)->H' b=some (.tup xs))(xQ:∀b o u,H b=some (.zn o u)->H' b=some (.zn o u))(xR:∀b ps,H b=some (.jp ps)->∃more,H' b=some (.jp (ps++more)))(ns:∀m,s.heap.Ns X.env.locals m->h'.Ns X.env.locals m)(cY:oo X.prog X.w H' h')(hg:AllBare g'):
  aU X af σ H' { s with heap:=h',gens:=g',drawn:=d',toks:=t' }:=by
 have neL:∀b o,X.s₀.heap.get? b=some o->b≠X.env.locals:=fun b o e=>bf (bv (aS e) I.ok.above);have Yu:∀b o,X.s₀.heap.get? b=some o->b∉X.ex->b∉ch:=fun b o e hx hb=>by
  rcases(LW b hb).1 with z|z
  .exact hx z
  .exact absurd (bv (aS e) z) (jd _)
 have O4:∀x c,X.env.cells.lookup x=some c->∀v,s.heap.IsCell c v->h'.IsCell c v:=fun x c e v ⟨o,ho,hd⟩=>by
  have UZ:c∉ch:=fun z=>(LW c z).2.2.1 x c e rfl;by_cases hc:c∈X.fs
  .obtain⟨sl,q⟩:=slot c o (I.Qq x c e) hc UZ ho (I.l4 x c e);exact⟨_,q,hd⟩
  .exact⟨o,keep c o (I.Qq x c e) hc UZ ho (I.l4 x c e),hd⟩
 refine⟨I.ok,I.os,hg,⟨fun b o e n hb hx=>?_,fun b o e n hb hx=>?_,fun b o e n hx=>?_,fun b o e hx=>?_,fun b xs e=>pe b xs (I.base.pe b xs e),fun b o xs e=>xQ b o xs (I.base.xQ b o xs e),fun b ps e=>?_⟩,?_,fun x c e=>?_,?_,fun x c e=>?_,fun p hp=>?_,cY,I.len⟩
 .exact keep b o (neL b o e) hb (Yu b o e hx) (I.base.keep b o e n hb hx) (I.base.free b o e n hx)
 .obtain⟨sl,e1⟩:=I.base.slot b o e n hb hx;obtain⟨Zr,e2⟩:=slot b _ (neL b o e) hb (Yu b o e hx) e1 (I.base.free b o e n hx);exact⟨Zr,e2⟩
 .obtain⟨o',e1⟩:=I.base.there b o e hx;exact free b o' (Yu b o e hx) e1 (I.base.free b o e n hx)
 .obtain⟨o',e1⟩:=I.base.there b o e hx;exact there b o' (Yu b o e hx) e1
 .obtain⟨m1,e1⟩:=I.base.xR b ps e;obtain⟨m2,e2⟩:=xR b _ e1;exact⟨m1++m2,by rw[e2,Array.append_assoc]⟩
 .obtain⟨m,hn,hl⟩:=I.loc;refine⟨m,ns m hn,fun i x v e1 e2 e3=>?_⟩;obtain⟨u,r,l⟩:=hl i x v e1 e2 e3;refine⟨u,r,?_⟩;rcases l with l|⟨k,c,e,z⟩
  .exact .inl l
  .exact .inr ⟨k,c,e,O4 x c e _ z⟩
 .obtain⟨v,z⟩:=I.cell x c e;exact⟨v,O4 x c e v z⟩
 .obtain⟨m,⟨o,_,_,ho,_⟩,_⟩:=I.loc;exact free _ o (fun z=>(LW _ z).2.1 rfl) ho I.free
 .obtain⟨v,o,ho,hd⟩:=I.cell x c e;exact free c o (fun z=>(LW c z).2.2.1 x c e rfl) ho (I.l4 x c e)
 .obtain⟨e,n,ne,nf,d⟩:=I.pin p hp;have UZ:p.1∉ch:=fun z=>(LW p.1 z).2.2.2 p hp rfl;exact⟨keep p.1 p.2 ne nf UZ e n,free p.1 p.2 UZ e n,ne,nf,d⟩
theorem aU.un{t':Nat}(I:aU X af σ H s)(u:Un X.fs [] H H' s.heap h')(cY:oo X.prog X.w H' h'):aU X af σ H' { s with heap:=h',toks:=t' }:=by
 obtain⟨m,⟨o,es,ep,ho,r⟩,_⟩:=id I.loc;obtain⟨sl,hL⟩:=u.any ho I.free (by simp);exact I.step (g':=s.gens) (d':=s.drawn) (ch:=[]) (fun _ z=>nomatch z) (fun b o _ hb _ e n=>u.keep b o e n hb (by simp)) (fun b o _ hb _ e n=>u.slot b o e n hb (by simp)) (fun b o _ e n=>u.free b o e n (by simp)) (fun b o _ e=>u.there b o e (by simp)) u.pe u.xQ u.xR (fun m' hm=>by
  obtain⟨o',Bi,U0,Mm,r'⟩:=hm;rw[ho] at Mm;cases Mm;exact⟨_,Bi,U0,hL,r'⟩) cY I.bare
theorem aU.call{g':Array GenState}{t':Nat}{d':Drawn}{ch:bR}(I:aU X af σ H s)(u:Un (HZ X.stack) ch H H' s.heap h')(cY:oo X.prog X.w H' h')(hg:AllBare g')(LW:∀b∈ch,(b∈X.ex\/X.s₀.heap.objs.size<=b)/\b≠X.env.locals/\(∀x c,X.env.cells.lookup x=some c->c≠b)/\∀p∈X.pn++af,p.1≠b):
  aU X af σ H' { s with heap:=h',gens:=g',drawn:=d',toks:=t' }:=by
 obtain⟨m,⟨o,es,ep,ho,r⟩,_⟩:=id I.loc;obtain⟨sl,hL⟩:=u.any ho I.free fun z=>(LW _ z).2.1 rfl;exact I.step (ch:=ch) LW (fun b o hL hb hc e n=>u.keep b o e n (fun z=>(bq.mp (I.xS b z)).elim hL hb) hc) (fun b o _ _ hc e n=>u.any e n hc) (fun b o hc e n=>u.free b o e n hc) (fun b o hc e=>u.there b o e hc) u.pe u.xQ u.xR (fun m' hm=>by
  obtain⟨o',Bi,U0,Mm,r'⟩:=hm;rw[ho] at Mm;cases Mm;exact⟨_,Bi,U0,hL,r'⟩) cY hg
theorem aU.turned{t':Nat}{it:Addr}(I:aU X af σ H s)(k:∀b o,b≠it->s.heap.get? b=some o->h'.get? b=some o)(hn:H it=none)(hL:it≠X.env.locals)(h1:it∈X.ex\/X.s₀.heap.objs.size<=it)(h2:∀x c,X.env.cells.lookup x=some c->c≠it)(h3:∀p∈X.pn++af,p.1≠it):aU X af σ H { s with heap:=h',toks:=t' }:=by
 have O5:∀b u,H b=some u->b≠it:=fun b u e z=>by rw[z,hn] at e;cases e
 refine I.step (g':=s.gens) (d':=s.drawn) (ch:=[it]) (fun b hb=>?_) (fun b o _ _ hc e _=>k b o (fun z=>hc (by simp[z])) e) (fun b o _ _ hc e _=>⟨o.slots,k b o (fun z=>hc (by simp[z])) e⟩) (fun _ _ _ _ n=>n)
  (fun b o hc e=>⟨o,k b o (fun z=>hc (by simp[z])) e⟩) (fun _ _ e=>e) (fun _ _ _ e=>e) (fun b ps e=>⟨#[],by rw[e];simp⟩) (fun m hm=>?_) (fun b u e=>?_) I.bare
 .have e:b=it:=by simpa using hb
  subst e;exact⟨h1,hL,h2,h3⟩
 .obtain⟨o,es,ep,ho,r⟩:=hm;exact⟨o,es,ep,k _ o (dI hL) ho,r⟩
 .refine(I.cY b u e).jP (fun c v hc q=>k c v ?_ q) (fun _ q=>q) fun _ _ q=>q;rcases hc with z|z
  .rw[z];exact O5 b u e
  .exact O5 c _ z
theorem aU.tok(I:aU X af σ H s)(t:Nat):aU X af σ H { s with toks:=t }:=I.un (h':=s.heap) (t':=t) Un.refl I.cY
theorem aU.kept(I:aU X af σ H s)(k:∀b u,s.heap.get? b=some u->h'.get? b=some u):aU X af σ H { s with heap:=h',toks:=t' }:=I.un (Un.kept k) (I.cY.kept k)
theorem aU.laid(I:aU X af σ H s)(k:∀b u,s.heap.get? b=some u->h'.get? b=some u)(hp:s.heap.objs.size<=a)(new:dB X.prog X.w (upd H a o) h' a o):
  aU X af σ (upd H a o) { s with heap:=h',toks:=t' }:=I.un (Un.laid k hp (I.cY.fresh hp)) (I.cY.laid k hp new)
theorem aU.write(I:aU X af σ H s)(mu:Ys (H x))(he:e=x\/H e=some (.own x))(k:∀b u,b≠e->s.heap.get? b=some u->h'.get? b=some u)(Ug:∃u,h'.get? e=some u)(new:dB X.prog X.w (upd H x o) h' x o):aU X af σ (upd H x o) { s with heap:=h',toks:=t' }:=I.un (Un.write mu he k Ug) (I.cY.write mu he k Ug new)
theorem aU.ph(I:aU X af σ H s)(h:∀p∈pins',s.heap.get? p.1=some p.2/\H p.1=none/\p.1≠X.env.locals/\p.1∉X.fs/\∀v,p.2.data≠.cell v):aU X pins' σ H s:=
 ⟨I.ok,I.os,I.bare,I.base,I.loc,I.cell,I.free,I.l4,fun p hp=>(cL.mp hp).elim (fun z=>I.pin p (gC _ z)) (h p),I.cY,I.len⟩
theorem zH{N:bQ}(hN:N.Nodup){i j:Nat}{x:Str}(a:N[i]?=some x)(b:N[j]?=some x):i=j:=by
 obtain⟨h1,e1⟩:=eR.mp a;obtain⟨h2,e2⟩:=eR.mp b;exact(List.getElem_inj hN).mp (e1.trans e2.symm)
theorem ww{M:Model}{A:br}{E:bV}{i:Nat}{x:Str}{v:V}{u:Value}{Q:Unit->Shared->Prop}(I:aU X af σ H s)(hN:X.N.Nodup)(hi:X.N[i]?=some x)(hx:UX X.env.scope x)(r:bW v u)(h:∀s',aU X af (σ.set i (some v)) H s'->(∃a,Heap.SameBut a s.heap s'.heap/\(a=X.env.locals\/X.env.cells.lookup x=some a))->Q () s')(hf:X.fn x=true\/X.env.scope.names.lookup x=some .local:=by first|exact .inl rfl|exact .inr rfl|assumption):wpAny M A (storeName X.env x u) Q E s:=by
 obtain⟨m,hn,hl⟩:=id I.loc;have Zt:(X.env.scope.kind==.class||(X.env.scope.kind==.module&&X.env.locals != X.env.globals))=false:=by rw[I.ok.kind];rfl
 have hiσ:i<σ.length:=by rw[I.len];exact(eR.mp hi).1
 have Qq:=I.Qq;have Em:∀ {a:Addr} {h':Heap},(∃o,s.heap.get? a=some o/\H a=none)->Heap.SameBut a s.heap h'->oo X.prog X.w H h':=fun {a h'} ha hs b ob e=>by
  obtain⟨_,_,O6⟩:=ha;refine(I.cY b ob e).jP (fun c w' hc q=>(hs.2 c ?_).trans q) (fun _ q=>q) fun _ _ q=>q;rintro rfl;rcases hc with rfl|hc
  .rw[O6] at e;cases e
  .rw[O6] at hc;cases hc
 rcases hx with hk|hk
 .refine wpAny_storeName_local hk hn (fun h' U1 hs=>?_) Zt;obtain⟨oL,_,_,wx,_⟩:=id hn;refine h _ ⟨I.ok,I.os,I.bare,⟨fun b o e n hb hx=>?_,fun b o e n hb hx=>?_,I.base.free,fun b o e hx=>?_,I.base.pe,I.base.xQ,I.base.xR⟩,⟨_,U1,fun j y v' e1 e2 e3=>?_⟩,fun y c e=>?_,I.free,I.l4,fun p hp=>?_,Em ⟨oL,wx,I.free⟩ hs,by simpa using I.len⟩ ⟨_,hs,.inl rfl⟩
  .exact(hs.2 b (bf (bv (aS e) I.ok.above))).trans (I.base.keep b o e n hb hx)
  .obtain⟨sl,e1⟩:=I.base.slot b o e n hb hx;exact⟨sl,(hs.2 b (bf (bv (aS e) I.ok.above))).trans e1⟩
  .obtain⟨o',e1⟩:=I.base.there b o e hx;exact⟨o',(hs.2 b (bf (bv (aS e) I.ok.above))).trans e1⟩
  .by_cases hj:j=i
   .subst hj;rw[hi] at e1;cases e1;rw[qu hiσ] at e2;cases e2;exact⟨u,r,.inl ⟨hk,by simp⟩⟩
   .rw[qv (dI hj)] at e2;obtain⟨u',r',q⟩:=hl j y v' e1 e2 e3;refine⟨u',r',?_⟩;rcases q with ⟨k,e⟩|⟨k,c,e,z⟩
    .refine .inl ⟨k,?_⟩;have:y≠x:=fun e=>hj (zH hN e1 (e ▸ hi));simp[this,e]
    .exact .inr ⟨k,c,e,z.sameBut hs (Qq y c e)⟩
  .obtain⟨w',z⟩:=I.cell y c e;exact⟨w',z.sameBut hs (Qq y c e)⟩
  .obtain⟨e,n,ne,nf,d⟩:=I.pin p hp;exact⟨(hs.2 p.1 ne).trans e,n,ne,nf,d⟩
 .have Zu:X.fn x=true:=by
   rcases hf with z|z
   .exact z
   .rw[z] at hk;cases hk
  obtain⟨c,hc⟩:=I.ok.has x (.inl hk);obtain⟨w',z⟩:=I.cell x c hc;refine wpAny_storeName_cell I.ok.kind hk hc z (fun h' zI hs=>?_);obtain⟨oc,Yv,Zv⟩:=id z;refine h { s with heap:=h' } ⟨I.ok,I.os,I.bare,⟨fun b o e n hb hx=>?_,fun b o e n hb hx=>?_,I.base.free,fun b o e hx=>?_,I.base.pe,I.base.xQ,I.base.xR⟩,⟨m,hn.sameBut hs (dI (Qq x c hc)),fun j y v' e1 e2 e3=>?_⟩,fun y c' e=>?_,I.free,I.l4,fun p hp=>?_,Em ⟨oc,Yv,I.l4 x c hc⟩ hs,by simpa using I.len⟩ ⟨c,hs,.inr hc⟩
  .exact(hs.2 b (bf (bv (aS e) (I.ok.UY x c Zu hc)))).trans (I.base.keep b o e n hb hx)
  .obtain⟨sl,e1⟩:=I.base.slot b o e n hb hx;exact⟨sl,(hs.2 b (bf (bv (aS e) (I.ok.UY x c Zu hc)))).trans e1⟩
  .obtain⟨o',e1⟩:=I.base.there b o e hx;exact⟨o',(hs.2 b (bf (bv (aS e) (I.ok.UY x c Zu hc)))).trans e1⟩
  .by_cases hj:j=i
   .subst hj;rw[hi] at e1;cases e1;rw[qu hiσ] at e2;cases e2;exact⟨u,r,.inr ⟨.inl hk,c,hc,zI⟩⟩
   .rw[qv (dI hj)] at e2;obtain⟨u',r',q⟩:=hl j y v' e1 e2 e3;refine⟨u',r',?_⟩;rcases q with q|⟨k,c',e,z'⟩
    .exact .inl q
    .refine .inr ⟨k,c',e,z'.sameBut hs ?_⟩;rintro rfl;exact hj (zH hN e1 (I.ok.inj _ _ _ e hc ▸ hi))
  .by_cases hcc:c'=c
   .subst hcc;exact⟨_,zI⟩
   .obtain⟨w2,z2⟩:=I.cell y c' e;exact⟨w2,z2.sameBut hs hcc⟩
  .obtain⟨e,n,ne,nf,d⟩:=I.pin p hp;refine⟨(hs.2 p.1 ?_).trans e,n,ne,nf,d⟩;intro q;rw[q,Yv] at e;have q':oc=p.2:=cB e;exact d w' (by rw[<-q'];exact Zv)
theorem ir(I:aU X af σ H s)(hN:X.N.Nodup)(hi:X.N[i]?=some x)(hx:UX X.env.scope x)(r:bW v u)(h:∀s',aU X af (σ.set i (some v)) H s'->Q () s')(hf:X.fn x=true\/X.env.scope.names.lookup x=some .local:=by first|exact .inl rfl|exact .inr rfl|assumption):wpAny M A (storeName X.env x u) Q E s:=
 ww I hN hi hx r (fun s' I' _=>h s' I') hf
theorem aU.O7(I:aU X af σ H s)(ho:s'.os=s.os)(u:Un (HZ X.stack) ch H H' s.heap s'.heap)(cY:oo X.prog X.w H' s'.heap)(hg:AllBare s'.gens)(LW:∀b∈ch,(b∈X.ex\/X.s₀.heap.objs.size<=b)/\b≠X.env.locals/\(∀x c,X.env.cells.lookup x=some c->c≠b)/\∀p∈X.pn++af,p.1≠b):aU X af σ H' s':=by
 obtain⟨h',g',d',t',o'⟩:=s';have e:o'=s.os:=ho;subst e;exact I.call (g':=g') (t':=t') (d':=d') u cY hg LW
end
abbrev XK:=Value->Option Addr->Hp->Prop
abbrev St:=List (Option V)
abbrev IT:=Nat->St->Hp->Prop
abbrev zJ:=Nat->List V->St->Hp->Prop
abbrev rQ:=St->Prop
abbrev j_:=V->St->Hp->Prop
abbrev iu:=St->Hp->Prop
abbrev VK:=V->Hp->Prop
abbrev TE:=St->Hp->VK->Prop
abbrev TT:=St->Hp->(Bool->Hp->Prop)->Prop
abbrev TA:=St->Hp->(List V->Hp->Prop)->Prop
structure Cn where
 nx:St->Hp->Prop
 rt:VK
 bk:St->Hp->Prop:=fun _ _=>False
 ct:St->Hp->Prop:=fun _ _=>False
abbrev TS:=Cn->St->Hp->Prop
def EP(X:Cx)(af:cE)(σ:St)(Q:VK)(u:Value)(s':aR):Prop:=∃v H',aU X af σ H' s'/\bW v u/\Q v H'
def TP(X:Cx)(af:cE)(σ:St)(Q:El)(b:Bool)(s':aR):Prop:=∃H',aU X af σ H' s'/\Q b H'
def AP(X:Cx)(af:cE)(σ:St)(Q:zG)(us:bw)(s':aR):Prop:=∃vs H',aU X af σ H' s'/\ba vs us/\Q vs H'
def SP(X:Cx)(af:cE)(D:Cn)(f:Flow)(s':aR):Prop:=
 match f with
 |.next=>∃σ' H',aU X af σ' H' s'/\D.nx σ' H'
 |.brk=>∃σ' H',aU X af σ' H' s'/\D.bk σ' H'
 |.cont=>∃σ' H',aU X af σ' H' s'/\D.ct σ' H'
 |.ret u=>∃v σ' H',aU X af σ' H' s'/\bW v u/\D.rt v H'
def PE(X:Cx)(e:Expr)(t:TE):Prop:=
 ∀ (af:cE) (s:aR) (σ:St) (H:Hp) (Q:VK),aU X af σ H s->t σ H Q->wpAny (model X.prog X.w) X.A (eval e X.env) (EP X af σ Q) X.xe s
def PT(X:Cx)(e:Expr)(t:TT):Prop:=
 ∀ (af:cE) (s:aR) (σ:St) (H:Hp) (Q:El),aU X af σ H s->t σ H Q->wpAny (model X.prog X.w) X.A (isTrue e X.env (eval e X.env)) (TP X af σ Q) X.xe s
def PW(X:Cx)(e:Expr)(t:TT):Prop:=
 ∀ (En:Sem Value) (af:cE) (s:aR) (σ:St) (H:Hp) (Q:El),aU X af σ H s->t σ H Q->wpAny (model X.prog X.w) X.A (isTrue e X.env En) (TP X af σ Q) X.xe s
theorem PW.pt(h:PW X e t):PT X e t:=h _
def PA(X:Cx)(es:gZ)(t:TA):Prop:=
 ∀ (pos:Pos) (af:cE) (s:aR) (σ:St) (H:Hp) (Q:zG),aU X af σ H s->t σ H Q->wpAny (model X.prog X.w) X.A (spliced (backTo pos (starEach es X.env))) (AP X af σ Q) X.xe s
def PS(X:Cx)(st:Stmt)(t:TS):Prop:=
 ∀ (af:cE) (s:aR) (σ:St) (H:Hp) (D:Cn),aU X af σ H s->t D σ H->wpAny (model X.prog X.w) X.A (exec st X.env) (SP X af D) X.xe s
def Co(X:Cx)(st:List Stmt)(t:TS):Prop:=
 ∀ (af:cE) (s:aR) (σ:St) (H:Hp) (D:Cn),aU X af σ H s->t D σ H->wpAny (model X.prog X.w) X.A (execs st X.env) (SP X af D) X.xe s
theorem eD(h:wpAny M A t Q E s)(hQ:∀a s,Q a s->Q' a s):wpAny M A t Q' E s:=jL h hQ fun _ _ x=>x
section
variable {X:Cx}
def bb(i:Nat):TE:=fun σ H Q=>∃v,σ[i]?=some (some v)/\Q v H
def tC(v:V):TE:=fun _ H Q=>Q v H
theorem Qr(hN:X.N[i]?=some x)(hv:Uh X.env.scope x)(hd:(x==("__debug__":Str))=false:=by decide)(wz:(x==("__classdict__":Str))=false:=by decide):PE X (.Name x pos) (bb i):=by
 intro af s σ H Q I h;obtain⟨v,e,h⟩:=h;obtain⟨m,hn,hl⟩:=I.loc;obtain⟨u,r,l⟩:=hl i x v hN e hv;have d_:EP X af σ Q u s:=⟨v,H,I,r,h⟩
 rcases l with ⟨hk,hm⟩|⟨hk,c,hc,Eo⟩
 .exact qS (B3 I.ok.kind hk hn hm d_) hd
 .rcases hk with hk|hk
  .exact qS (wpAny_loadName_cell I.ok.kind hk hc Eo d_) hd
  .exact qS (B7 I.ok.kind hk hc Eo d_ wz) hd
theorem az{i j pos}:PE X (.Constant (.int i) j pos) (tC (.int i)):=fun _ _ _ H _ I h=>wpAny_Constant_int ⟨.int i,H,I.tok _,⟨_,rfl⟩,h⟩
theorem Ep{b j pos}:PE X (.Constant (.bool b) j pos) (tC (.bl b)):=fun _ _ _ H _ I h=>Constant_bool ⟨.bl b,H,I,rfl,h⟩
theorem ij{j pos}:PE X (.Constant .none j pos) (tC .cI):=fun _ _ _ H _ I h=>Constant_none ⟨.cI,H,I,rfl,h⟩
def Gl(X:Cx)(x:Str):Prop:=X.env.kindOf x=some .globalImplicit
theorem tH(I:aU X af σ H s)(hg:Gl X x)(hm:X.mg x=some u)(h:Q u s)(hd:(x==("__debug__":Str))=false:=by decide):wpAny (model X.prog X.w) X.A (eval (.Name x pos) X.env) Q E s:=
 Calls.Name_function_global I.ok.kind hg (Calls.loadGlobal_global (by rw[I.ok.glob];exact I.mod.glob.keeps I.bk) hm h) hd
theorem jQ(I:aU X af σ H s)(hg:Gl X x)(hm:X.mg x=none)(hv:bootBuiltins x=some u)(h:Q u s)(hn:x≠"__name__":=by decide)(hd:(x==("__debug__":Str))=false:=by decide):wpAny (model X.prog X.w) X.A (eval (.Name x pos) X.env) Q E s:=by
 obtain⟨mb,h1,h2⟩:=I.mod.blt;exact Calls.Name_function_global I.ok.kind hg (Calls.loadGlobal_builtin (by rw[I.ok.glob];exact I.mod.glob.keeps I.bk) hm (by rw[I.ok.blt];exact h1.keeps I.bk) ((h2 x hn).trans hv) h) hd
theorem tI(hg:Gl X x)(hm:X.mg x=some u)(r:bW v u)(hd:(x==("__debug__":Str))=false:=by decide):PE X (.Name x pos) (tC v):=
 fun _ _ _ H _ I h=>tH I hg hm ⟨v,H,I,r,h⟩ hd
theorem k4(hg:Gl X x)(hm:X.mg x=none)(hv:bootBuiltins x=some u)(r:bW v u)(hn:x≠"__name__":=by decide)(hd:(x==("__debug__":Str))=false:=by decide):PE X (.Name x pos) (tC v):=
 fun _ _ _ H _ I h=>jQ I hg hm hv ⟨v,H,I,r,h⟩ hn hd
variable {a b:Expr} {ta tb:TE} {pos:Pos}
def PC(X:Cx)(op:CmpOp)(a b:Expr)(t:TE):Prop:=
 ∀ (af:cE) (s:aR) (σ:St) (H:Hp) (Q:VK),aU X af σ H s->t σ H Q->
  wpAny (model X.prog X.w) X.A (eval a X.env) (fun v s₁=>wpAny (model X.prog X.w) X.A (eval b X.env) (fun u s₂=>wpAny (model X.prog X.w) X.A (compareOp op v u) (EP X af σ Q) X.xe s₂) X.xe s₁) X.xe s
def tB(t:TE):TT:=fun σ H Q=>t σ H fun x H1=>∃c,x=.bl c/\Q c H1
theorem Qs(h:PC X op a b t)(h1:behindInMarks op b=false:=by first|exact U2 _ (by decide) (by decide)|rfl):PT X (.Compare a [op] [b] pos) (tB t):=by
 intro af s σ H Q I hw;refine wpAny_isTrue_Compare1 (eD (h af s σ H _ I hw) fun v s1 h1=>eD h1 fun u s2 h2=>eD h2 fun c s3 ⟨x,H1,I1,r1,q1⟩=>?_) h1;obtain⟨d,rfl,q⟩:=q1;cases r1;exact qF ⟨H1,I1,q⟩
theorem jR(h:PE X e t)(he:∀En,isTrue e X.env En=(do let v <- En;standAt e.pos;holding [v] (truthy v)):=by intro _;rfl):PT X e (tB t):=by
 intro af s σ H Q I hw;refine isTrue_plain (eD (h af s σ H _ I hw) fun v s1 ⟨x,H1,I1,r1,q1⟩=>?_) (he _);obtain⟨d,rfl,q⟩:=q1;cases r1;exact qF ⟨H1,I1,q⟩
variable {tA Yw:TT} {rest:gZ}
def Zw(t u:TT):TT:=fun σ H Q=>t σ H fun c H1=>if c=true then u σ H1 Q else Q false H1
def tOr(t u:TT):TT:=fun σ H Q=>t σ H fun c H1=>if c=true then Q true H1 else u σ H1 Q
def Zx(t:TT):TT:=fun σ H Q=>t σ H fun c H1=>Q (!c) H1
theorem tJ(ha:PT X a tA):PW X (.BoolOp .And [a] pos) tA:=by
 intro wh af s σ H Q I h;refine isTrue_and (eD (ha af s σ H Q I h) fun c s1 e=>?_);cases c with
 |true=>exact isTrue_and_nil e
 |false=>exact e
theorem Cp(ha:PT X a tA):PW X (.BoolOp .Or [a] pos) tA:=by
 intro wh af s σ H Q I h;refine isTrue_or (eD (ha af s σ H Q I h) fun c s1 e=>?_);cases c with
 |false=>exact isTrue_or_nil e
 |true=>exact e
theorem xU(ha:PT X a tA)(hb:PW X (.BoolOp .And (b::rest) pos) Yw):PW X (.BoolOp .And (a::b::rest) pos) (Zw tA Yw):=by
 intro wh af s σ H Q I h;refine isTrue_and (eD (ha af s σ H _ I h) fun c s1 ⟨H1,I1,q1⟩=>?_);cases c with
 |true=>exact hb wh af s1 σ H1 Q I1 q1
 |false=>exact⟨H1,I1,q1⟩
theorem Er(ha:PT X a tA)(hb:PW X (.BoolOp .Or (b::rest) pos) Yw):PW X (.BoolOp .Or (a::b::rest) pos) (tOr tA Yw):=by
 intro wh af s σ H Q I h;refine isTrue_or (eD (ha af s σ H _ I h) fun c s1 ⟨H1,I1,q1⟩=>?_);cases c with
 |true=>exact⟨H1,I1,q1⟩
 |false=>exact hb wh af s1 σ H1 Q I1 q1
theorem oq(ha:PT X a tA):PT X (.UnaryOp .Not a pos) (Zx tA):=by
 intro af s σ H Q I h;exact isTrue_not (ha af s σ H (fun c H1=>Q (!c) H1) I h)
def U3(ta tb:TE):TE:=fun σ H Q=>ta σ H fun x H1=>∃c,x=.bl c/\if c=true then tb σ H1 Q else Q (.bl false) H1
def U4(ta:TE):TE:=fun σ H Q=>ta σ H fun x H1=>∃c,x=.bl c/\Q (.bl (!c)) H1
theorem qT{op}(h:PE X a t):PE X (.BoolOp op [a] pos) t:=fun af s σ H Q I hw=>BoolOp_one (h af s σ H Q I hw)
theorem l6(ha:PE X a ta)(hb:PE X (.BoolOp .And (b::rest) pos) tb):PE X (.BoolOp .And (a::b::rest) pos) (U3 ta tb):=by
 intro af s σ H Q I h;refine BoolOp_and (eD (ha af s σ H _ I h) fun v s1 ⟨x,H1,I1,r1,q1⟩=>?_);obtain⟨c,rfl,q1⟩:=q1;cases r1;refine qF ?_;cases c with
 |true=>exact hb af s1 σ H1 Q I1 q1
 |false=>exact⟨.bl false,H1,I1,rfl,q1⟩
theorem IU(ha:PE X a ta):PE X (.UnaryOp .Not a pos) (U4 ta):=by
 intro af s σ H Q I h;refine UnaryOp_ (eD (ha af s σ H _ I h) fun v s1 ⟨x,H1,I1,r1,q1⟩=>?_);obtain⟨c,rfl,q1⟩:=q1;cases r1;exact not_of (qF ⟨.bl (!c),H1,I1,rfl,q1⟩)
def tIf(t:TT)(ta tb:TE):TE:=fun σ H Q=>t σ H fun c H1=>if c=true then ta σ H1 Q else tb σ H1 Q
theorem zK(hc:PT X c tA)(ha:PE X a ta)(hb:PE X b tb):PE X (.IfExp c a b pos) (tIf tA ta tb):=by
 intro af s σ H Q I h;refine wpAny_IfExp (eD (hc af s σ H _ I h) fun d s1 ⟨H1,I1,q1⟩=>?_);cases d with
 |true=>exact ha af s1 σ H1 Q I1 q1
 |false=>exact hb af s1 σ H1 Q I1 q1
end
def a8(K:a_)(H:Hp)(a:Addr)(xs:bg):Prop:=
 Rd H a (.lst xs)\/
  ∃ (o:Obj) (its:bD) (n:Nat),K.lookup a=some o/\o.cls=.type "list"/\o.dict=none/\o.data=.seq its n/\its.size<=sizeLine/\ba xs its.toList
def cu(K:a_)(H:Hp)(a:Addr)(xs:bg):Prop:=
 Rd H a (.tup xs)\/
  ∃ (o:Obj) (its:bD) (n:Nat),K.lookup a=some o/\o.cls=.type "tuple"/\o.data=.seq its n/\its.size<=sizeLine/\ba xs its.toList
def Zy:Value->Option V
 |.none=>some .cI
 |.bool b=>some (.bl b)
 |.int i _=>some (.int i)
 |.str x _=>some (.str x)
 |.bytes b _=>some (.HY b)
 |.float b _=>some (.Qn b)
 |.ref a=>some (.ref a)
 |.type n=>some (.ty n)
 |_=>none
theorem bW.abs(r:bW x u):Zy u=some x:=by
 cases x with
 |cI=>cases r;rfl
 |bl _=>cases r;rfl
 |int _=>obtain⟨t,rfl⟩:=r;rfl
 |str _=>obtain⟨t,rfl⟩:=r;rfl
 |HY _=>obtain⟨t,rfl⟩:=r;rfl
 |Qn _=>obtain⟨t,rfl⟩:=r;rfl
 |ref _=>cases r;rfl
 |ty _=>cases r;rfl
theorem bW.inj(r:bW x u)(q:bW y u):x=y:=cB (r.abs.symm.trans q.abs)
theorem ba.inj:∀ {xs ys:bg} {us:bw},ba xs us->ba ys us->xs=ys
 |_,_,_,.nil,.nil=>rfl
 |_,_,_,.cons r t,.cons r' t'=>by rw[r.inj r',ba.inj t t']
section
variable {X:Cx} {af:cE} {σ:St} {H:Hp} {s:aR} {a:Addr} {xs ys:bg}
theorem a8.of{K:a_}(h:H a=some (.lst xs)):a8 K H a xs:=.inl (.inl h)
theorem cu.of{K:a_}(h:H a=some (.tup xs)):cu K H a xs:=.inl (.inl h)
theorem aU.list(I:aU X af σ H s)(h:a8 X.K H a xs):∃its:List Value,ba xs its/\PlainL s.heap a its.toArray/\xs.length<=sizeLine:=by
 rcases h with h|⟨o,its,n,hk,hc,hd,hs,hz,r⟩
 .obtain⟨z,its,n,r,e⟩:=h.ok I.cY;exact⟨its,r,⟨_,n,e,rfl,rfl,rfl⟩,z⟩
 .refine⟨its.toList,r,⟨o,n,I.pf a o hk,hc,hd,by simpa using hs⟩,?_⟩;have e:=r.length;simp only[lJ] at e;lia
theorem aU.tuple(I:aU X af σ H s)(h:cu X.K H a xs):∃its:List Value,ba xs its/\IsTup s.heap a its.toArray/\xs.length<=sizeLine:=by
 rcases h with h|⟨o,its,n,hk,hc,hs,hz,r⟩
 .obtain⟨z,its,r,p⟩:=h.ok I.cY;exact⟨its,r,p.tup,z⟩
 .refine⟨its.toList,r,⟨o,I.pf a o hk,hc,n,by simpa using hs⟩,?_⟩;have e:=r.length;simp only[lJ] at e;lia
theorem aU.IW(I:aU X af σ H s)(h:a8 X.K H a xs)(h':a8 X.K H a ys):xs=ys:=by
 obtain⟨its,r,⟨o,n,e,_,_,d⟩,_⟩:=I.list h;obtain⟨its',r',⟨o',n',e',_,_,d'⟩,_⟩:=I.list h';rw[e] at e';cases e';rw[d] at d';injection d' with d1 _;have:its=its':=by simpa using congrArg Array.toList d1
 subst this;exact r.inj r'
theorem aU.ik(I:aU X af σ H s)(h:cu X.K H a xs)(h':cu X.K H a ys):xs=ys:=by
 obtain⟨its,r,⟨o,e,_,n,d⟩,_⟩:=I.tuple h;obtain⟨its',r',⟨o',e',_,n',d'⟩,_⟩:=I.tuple h';rw[e] at e';cases e';rw[d] at d';injection d' with d1 _;have:its=its':=by simpa using congrArg Array.toList d1
 subst this;exact r.inj r'
end
abbrev Cx.vS(X:Cx)(E:bV):Cx:={ X with xe:=E }
abbrev Cx.Bj(X:Cx):Cx:=X.vS fun _ _=>False
theorem Cx.Ok.vS{X:Cx}(ok:X.Ok)(E:bV):(X.vS E).Ok:=
 ⟨ok.mod,ok.kind,ok.glob,ok.blt,ok.above,ok.inj,ok.has,ok.UY,ok.hd,ok.frames,ok.Ui,ok.Zo,ok.bs,ok.IR,ok.IS,ok.Ml,ok.sw,ok.Qp⟩
theorem Cx.Ok.l7{X:Cx}{E:bV}(ok:(X.vS E).Ok):X.Ok:=
 ⟨ok.mod,ok.kind,ok.glob,ok.blt,ok.above,ok.inj,ok.has,ok.UY,ok.hd,ok.frames,ok.Ui,ok.Zo,ok.bs,ok.IR,ok.IS,ok.Ml,ok.sw,ok.Qp⟩
section
variable {X:Cx} {af:cE} {σ:St} {H:Hp} {s:aR} {E:bV}
theorem aU.vS(I:aU X af σ H s)(E:bV):aU (X.vS E) af σ H s:=⟨I.ok.vS E,I.os,I.bare,I.base,I.loc,I.cell,I.free,I.l4,I.pin,I.cY,I.len⟩
theorem aU.l7(I:aU (X.vS E) af σ H s):aU X af σ H s:=⟨I.ok.l7,I.os,I.bare,I.base,I.loc,I.cell,I.free,I.l4,I.pin,I.cY,I.len⟩
theorem SP.l7(h:SP (X.vS E) af D f s'):SP X af D f s':=by
 cases f with
 |next=>obtain⟨σ',H',I,q⟩:=h;exact⟨σ',H',I.l7,q⟩
 |brk=>obtain⟨σ',H',I,q⟩:=h;exact⟨σ',H',I.l7,q⟩
 |cont=>obtain⟨σ',H',I,q⟩:=h;exact⟨σ',H',I.l7,q⟩
 |ret u=>obtain⟨v,σ',H',I,r,q⟩:=h;exact⟨v,σ',H',I.l7,r,q⟩
theorem Co.Bj{st:List Stmt}{t:TS}(h:Co X.Bj st t):Co X st t:=fun af s σ H D I hw=>
 jL (h af s σ H D (I.vS _) hw) (fun _ _ q=>q.l7) fun _ _ z=>False.elim z
end
section
variable {X:Cx} {st:Stmt} {rest:List Stmt} {t u:TS} {e:Expr} {te:TE} {pos:Pos}
def O8:TS:=fun D σ H=>D.nx σ H
def U5(t u:TS):TS:=fun D σ H=>t { D with nx:=u D } σ H
theorem b8:Co X [] O8:=fun _ _ σ H _ I h=>xJ ⟨σ,H,I,h⟩
theorem ak(h1:PS X st t)(h2:Co X rest u):Co X (st::rest) (U5 t u):=by
 intro af s σ H D I h;refine wpAny_execs_cons (eD (h1 af s σ H { D with nx:=u D } I h) fun f s1 q=>?_);cases f with
 |next=>
  obtain⟨σ',H',I',q⟩:=q;exact h2 af s1 σ' H' D I' q
 |ret v=>exact q
 |brk=>exact q
 |cont=>exact q
theorem av(h1:PS X st t):Co X [st] t:=by
 intro af s σ H D I h;refine wpAny_execs_cons (eD (h1 af s σ H D I h) fun f s1 q=>?_);cases f with
 |next=>exact xJ q
 |ret v=>exact q
 |brk=>exact q
 |cont=>exact q
theorem aU.quiet(I:aU X af σ H s):interactive X.env=false:=by simp[interactive,I.ok.kind]
def U6(te:TE):TS:=fun D σ H=>te σ H fun _ H1=>D.nx σ H1
theorem cG(he:PE X e te)(hs:swapsWith e none pos.line X.env=pure false:=by rfl):PS X (.Expr e pos) (U6 te):=by
 intro af s σ H D I h;exact wpAny_Expr_any (eD (he af s σ H _ I h) fun v s1 ⟨x,H1,I1,r1,q1⟩=>⟨σ,H1,I1,q1⟩) I.quiet hs
def U7(te:TE):TS:=fun D σ H=>te σ H D.rt
theorem bh(he:PE X e te):PS X (.Return (some e) pos) (U7 te):=by
 intro af s σ H D I h;exact wpAny_Return_some (eD (he af s σ H _ I h) fun v s1 ⟨x,H1,I1,r1,q1⟩=>⟨x,σ,H1,I1,r1,q1⟩)
def U8(c:TT)(t u:TS):TS:=fun D σ H=>c σ H fun b H1=>if b=true then t D σ H1 else u D σ H1
theorem dS(hc:PT X c tc)(ha:Co X a t)(hb:Co X b u):PS X (.If c a b pos) (U8 tc t u):=by
 intro af s σ H D I h;refine wpAny_If (eD (hc af s σ H _ I h) fun d s1 ⟨H1,I1,q1⟩=>?_);cases d with
 |true=>exact ha af s1 σ H1 D I1 q1
 |false=>exact hb af s1 σ H1 D I1 q1
def Qt:TS:=fun _ _ _=>False
theorem ff:Co X sts Qt:=fun _ _ _ _ _ _ h=>h.elim
end
abbrev TG:=V->St->Hp->(St->Hp->Prop)->Prop
abbrev U9:=List V->St->Hp->(St->Hp->Prop)->Prop
def PG(X:Cx)(Qu:Expr)(t:TG):Prop:=
 ∀ (af:cE) (s:aR) (σ:St) (H:Hp) (v:V) (u:Value) (Q:iu),aU X af σ H s->bW v u->t v σ H Q->
  wpAny (model X.prog X.w) X.A (assign Qu X.env u) (fun _ s'=>∃σ' H',aU X af σ' H' s'/\Q σ' H') X.xe s
def Yx(X:Cx)(ts:gZ)(t:U9):Prop:=
 ∀ (af:cE) (s:aR) (σ:St) (H:Hp) (vs:bg) (us:bw) (Q:iu),aU X af σ H s->ba vs us->t vs σ H Q->
  wpAny (model X.prog X.w) X.A (assignInOrder ((assignEach ts X.env).map (·.2)) us) (fun _ s'=>∃σ' H',aU X af σ' H' s'/\Q σ' H') X.xe s
abbrev U_:=V->V->V->Hp->(Hp->Prop)->Prop
def Va(X:Cx)(t:U_):Prop:=
 ∀ (af:cE) (s:aR) (σ:St) (H:Hp) (o i v:V) (ov iv u:Value) (Q:rP),aU X af σ H s->bW o ov->bW i iv->bW v u->t o i v H Q->
  wpAny (model X.prog X.w) X.A (setItem ov iv u) (fun _ s'=>∃H',aU X af σ H' s'/\Q H') X.xe s
abbrev Zz:=V->V->Hp->VK->Prop
def PIp(X:Cx)(op:Operator)(t:Zz):Prop:=
 ∀ (af:cE) (s:aR) (σ:St) (H:Hp) (x y:V) (v u:Value) (Q:VK),aU X af σ H s->bW x v->bW y u->t x y H Q->
  wpAny (model X.prog X.w) X.A (inplaceOp op v u) (EP X af σ Q) X.xe s
section
variable {X:Cx} {pos:Pos}
def bH(i:Nat):TG:=fun v σ H Q=>Q (σ.set i (some v)) H
theorem aA(hN:X.N.Nodup)(hi:X.N[i]?=some x)(hx:UX X.env.scope x)(hf:X.fn x=true\/X.env.scope.names.lookup x=some .local:=by first|exact .inl rfl|exact .inr rfl|assumption):PG X (.Name x pos) (bH i):=by
 intro af s σ H v u Q I r h;exact wpAny_assign_Name (ir I hN hi hx r (fun s' I'=>⟨_,H,I',h⟩) hf)
def uR:U9:=fun vs σ H Q=>vs=[]/\Q σ H
def gn(t:TG)(u:U9):U9:=fun vs σ H Q=>∃v r,vs=v::r/\t v σ H fun σ' H'=>u r σ' H' Q
theorem cM:Yx X [] uR:=by
 intro af s σ H vs us Q I r h;obtain⟨e,h⟩:=h;subst e;cases r;exact assignInOrder_nil ⟨σ,H,I,h⟩
theorem aE(h1:PG X e t)(h2:Yx X es u)(hs:(assignEach (e::es) X.env).map (·.2)=assign e X.env::(assignEach es X.env).map (·.2):=by rfl):Yx X (e::es) (gn t u):=by
 intro af s σ H vs us Q I r h;obtain⟨v,vr,e1,h⟩:=h;subst e1;cases r with
 |cons r rr=>
  rw[hs];refine qG (eD (h1 af s σ H _ _ _ I r h) fun _ s1 ⟨σ1,H1,I1,q1⟩=>?_);exact h2 af s1 σ1 H1 _ _ Q I1 rr q1
def uS(K:a_)(n:Nat)(t:U9):TG:=fun v σ H Q=>∃a xs,v=.ref a/\cu K H a xs/\xs.length=n/\t xs σ H Q
theorem dX(hc:X.calm=true)(h:Yx X es t)(hn:(assignEach es X.env).length=n:=by rfl)(qg:(assignEach es X.env).findIdx? (·.1)=none:=by rfl):PG X (.Tuple es k pos) (uS X.K n t):=by
 intro af s σ H v u Q I r hw;obtain⟨a,xs,e1,hq,hl,hw⟩:=hw;subst e1;cases r;obtain⟨its,rv,ht,hz⟩:=I.tuple hq;refine assign_Tuple_tuple (I.ok.hd hc) ht (by simp[hn,<-hl,rv.length]) qg fun h' hx=>?_;have I1:aU X af σ H { s with heap:=h' }:=I.kept (t':=s.toks) fun b o e=>hx b o (bf (aS e)) e;exact h af _ σ H xs _ Q I1 (by simpa using rv) hw
def ZA(to ti:TE)(t:U_):TG:=fun v σ H Q=>to σ H fun o H1=>ti σ H1 fun i H2=>t o i v H2 fun H3=>Q σ H3
theorem gx(ho:PE X o to)(hi:PE X i ti)(hs:Va X t)(ha:∀v,assign (.Subscript o i pos) X.env v=(do
   let ov <- holding [v] (eval o X.env)
   let iv <- holding [v,ov] (eval i X.env)
   standAt pos
   holding [v,ov,iv] (setItem ov iv v)
   release [v,ov,iv] []):=by intro _;rfl):PG X (.Subscript o i pos) (ZA to ti t):=by
 intro af s σ H v u Q I r h;rw[ha];refine au (gK (eD (ho af s σ H _ I h) fun ov s1 ⟨x,H1,I1,r1,q1⟩=>?_));refine au (gK (eD (hi af s1 σ H1 _ I1 q1) fun iv s2 ⟨y,H2,I2,r2,q2⟩=>?_));refine au (oj (au (gK (eD (hs af s2 σ H2 x y v ov iv u _ I2 r1 r2 r q2) fun _ s3 ⟨H3,I3,q3⟩=>?_))));exact wpAny_release ⟨σ,H3,I3,q3⟩
def Qv(te:TE)(g:TG):TS:=fun D σ H=>te σ H fun x H1=>g x σ H1 D.nx
theorem d8(he:PE X e te)(hg:PG X tg g)(hs:swapsWithSole [tg] e pos.line X.env=pure false:=by rfl)(hw:swappedStores [tg] e X.env=pure none:=by rfl)(h1:(assignEach [tg] X.env).map (·.2)=[assign tg X.env]:=by rfl):PS X (.Assign [tg] e pos) (Qv te g):=by
 intro af s σ H D I h;refine wpAny_Assign_stores (eD (he af s σ H _ I h) fun v s1 ⟨x,H1,I1,r1,q1⟩=>?_) hs hw;rw[h1];exact eD (hg af s1 σ H1 x v _ I1 r1 q1) fun _ s2 q=>q
theorem aW(hN:X.N.Nodup)(hi:X.N[i]?=some x)(hx:UX X.env.scope x)(he:PE X e te)(hs:swapsWith e (some (.Name x F9)) pos.line X.env=pure false:=by rfl)(hf:X.fn x=true\/X.env.scope.names.lookup x=some .local:=by first|exact .inl rfl|exact .inr rfl|assumption):
  PS X (.Assign [.Name x F9] e pos) (Qv te (bH i)):=by
 intro af s σ H D I h;refine wpAny_Assign_Name (eD (he af s σ H _ I h) fun v s1 ⟨y,H1,I1,r1,q1⟩=>?_) hs;exact ir I1 hN hi hx r1 (fun s2 I2=>⟨_,H1,I2,q1⟩) hf
def ZB(i j:Nat)(ta:TA):TS:=fun D σ H=>ta σ H fun vs H1=>∃v w,vs=[v,w]/\D.nx ((σ.set i (some v)).set j (some w)) H1
theorem Cq{kt k2 Es}(hc:X.calm=true)(hN:X.N.Nodup)(hi:X.N[i]?=some x)(hj:X.N[j]?=some y)(zL:i≠j)(hx:X.env.scope.names.lookup x=some .local)(hy:X.env.scope.names.lookup y=some .local)(ha:PA X [a,b] ta)(hw:swappedStores [.Tuple [.Name x px,.Name y py] kt pt] (.Tuple [a,b] k2 Es) X.env=pure (some [x,y]))(hs:swapsWithSole [.Tuple [.Name x px,.Name y py] kt pt] (.Tuple [a,b] k2 Es) pos.line X.env=pure false:=by rfl):
  PS X (.Assign [.Tuple [.Name x px,.Name y py] kt pt] (.Tuple [a,b] k2 Es) pos) (ZB i j ta):=by
 intro af s σ H D I h;rw[exec_Assign_arm];refine au (oj ?_);rw[hs];refine au (wpAny_pure ?_);rw[ao (by decide)];refine au (Tuple_ (eD (ha _ af s σ H _ I h) fun us s1 ⟨vs,H1,I1,r1,q1⟩=>?_));obtain⟨v,w,e1,q1⟩:=q1;subst e1;obtain⟨u1,u2,rfl,rv,vT⟩:∃u1 u2,us=[u1,u2]/\bW v u1/\bW w u2:=by
  cases r1 with
  |cons p q=>
   cases q with
   |cons p' q'=>
    cases q';exact⟨_,_,rfl,p,p'⟩
 refine kK ?_ (by show 2<=sizeLine;decide);have I2:aU X af σ H1 { s1 with heap:=s1.heap.push { cls:=.type "tuple",data:=.seq [u1,u2].toArray } }:=I1.kept (t':=s1.toks) fun b o e=>bP _ e;rw[hw];refine au (wpAny_pure ?_);show wpAny (model X.prog X.w) X.A (do rule "assign.swapped-stores";let items <- unpackItems (.ref s1.heap.objs.size) 2 none;assignInOrder [fun v=>bindName X.env y v,fun v=>bindName X.env x v] items.reverse;pure Flow.next) _ _ _;refine au (fv (au (unpackItems_tuple (items:=#[u1,u2]) (I.ok.hd hc) (IsTup.new s1.heap _) fun h' qU=>?_)));have I3:=I2.kept (h':=h') (t':=s1.toks) fun b o e=>qU b o (bf (aS e)) e;show wpAny _ _ (assignInOrder [fun v=>bindName X.env y v,fun v=>bindName X.env x v] [u2,u1] >>= fun _=>pure Flow.next) _ _ _;refine au (qG (uI (ir I3 hN hj (.inl hy) vT (fun s2 I4=>?_) (.inr hy))));refine qG (uI (ir I4 hN hi (.inl hx) rv (fun s3 I5=>assignInOrder_nil (wpAny_pure ?_)) (.inr hx)));rw[xL _ _ (dI zL)] at I5;exact⟨_,H1,I5,q1⟩
def ZC(i:Nat)(te:TE)(ti:Zz):TS:=fun D σ H=>∃x,σ[i]?=some (some x)/\te σ H fun y H1=>ti x y H1 fun z H2=>D.nx (σ.set i (some z)) H2
theorem Qw(hN:X.N.Nodup)(hi:X.N[i]?=some x)(hx:UX X.env.scope x)(he:PE X e te)(ho:PIp X op ti)(hf:X.fn x=true\/X.env.scope.names.lookup x=some .local:=by first|exact .inl rfl|exact .inr rfl|assumption):
  PS X (.AugAssign (.Name x F9) op e pos) (ZC i te ti):=by
 intro af s σ H D I h;obtain⟨v,e1,h⟩:=h;obtain⟨m,hn,hl⟩:=I.loc;have Vb:Uh X.env.scope x:=by rcases hx with k|k;exact .inl k;exact .inr (.inl k)
 obtain⟨u,r,l⟩:=hl i x v hi e1 Vb;refine wpAny_AugAssign_Name ?_;have go:wpAny (model X.prog X.w) X.A (eval e X.env) (fun w s₂=>wpAny (model X.prog X.w) X.A (inplaceOp op u w) (fun r s₃=>wpAny (model X.prog X.w) X.A (storeName X.env x r) (fun _=>SP X af D .next) X.xe s₃) X.xe s₂) X.xe s:=by
  refine eD (he af s σ H _ I h) fun w s1 ⟨y,H1,I1,r1,q1⟩=>?_;refine eD (ho af s1 σ H1 v y u w _ I1 r r1 q1) fun z s2 ⟨zv,H2,I2,r2,q2⟩=>?_;exact ir I2 hN hi hx r2 (fun s3 I3=>⟨_,H2,I3,q2⟩) hf
 rcases l with ⟨hk,hm⟩|⟨hk,c,hc,Eo⟩
 .exact B3 I.ok.kind hk hn hm go
 .rcases hk with hk|hk
  .exact wpAny_loadName_cell I.ok.kind hk hc Eo go
  .rcases hx with k|k
   .have:X.env.scope.names.lookup x=some .free:=hk;rw[k] at this;cases this
   .have:X.env.scope.names.lookup x=some .free:=hk;rw[k] at this;cases this
def ipI(f:Int->Int->Int):Zz:=fun x y H Q=>∃i j,x=.int i/\y=.int j/\Q (.int (f i j)) H
theorem Qx:PIp X .Add (ipI fun i j=>i+j):=by
 intro af s σ H x y v u Q I r1 r2 h;obtain⟨i,j,e1,e2,q⟩:=h;subst e1;subst e2;obtain⟨t,rfl⟩:=r1;obtain⟨t',rfl⟩:=r2;exact iadd_int ⟨.int _,H,I.tok _,⟨_,rfl⟩,q⟩
def IX(c:TT)(tb:TS):TS:=fun D σ H=>∃W:Nat->St->Hp->Prop,(∃m,W m σ H)/\∀m σ H,W m σ H->
 c σ H fun b H1=>if b=true then ∃N:St->Hp->Prop,(∀σ' H',N σ' H'->∃m',m'<m/\W m' σ' H')/\tb { D with nx:=N,ct:=N,bk:=D.nx } σ H1 else D.nx σ H1
theorem zM(hp:PassesOwn (model X.prog X.w) X.A X.env X.xe)(hc:PT X c tc)(hb:Co X body tb):PS X (.While c body [] pos) (IX tc tb):=by
 intro af s σ H D I h;obtain⟨W,⟨m0,w0⟩,IY⟩:=h;refine wpAny_While (codeAny_whileLoop (fun n s'=>∃σ' H',aU X af σ' H' s'/\W n σ' H') ?_ m0 ⟨σ,H,I,w0⟩);rintro n s1 ⟨σ1,H1,I1,w1⟩;refine og hp (eD (hc af s1 σ1 H1 _ I1 (IY n σ1 H1 w1)) fun b s2 ⟨H2,I2,q2⟩=>?_);cases b with
 |true=>
  obtain⟨N,hN,q2⟩:=q2;rw[ap rfl];refine og hp (eD (hb af s2 σ1 H2 _ I2 q2) fun f s3 q3=>?_);cases f with
  |next=>
   obtain⟨σ3,H3,I3,n3⟩:=q3;obtain⟨m',hm,w3⟩:=hN σ3 H3 n3;exact⟨m',hm,σ3,H3,I3,w3⟩
  |cont=>
   obtain⟨σ3,H3,I3,n3⟩:=q3;obtain⟨m',hm,w3⟩:=hN σ3 H3 n3;exact⟨m',hm,σ3,H3,I3,w3⟩
  |brk=>exact q3
  |ret v=>exact q3
 |false=>
  rw[ao di];exact xJ ⟨σ1,H2,I2,q2⟩
end
structure It where
 go:Nat->Hp->Prop
 Uj:Nat->Hp->V->Hp->Prop
 stop:Nat->Hp->Prop
def hZ(X:Cx)(af:cE)(H:Hp)(b:Addr):Prop:=
 H b=none/\b≠X.env.locals/\b∉X.fs/\(b∈X.ex\/X.s₀.heap.objs.size<=b)/\(∀x c,X.env.cells.lookup x=some c->c≠b)/\∀p∈X.pn++af,p.1≠b
theorem aU.zN(I:aU X af σ H s)(hb:s.heap.objs.size<=b)(hn:H' b=none):hZ X af H' b:=by
 refine⟨hn,gO (bv I.lt hb),I.Zq hb,.inr (aZ I.sz hb),fun x c e z=>?_,fun p hp z=>?_⟩
 .obtain⟨v,q⟩:=I.cell x c e;exact absurd (bv q.lt (by rw[z];exact hb)) (jd _)
 .exact absurd (bv (aS (I.pin p hp).1) (by rw[z];exact hb)) (jd _)
structure zO(P:bL)(w:World)(K:a_)(tg:Expr)(J:It)(fp:bR)(it:Addr)(tn:II):Prop where
 mem:it∈fp
 obj:∀i h,tn i h->∀b∈fp,∃o,h.get? b=some o/\∀v,o.data≠.cell v
 keep:∀i h h',tn i h->(∀b∈fp,∀o,h.get? b=some o->h'.get? b=some o)->tn i h'
 item:∀ (X:Cx),X.prog=P->X.w=w->X.K=K->X.calm=true->∀ (i:Nat) (af:cE) (s:aR) (σ:St) (H:Hp) (E:bV),aU X af σ H s->(∀b∈fp,hZ X af H b)->tn i s.heap->J.go i H->
  wpAny (model P w) X.A (pyNext (.ref it)) (fun r s1=>∃u,r=some u/\
   wpAny (model P w) X.A (letOwnedTupleGo tg (.ref it) u) (fun _ s2=>∃x H',aU X af σ H' s2/\bW x u/\J.Uj i H x H'/\tn (i+1) s2.heap/\∀b∈fp,H' b=none) E s1) E s
 done:∀ (X:Cx),X.prog=P->X.w=w->X.K=K->X.calm=true->∀ (i:Nat) (af:cE) (s:aR) (σ:St) (H:Hp) (E:bV),aU X af σ H s->(∀b∈fp,hZ X af H b)->tn i s.heap->J.stop i H->
  wpAny (model P w) X.A (pyNext (.ref it)) (fun r s1=>r=none/\aU X af σ H s1) E s
 self:∀ (A:br) (i:Nat) (s:aR) (Q:bV) (E:bV),tn i s.heap->Q (.ref it) s->wpAny (model P w) A (pyIter (.ref it)) Q E s
abbrev TI:=St->Hp->(It->Hp->Prop)->Prop
def PIE(X:Cx)(af:cE)(σ:St)(tg:Expr)(R:It->Hp->Prop)(Yy:Value)(s2:aR):Prop:=
 ∃ (it:Addr) (fp:bR) (tn:II) (J:It) (H':Hp),Yy=.ref it/\aU X af σ H' s2/\zO X.prog X.w X.K tg J fp it tn/\tn 0 s2.heap/\(∀b∈fp,hZ X af H' b)/\R J H'
def PI(X:Cx)(tg lC:Expr)(wi:TI):Prop:=
 ∀ (af:cE) (s:aR) (σ:St) (H:Hp) (R:It->Hp->Prop),aU X af σ H s->wi σ H R->
  wpAny (model X.prog X.w) X.A (eval lC X.env) (fun v s1=>wpAny (model X.prog X.w) X.A (pyIter v) (PIE X af σ tg R) X.xe s1) X.xe s
theorem IZ(ho:s.heap.get? it=some o)(hc:o.cls=.type n)(hd:o.data=.fields vs)(hn:["enumerate","zip","dict_itemiterator","dict_reverseitemiterator","odict_iterator","itertools.zip_longest","itertools.pairwise"].contains n=false)(hQ:Q () s):wpAny M A (letOwnedTupleGo tg (.ref it) u) Q E s:=by
 unfold letOwnedTupleGo;cases tg <;> first
  |exact wpAny_pure hQ
  |(cases u <;> first
    |exact wpAny_pure hQ
    |(refine au (wpAny_load ho ?_);rw[hc,hd];show wpAny M A (if (["enumerate","zip","dict_itemiterator","dict_reverseitemiterator","odict_iterator","itertools.zip_longest","itertools.pairwise"].contains n&&vs[0]?==some (rawInt _))=true then _ else _) Q E s;rw[ao (by intro h;rw[hn,Bool.false_and] at h;cases h)];exact wpAny_pure hQ))
def I0(K:a_)(a:Addr):It:=
 ⟨fun i H=>∃xs x,a8 K H a xs/\xs[i]?=some x,fun i H x H'=>H'=H/\∀xs,a8 K H a xs->xs[i]?=some x,fun i H=>∃xs,a8 K H a xs/\xs.length<=i⟩
def ZD(K:a_)(a:Addr):It:=
 ⟨fun i H=>∃xs x,cu K H a xs/\xs[i]?=some x,fun i H x H'=>H'=H/\∀xs,cu K H a xs->xs[i]?=some x,fun i H=>∃xs,cu K H a xs/\xs.length<=i⟩
def H_(lo:Int)(n:Nat):It:=⟨fun i _=>i<n,fun i H x H'=>H'=H/\x=.int (lo+i),fun i _=>n<=i⟩
theorem F_{P:bL}{w:World}{K:a_}{tg:Expr}(a it:Addr):zO P w K tg (I0 K a) [it] it (fun i h=>h.IsListIter it a i) where
 mem:=by simp
 obj:=fun i h st b hb=>by
  have e:b=it:=by simpa using hb
  subst e;obtain⟨o,e,c,d⟩:=st;exact⟨o,e,fun v z=>by rw[d] at z;cases z⟩
 keep:=fun i h h' st k=>st.at fun o e=>k it (by simp) o e
 item:=by
  intro X hP hw hK hc i af s σ H E I hf st hg;subst hP hw hK;obtain⟨xs,x,hq,hx⟩:=hg;obtain⟨its,rv,p,hz⟩:=I.list hq;obtain⟨u,hu,ru⟩:=rv.get hx;obtain⟨f0,f1,f2,f3,f4,f5⟩:=hf it (by simp);refine BS st p.isList (x:=u) (by simpa using hu) fun h' aF sb=>?_;have I1:aU X af σ H { s with heap:=h' }:=I.turned (t':=s.toks) (fun b o hb e=>(sb.2 b hb).trans e) f0 f1 f3 f4 f5;obtain⟨o,e,c,d⟩:=id aF;exact⟨u,rfl,IZ (s:={ s with heap:=h' }) e c d (by decide) ⟨x,H,I1,ru,⟨rfl,fun ys hy=>by rw[I.IW hy hq];exact hx⟩,aF,fun b hb=>(hf b hb).1⟩⟩
 done:=by
  intro X hP hw hK hc i af s σ H E I hf st hg;subst hP hw hK;obtain⟨xs,hq,hx⟩:=hg;obtain⟨its,rv,p,hz⟩:=I.list hq;obtain⟨f0,f1,f2,f3,f4,f5⟩:=hf it (by simp);have hl:=rv.length;exact BW (I.ok.hd hc) st p.isList (by simp;lia) fun h' eb=>⟨rfl,I.turned (t':=s.toks) (fun b o hb e=>eb b o hb e) f0 f1 f3 f4 f5⟩
 self:=fun _ _ _ _ _ st h=>wpAny_pyIter_listiter st h
theorem Cr{P:bL}{w:World}{K:a_}{tg:Expr}(a it:Addr):zO P w K tg (ZD K a) [it] it (fun i h=>h.IsTupleIter it a i) where
 mem:=by simp
 obj:=fun i h st b hb=>by
  have e:b=it:=by simpa using hb
  subst e;obtain⟨o,e,c,d⟩:=st;exact⟨o,e,fun v z=>by rw[d] at z;cases z⟩
 keep:=fun i h h' st k=>st.at fun o e=>k it (by simp) o e
 item:=by
  intro X hP hw hK hc i af s σ H E I hf st hg;subst hP hw hK;obtain⟨xs,x,hq,hx⟩:=hg;obtain⟨its,rv,p,hz⟩:=I.tuple hq;obtain⟨u,hu,ru⟩:=rv.get hx;obtain⟨f0,f1,f2,f3,f4,f5⟩:=hf it (by simp);refine wpAny_pyNext_tuple_item st (show s.heap.IsTuple a its.toArray from p) (x:=u) (by simpa using hu) fun h' aF sb=>?_;have I1:aU X af σ H { s with heap:=h' }:=I.turned (t':=s.toks) (fun b o hb e=>(sb.2 b hb).trans e) f0 f1 f3 f4 f5;obtain⟨o,e,c,d⟩:=id aF;exact⟨u,rfl,IZ (s:={ s with heap:=h' }) e c d (by decide) ⟨x,H,I1,ru,⟨rfl,fun ys hy=>by rw[I.ik hy hq];exact hx⟩,aF,fun b hb=>(hf b hb).1⟩⟩
 done:=by
  intro X hP hw hK hc i af s σ H E I hf st hg;subst hP hw hK;obtain⟨xs,hq,hx⟩:=hg;obtain⟨its,rv,p,hz⟩:=I.tuple hq;obtain⟨f0,f1,f2,f3,f4,f5⟩:=hf it (by simp);have hl:=rv.length;exact wpAny_pyNext_tuple_end (I.ok.hd hc) st (show s.heap.IsTuple a its.toArray from p) (by simp;lia) fun h' eb=>⟨rfl,I.turned (t':=s.toks) (fun b o hb e=>eb b o hb e) f0 f1 f3 f4 f5⟩
 self:=fun _ _ _ _ _ st h=>wpAny_pyIter_tupleiter st h
theorem Cs{P:bL}{w:World}{K:a_}{tg:Expr}(it:Addr)(lo:Int)(n:Nat):zO P w K tg (H_ lo n) [it] it (fun i h=>IsRangeIter h it (lo+(i:Nat)*1) ((n:Int)-(i:Nat)) 1) where
 mem:=by simp
 obj:=fun i h st b hb=>by
  have e:b=it:=by simpa using hb
  subst e;exact⟨_,st,fun v z=>by
   have z':Data.fields _=Data.cell v:=z;cases z'⟩
 keep:=fun i h h' st k=>k it (by simp) _ st
 item:=by
  intro X hP hw hK hc i af s σ H E I hf st hg;subst hP hw hK;obtain⟨f0,f1,f2,f3,f4,f5⟩:=hf it (by simp);have W:=Walks.range (prog:=X.prog) (w:=X.w) (I.ok.hd hc) it lo 1 n;refine W.item i s _ _ hg st fun v h' tk hv aF kk=>?_;obtain⟨t,rfl⟩:=hv;have I1:aU X af σ H { s with heap:=h',toks:=tk }:=I.turned (fun b o hb e=>kk b o (by simpa using hb) e) f0 f1 f3 f4 f5;refine⟨_,rfl,IZ (s:={ s with heap:=h',toks:=tk }) (n:="range_iterator") aF rfl rfl (by decide) ⟨.int (lo+i),H,I1,⟨t,?_⟩,⟨rfl,rfl⟩,aF,fun b hb=>(hf b hb).1⟩⟩;rw[Int.mul_one]
 done:=by
  intro X hP hw hK hc i af s σ H E I hf st hg;subst hP hw hK;obtain⟨f0,f1,f2,f3,f4,f5⟩:=hf it (by simp);exact wpAny_pyNext_range_end (I.ok.hd hc) st (by have:n<=i:=hg;lia) fun h' eb=>⟨rfl,I.turned (t':=s.toks) (fun b o hb e=>eb b o hb e) f0 f1 f3 f4 f5⟩
 self:=fun _ _ _ _ _ st h=>wpAny_pyIter_rangeiter st h
section
variable {X:Cx} {tg:Expr}
def O9(K:a_)(tl:TE):TI:=fun σ H R=>tl σ H fun x H1=>∃a,x=.ref a/\(∃xs,a8 K H1 a xs)/\R (I0 K a) H1
def ZE(K:a_)(tl:TE):TI:=fun σ H R=>tl σ H fun x H1=>∃a,x=.ref a/\(∃xs,cu K H1 a xs)/\R (ZD K a) H1
theorem bN{l:Expr}{tl:TE}(hl:PE X l tl):PI X tg l (O9 X.K tl):=by
 intro af s σ H R I h;refine eD (hl af s σ H _ I h) fun v s1 ⟨x,H1,I1,r1,q1⟩=>?_;obtain⟨a,e,⟨xs,hq⟩,q⟩:=q1;subst e;cases r1;obtain⟨its,rv,p,hz⟩:=I1.list hq;refine uB p.isList ?_;refine⟨s1.heap.objs.size,[s1.heap.objs.size],_,_,H1,rfl,I1.kept (t':=s1.toks) fun b o e=>bP _ e,F_ a _,⟨_,cX _ rfl,rfl,rfl⟩,fun b hb=>?_,q⟩;have e:b=s1.heap.objs.size:=by simpa using hb
 subst e;exact I1.zN (aP _) (I1.cY.fresh (aP _))
theorem Cu{l:Expr}{tl:TE}(hl:PE X l tl):PI X tg l (ZE X.K tl):=by
 intro af s σ H R I h;refine eD (hl af s σ H _ I h) fun v s1 ⟨x,H1,I1,r1,q1⟩=>?_;obtain⟨a,e,⟨xs,hq⟩,q⟩:=q1;subst e;cases r1;obtain⟨its,rv,p,hz⟩:=I1.tuple hq;refine uy (show s1.heap.IsTuple a its.toArray from p) ?_;refine⟨s1.heap.objs.size,[s1.heap.objs.size],_,_,H1,rfl,I1.kept (t':=s1.toks) fun b o e=>bP _ e,Cr a _,⟨_,cX _ rfl,rfl,rfl⟩,fun b hb=>?_,q⟩;have e:b=s1.heap.objs.size:=by simpa using hb
 subst e;exact I1.zN (aP _) (I1.cY.fresh (aP _))
theorem zP{af:cE}{σ:St}{H:Hp}{s:aR}{R:It->Hp->Prop}{E:bV}{lo hi:Int}{t u v:Tok}{tk:Nat}(I:aU X af σ H s)(h1:-(2 ^ 62)<=lo)(h2:lo<2 ^ 62)(h3:-(2 ^ 62)<=hi)(h4:hi<2 ^ 62)(q:R (H_ lo (hi-lo).toNat) H):wpAny (model X.prog X.w) X.A (pyIter (.ref s.heap.objs.size)) (PIE X af σ tg R) E { s with heap:=s.heap.push { cls:=.type "range",data:=.fields #[.int lo t,.int hi u,.int 1 v] },toks:=tk }:=by
 refine wpAny_pyIter_range (IsRange.new ..) (small_one h1 h2 h3 h4) ?_;have I1:aU X af σ H { s with heap:=s.heap.push { cls:=.type "range",data:=.fields #[.int lo t,.int hi u,.int 1 v] },toks:=tk }:=I.kept fun b o e=>bP _ e;refine⟨(s.heap.push { cls:=.type "range",data:=.fields #[.int lo t,.int hi u,.int 1 v] }).objs.size,[(s.heap.push { cls:=.type "range",data:=.fields #[.int lo t,.int hi u,.int 1 v] }).objs.size],_,_,H,rfl,
  I1.kept (t':=tk) fun b o e=>bP _ e,Cs _ lo (hi-lo).toNat,?_,fun b hb=>?_,q⟩
 .have e1:lo+((0:Nat):Int)*1=lo:=by simp
  have e2:(((hi-lo).toNat:Nat):Int)-((0:Nat):Int)=Builtin.Range.rangeSize lo hi 1:=by rw[rangeSize_one];split <;> lia
  show IsRangeIter _ _ (lo+((0:Nat):Int)*1) ((((hi-lo).toNat:Nat):Int)-((0:Nat):Int)) 1;rw[e1,e2];exact cX _ rfl
 .have e:b=(s.heap.push { cls:=.type "range",data:=.fields #[.int lo t,.int hi u,.int 1 v] }).objs.size:=by simpa using hb
  subst e;exact I1.zN (aP _) (I1.cY.fresh (aP _))
def Vc(ta:TA):TI:=fun σ H R=>ta σ H fun vs H1=>∃j:Int,vs=[.int j]/\-(2 ^ 62)<=j/\j<2 ^ 62/\R (H_ 0 j.toNat) H1
def Vd(ta:TA):TI:=fun σ H R=>ta σ H fun vs H1=>∃i j:Int,vs=[.int i,.int j]/\(-(2 ^ 62)<=i/\i<2 ^ 62/\-(2 ^ 62)<=j/\j<2 ^ 62)/\R (H_ i (j-i).toNat) H1
theorem b9{a:Expr}{ta:TA}{p pos:Pos}(hg:Gl X "range")(hm:X.mg "range"=none)(ha:PA X [a] ta)(hs:starEach [a] X.env=[(false,eval a X.env)]:=by rfl):PI X tg (.Call (.Name "range" p) [a] [] pos) (Vc ta):=by
 intro af s σ H R I h;refine Call_ (jQ I hg hm boot_range (qk (eD (ha pos af s σ H _ I h) fun us s1 ⟨vs,H1,I1,r1,q1⟩=>?_) hs rfl));obtain⟨j,e,q1,q2,q⟩:=q1;subst e;cases r1 with
 |cons r rr=>
  cases rr;obtain⟨t,rfl⟩:=r;exact call_range_1 (zP I1 (by lia) (by lia) q1 q2 (by simpa using q))
theorem qV(hg:Gl X "range")(hm:X.mg "range"=none)(ha:PA X [a,b] ta)(hs:starEach [a,b] X.env=[(false,eval a X.env),(false,eval b X.env)]:=by rfl)(oX:starEach [b] X.env=[(false,eval b X.env)]:=by rfl):
  PI X tg (.Call (.Name "range" p) [a,b] [] pos) (Vd ta):=by
 intro af s σ H R I h;refine Call_ (jQ I hg hm boot_range (qk (eD (ha pos af s σ H _ I h) fun us s1 ⟨vs,H1,I1,r1,q1⟩=>?_) (by rw[hs,oX]) (by rw[oX];rfl)));obtain⟨i,j,e,⟨q1,q2,q3,q4⟩,q⟩:=q1;subst e;cases r1 with
 |cons r rr=>
  cases rr with
  |cons r' rr=>
   cases rr;obtain⟨t,rfl⟩:=r;obtain⟨t',rfl⟩:=r';exact call_range_2 (zP I1 q1 q2 q3 q4 q)
def ZF(wi:TI)(g:TG)(tb:TS):TS:=fun D σ H=>wi σ H fun J H1=>∃W:Nat->Nat->St->Hp->Prop,(∃m,W 0 m σ H1)/\∀i m σ H,W i m σ H->
 (J.stop i H/\D.nx σ H)\/(J.go i H/\∃N:St->Hp->Prop,(∀σ' H',N σ' H'->∃m',m'<m/\W (i+1) m' σ' H')/\∀x H',J.Uj i H x H'->g x σ H' fun σ2 H2=>tb { D with nx:=N,ct:=N,bk:=D.nx } σ2 H2)
def uT(fp:bR)(h:Heap):List (Addr×Obj):=fp.filterMap fun b=>(h.get? b).map fun o=>(b,o)
theorem k6(hb:b∈fp)(e:h.get? b=some o):(b,o)∈uT fp h:=qz.mpr ⟨b,hb,by rw[e];rfl⟩
theorem Ga(hp:p∈uT fp h):p.1∈fp/\h.get? p.1=some p.2:=by
 obtain⟨b,hb,e⟩:=qz.mp hp;cases q:h.get? b with
 |none=>rw[q] at e;cases e
 |some o=>
  rw[q] at e;have e':(b,o)=p:=cB e;subst e';exact⟨hb,q⟩
theorem aU.pinned(I:aU X af σ H s)(hf:∀b∈fp,hZ X af H b)(ho:∀b∈fp,∃o,s.heap.get? b=some o/\∀v,o.data≠.cell v):aU X (af++uT fp s.heap) σ H s:=
 I.ph fun p hp=>(cL.mp hp).elim (fun z=>I.pin p (e_ _ z)) fun z=>by
  obtain⟨hb,e⟩:=Ga z;obtain⟨f0,f1,f2,_⟩:=hf p.1 hb;obtain⟨o,e',d⟩:=ho p.1 hb;rw[e] at e';cases e';exact⟨e,f0,f1,f2,d⟩
theorem aU.pi(I:aU X (af++pl) σ H s):aU X af σ H s:=I.ph fun p hp=>I.pin p (e_ _ (gC _ hp))
theorem du(hp:PassesOwn (model X.prog X.w) X.A X.env X.xe)(hc:X.calm=true)(hi:PI X tg lC wi)(hg:PG X tg g)(hb:Co X body tb)(hs:∀x,foldedSetIterable lC X.env x=pure x:=by intro _;rfl):PS X (.For tg lC body [] pos) (ZF wi g tb):=by
 intro af s σ H D I h;refine wpAny_For (eD (hi af s σ H _ I h) fun v s1 h1=>eD h1 fun Yy s2 h2=>?_) hs;obtain⟨it,fp,tn,J,H2,e,I2,T,lD,f2,W,⟨m0,w0⟩,IY⟩:=h2;subst e;have Cv:∀ {H':Hp},(∀b∈fp,H' b=none)->∀b∈fp,hZ X af H' b:=fun hn b hb=>⟨hn b hb,(f2 b hb).2⟩
 refine codeAny_forLoop_any (fun n s'=>∃i σ' H',aU X af σ' H' s'/\tn i s'.heap/\(∀b∈fp,H' b=none)/\W i n σ' H') ?_ m0 ⟨0,σ,H2,I2,lD,fun b hb=>(f2 b hb).1,w0⟩;rintro n s3 ⟨i,σ3,H3,I3,jq,LX,w3⟩;rcases IY i n σ3 H3 w3 with ⟨stop,qn⟩|⟨go,N,hN,step⟩
 .refine og hp (eD (T.done X rfl rfl rfl hc i af s3 σ3 H3 X.xe I3 (Cv LX) jq stop) fun r s4 ⟨hr,I4⟩=>?_);subst hr;exact xJ ⟨σ3,H3,I4,qn⟩
 .refine og hp (eD (T.item X rfl rfl rfl hc i af s3 σ3 H3 X.xe I3 (Cv LX) jq go) fun r s4 ⟨u,hr,h4⟩=>?_);subst hr;refine og hp (eD h4 fun _ s5 ⟨x,H5,I5,r5,y5,zo,Qy⟩=>?_);have ZG:=I5.pinned (Cv Qy) (T.obj _ _ zo);refine og hp (eD (hg _ s5 σ3 H5 x u _ ZG r5 (step x H5 y5)) fun _ s6 ⟨σ6,H6,I6,q6⟩=>?_);refine og hp (eD (hb _ s6 σ6 H6 _ I6 q6) fun f s7 q7=>?_);have again:∀ {σ7:St} {H7:Hp},aU X (af++uT fp s5.heap) σ7 H7 s7->N σ7 H7->∃m,m<n/\∃i σ' H',aU X af σ' H' s7/\tn i s7.heap/\(∀b∈fp,H' b=none)/\W i m σ' H':=fun {σ7 H7} I7 n7=>by
   obtain⟨m',hm,w7⟩:=hN σ7 H7 n7;refine⟨m',hm,i+1,σ7,H7,I7.pi,T.keep _ _ _ zo fun b hb o e=>(I7.pin (b,o) (e_ _ (e_ _ (k6 hb e)))).1,fun b hb=>?_,w7⟩;obtain⟨o,e,d⟩:=T.obj _ _ zo b hb;exact(I7.pin (b,o) (e_ _ (e_ _ (k6 hb e)))).2.1
  cases f with
  |next=>obtain⟨σ7,H7,I7,n7⟩:=q7;exact again I7 n7
  |cont=>obtain⟨σ7,H7,I7,n7⟩:=q7;exact again I7 n7
  |brk=>obtain⟨σ7,H7,I7,q7⟩:=q7;exact⟨σ7,H7,I7.pi,q7⟩
  |ret v=>obtain⟨x7,σ7,H7,I7,r7,q7⟩:=q7;exact⟨x7,σ7,H7,I7.pi,r7,q7⟩
end
theorem eM{K:a_}{a:Addr}{xs:bg}{g:TG}{tb:TS}{D:Cn}{σ:St}{H:Hp}(Pv:IT)(h0:Pv 0 σ H)(hl:∀i σ H,i<=xs.length->Pv i σ H->a8 K H a xs)(hs:∀i x σ H,xs[i]?=some x->Pv i σ H->g x σ H fun σ2 H2=>tb { D with nx:=Pv (i+1),ct:=Pv (i+1),bk:=D.nx } σ2 H2)(hd:∀σ H,Pv xs.length σ H->D.nx σ H):
  ∃W:Nat->Nat->St->Hp->Prop,(∃m,W 0 m σ H)/\∀i m σ H,W i m σ H->
   ((I0 K a).stop i H/\D.nx σ H)\/((I0 K a).go i H/\∃N:St->Hp->Prop,(∀σ' H',N σ' H'->∃m',m'<m/\W (i+1) m' σ' H')/\∀x H',(I0 K a).Uj i H x H'->g x σ H' fun σ2 H2=>tb { D with nx:=N,ct:=N,bk:=D.nx } σ2 H2):=by
 refine⟨fun i m σ H=>m=xs.length-i/\i<=xs.length/\Pv i σ H,⟨xs.length,by simp,cp _,h0⟩,?_⟩;rintro i m σ H ⟨rfl,hi,p⟩;have q:=hl i σ H hi p;by_cases eX:i<xs.length
 .refine .inr ⟨⟨xs,xs[i],q,by simp[eX]⟩,Pv (i+1),fun σ' H' p'=>⟨xs.length-(i+1),by lia,rfl,eX,p'⟩,fun x H' y=>?_⟩;obtain⟨e,y⟩:=y;subst e;exact hs i x σ _ (y xs q) p
 .have e:i=xs.length:=by lia
  subst e;exact .inl ⟨⟨xs,q,aP _⟩,hd σ H p⟩
theorem eh{lo:Int}{n:Nat}{g:TG}{tb:TS}{D:Cn}{σ:St}{H:Hp}(Pv:IT)(h0:Pv 0 σ H)(hs:∀i σ H,i<n->Pv i σ H->g (.int (lo+i)) σ H fun σ2 H2=>tb { D with nx:=Pv (i+1),ct:=Pv (i+1),bk:=D.nx } σ2 H2)(hd:∀σ H,Pv n σ H->D.nx σ H):
  ∃W:Nat->Nat->St->Hp->Prop,(∃m,W 0 m σ H)/\∀i m σ H,W i m σ H->
   ((H_ lo n).stop i H/\D.nx σ H)\/((H_ lo n).go i H/\∃N:St->Hp->Prop,(∀σ' H',N σ' H'->∃m',m'<m/\W (i+1) m' σ' H')/\∀x H',(H_ lo n).Uj i H x H'->g x σ H' fun σ2 H2=>tb { D with nx:=N,ct:=N,bk:=D.nx } σ2 H2):=by
 refine⟨fun i m σ H=>m=n-i/\i<=n/\Pv i σ H,⟨n,by simp,cp _,h0⟩,?_⟩;rintro i m σ H ⟨rfl,hi,p⟩;by_cases eX:i<n
 .refine .inr ⟨eX,Pv (i+1),fun σ' H' p'=>⟨n-(i+1),by lia,rfl,eX,p'⟩,fun x H' y=>?_⟩;obtain⟨e,y⟩:=y;subst e y;exact hs i σ _ eX p
 .have e:i=n:=by lia
  subst e;exact .inl ⟨aP _,hd σ H p⟩
theorem zQ(Pv:iu)(μ:St->Hp->Nat)(h0:Pv σ H)(hs:∀σ H,Pv σ H->c σ H fun b H1=>if b=true then tb { D with nx:=fun σ' H'=>Pv σ' H'/\μ σ' H'<μ σ H,ct:=fun σ' H'=>Pv σ' H'/\μ σ' H'<μ σ H,bk:=D.nx } σ H1 else D.nx σ H1)(mono:∀σ H Q Q',(∀b H1,Q b H1->Q' b H1)->c σ H Q->c σ H Q'):IX c tb D σ H:=by
 refine⟨fun m σ H=>m=μ σ H/\Pv σ H,⟨_,rfl,h0⟩,?_⟩;rintro m σ H ⟨rfl,p⟩;refine mono σ H _ _ (fun b H1 q=>?_) (hs σ H p);cases b with
 |true=>exact⟨_,fun σ' H' ⟨p',l⟩=>⟨_,l,rfl,p'⟩,q⟩
 |false=>exact q
abbrev R2:=V->V->Hp->VK->Prop
def nr(X:Cx)(f:Value->Value->Sem Value)(r:R2):Prop:=
 ∀ (af:cE) (s:aR) (σ:St) (H:Hp) (x y:V) (v u:Value) (Q:VK),aU X af σ H s->bW x v->bW y u->r x y H Q->
  wpAny (model X.prog X.w) X.A (f v u) (EP X af σ Q) X.xe s
def ZH(X:Cx)(f:Value->Sem Value)(r:V->Hp->VK->Prop):Prop:=
 ∀ (af:cE) (s:aR) (σ:St) (H:Hp) (x:V) (v:Value) (Q:VK),aU X af σ H s->bW x v->r x H Q->
  wpAny (model X.prog X.w) X.A (f v) (EP X af σ Q) X.xe s
def gf(X:Cx)(f:Value)(r:List V->Hp->VK->Prop):Prop:=
 ∀ (af:cE) (s:aR) (σ:St) (H:Hp) (xs:bg) (us:bw) (Q:VK),aU X af σ H s->ba xs us->r xs H Q->
  wpAny (model X.prog X.w) X.A (call f us) (EP X af σ Q) X.xe s
def jS(r:R2)(ta tb:TE):TE:=fun σ H Q=>ta σ H fun x H1=>tb σ H1 fun y H2=>r x y H2 Q
def tUn(r:V->Hp->VK->Prop)(ta:TE):TE:=fun σ H Q=>ta σ H fun x H1=>r x H1 Q
def rI(C:Int->Int->Prop)(g:Int->Int->V):R2:=fun x y H Q=>∃i j,x=.int i/\y=.int j/\C i j/\Q (g i j) H
def zR(g:Int->Int->V):R2:=fun x y H Q=>∃i j,x=.int i/\y=.int j/\Q (g i j) H
def rU(g:Int->V):V->Hp->VK->Prop:=fun x H Q=>∃i,x=.int i/\Q (g i) H
section
variable {X:Cx} {a b c:Expr} {ta tb tc:TE} {pos:Pos}
theorem Qz(ha:PE X a ta)(hb:PE X b tb){af:cE}{s:aR}{σ:St}{H:Hp}{R:V->V->Hp->Prop}(I:aU X af σ H s)(h:ta σ H fun x H1=>tb σ H1 fun y H2=>R x y H2){Q:bV}{f:Value->Value->Sem Value}(hf:∀v u s2 x y H2,aU X af σ H2 s2->bW x v->bW y u->R x y H2->wpAny (model X.prog X.w) X.A (f v u) Q X.xe s2):
  wpAny (model X.prog X.w) X.A (eval a X.env) (fun v s₁=>wpAny (model X.prog X.w) X.A (eval b X.env) (fun u s₂=>wpAny (model X.prog X.w) X.A (f v u) Q X.xe s₂) X.xe s₁) X.xe s:=by
 refine eD (ha af s σ H _ I h) fun v s1 ⟨x,H1,I1,r1,q1⟩=>?_;refine eD (hb af s1 σ H1 _ I1 q1) fun u s2 ⟨y,H2,I2,r2,q2⟩=>?_;exact hf v u s2 x y H2 I2 r1 r2 q2
theorem a9{op:Operator}{r:R2}(ho:nr X (binaryOp op) r)(ha:PE X a ta)(hb:PE X b tb):PE X (.BinOp a op b pos) (jS r ta tb):=by
 intro af s σ H Q I h;exact wpAny_BinOp (Qz ha hb I h fun v u s2 x y H2 I2 rx ry q=>ho af s2 σ H2 x y v u Q I2 rx ry q)
theorem zS(ho:ZH X (unaryOp op) r)(ha:PE X a ta):PE X (.UnaryOp op a pos) (tUn r ta):=by
 intro af s σ H Q I h;exact UnaryOp_ (eD (ha af s σ H _ I h) fun v s1 ⟨x,H1,I1,r1,q1⟩=>ho af s1 σ H1 x v Q I1 r1 q1)
theorem Ve{f:Value->Value->Sem Value}{C:Int->Int->Prop}{g:Int->Int->Int}(rule:∀ (i j:Int) (t u:Tok) (s:aR) (Q:bV) (E:bV),C i j->Q (.int (g i j) s.toks) { s with toks:=s.toks+1 }->wpAny (model X.prog X.w) X.A (f (.int i t) (.int j u)) Q E s):
  nr X f (rI C fun i j=>.int (g i j)):=by
 intro af s σ H x y v u Q I rx ry h;obtain⟨i,j,rfl,rfl,hc,q⟩:=h;obtain⟨t,rfl⟩:=rx;obtain⟨t',rfl⟩:=ry;exact rule i j t t' s _ _ hc ⟨.int (g i j),H,I.tok _,⟨_,rfl⟩,q⟩
theorem Vf{f:Value->Value->Sem Value}{g:Int->Int->Int}(rule:∀ (i j:Int) (t u:Tok) (s:aR) (Q:bV) (E:bV),Q (.int (g i j) s.toks) { s with toks:=s.toks+1 }->wpAny (model X.prog X.w) X.A (f (.int i t) (.int j u)) Q E s):
  nr X f (zR fun i j=>.int (g i j)):=by
 intro af s σ H x y v u Q I rx ry h;obtain⟨i,j,rfl,rfl,q⟩:=h;obtain⟨t,rfl⟩:=rx;obtain⟨t',rfl⟩:=ry;exact rule i j t t' s _ _ ⟨.int (g i j),H,I.tok _,⟨_,rfl⟩,q⟩
theorem Mo{f:Value->Value->Sem Value}{g:Int->Int->Bool}(rule:∀ (i j:Int) (t u:Tok) (s:aR) (Q:bV) (E:bV),Q (.bool (g i j)) s->wpAny (model X.prog X.w) X.A (f (.int i t) (.int j u)) Q E s):
  nr X f (zR fun i j=>.bl (g i j)):=by
 intro af s σ H x y v u Q I rx ry h;obtain⟨i,j,rfl,rfl,q⟩:=h;obtain⟨t,rfl⟩:=rx;obtain⟨t',rfl⟩:=ry;exact rule i j t t' s _ _ ⟨.bl (g i j),H,I,rfl,q⟩
def Vg(i j:Int):Prop:=0<j/\j<1073741824
def ZI(i j:Int):Prop:=0<=j/\j<=1000000/\i.natAbs<2 ^ 64
def Mp(i j:Int):Prop:=(-(2 ^ 64)<i/\i<2 ^ 64)\/(-(2 ^ 64)<j/\j<2 ^ 64)
theorem Mp.ok(h:Mp i j):IntMulOk i j:=by
 rcases h with ⟨h1,h2⟩|⟨h1,h2⟩
 .exact .of_left (intBits_le_64 h1 h2)
 .exact .of_right (intBits_le_64 h1 h2)
theorem dM:nr X (binaryOp .Add) (zR fun i j=>.int (i+j)):=Vf fun _ _ _ _ _ _ _ q=>add_int q
theorem k8:nr X (binaryOp .Sub) (zR fun i j=>.int (i-j)):=Vf fun _ _ _ _ _ _ _ q=>sub_int q
theorem l8:nr X (binaryOp .Mult) (rI Mp fun i j=>.int (i*j)):=Ve fun _ _ _ _ _ _ _ hc q=>mul_int q hc.ok
theorem tK:nr X (binaryOp .FloorDiv) (rI Vg fun i j=>.int (i / j)):=Ve fun i j _ _ _ _ _ hc q=>by
 have h1:(0:Int)<j:=hc.1;have h2:j<1073741824:=hc.2;exact floordiv_int (by lia) (by rw[By i (by lia)];exact q) (.inl (PyProof.noPylong_small (by lia)))
theorem je:nr X (binaryOp .Mod) (rI (fun _ j=>0<j) fun i j=>.int (i % j)):=Ve fun i j _ _ _ _ _ hc q=>by
 have h1:(0:Int)<j:=hc;exact mod_int' (by lia) (by rw[Bx i (by lia)];exact q)
theorem Cw:nr X (binaryOp .Pow) (rI ZI fun i j=>.int (i ^ j.toNat)):=Ve fun _ _ _ _ _ _ _ hc q=>pow_int_small hc.1 hc.2.1 hc.2.2 q
theorem unI{f:Value->Sem Value}{g:Int->Int}(rule:∀ (i:Int) (t:Tok) (s:aR) (Q:bV) (E:bV),Q (.int (g i) s.toks) { s with toks:=s.toks+1 }->wpAny (model X.prog X.w) X.A (f (.int i t)) Q E s):
  ZH X f (rU fun i=>.int (g i)):=by
 intro af s σ H x v Q I rx h;obtain⟨i,rfl,q⟩:=h;obtain⟨t,rfl⟩:=rx;exact rule i t s _ _ ⟨.int (g i),H,I.tok _,⟨_,rfl⟩,q⟩
theorem uU:ZH X (unaryOp .USub) (rU fun i=>.int (-i)):=unI fun _ _ _ _ _ q=>neg_int q
end
def Mq:V->V->Bool
 |.cI,.cI=>true|.cI,.int _=>true|.int _,.cI=>true|.cI,.bl _=>true|.bl _,.cI=>true|.cI,.str _=>true|.str _,.cI=>true
 |.int _,.int _=>true|.bl _,.bl _=>true|.str _,.str _=>true|.HY _,.HY _=>true
 |.int _,.str _=>true|.str _,.int _=>true|.bl _,.str _=>true|.str _,.bl _=>true
 |_,_=>false
def ZJ:R2:=fun x y H Q=>Mq x y=true/\Q (.bl (decide (x=y))) H
def rNe:R2:=fun x y H Q=>Mq x y=true/\Q (.bl (!decide (x=y))) H
theorem Et:decide (V.int i=V.int j)=(i==j):=by
 rw[kQ];simp
theorem I_:decide (V.bl i=V.bl j)=(i==j):=by
 rw[kQ];simp
theorem Eu:decide (V.str i=V.str j)=(i==j):=by
 rw[kQ];simp
theorem Ev:decide (V.HY i=V.HY j)=(i.toList==j.toList):=by
 rw[kQ];cases i;cases j;simp
section
variable {X:Cx} {a b c:Expr} {ta tb tc:TE} {pos:Pos}
theorem cC(I:aU X af σ H s)(q:Q (.bl k) H)(e:k=k'):EP X af σ Q (.bool k') s:=by
 subst e;exact⟨.bl k,H,I,rfl,q⟩
theorem iR:nr X (compareOp .Eq) ZJ:=by
 intro af s σ H x y v u Q I rx ry h;obtain⟨hs,q⟩:=h;cases x with
 |cI=>
  cases rx;cases y with
  |cI=>cases ry;exact PySem.EqNone.eq_none_none (cC I q (by simp))
  |bl j=>cases ry;exact PySem.EqNone.eq_none_bool (cC I q (by simp))
  |int j=>obtain⟨t',rfl⟩:=ry;exact PySem.EqNone.eq_none_int (cC I q (by simp))
  |str j=>obtain⟨t',rfl⟩:=ry;exact PySem.EqNone.eq_none_str (cC I q (by simp))
  |_=>exact absurd (show false=true from hs) di
 |bl i=>
  cases rx;cases y with
  |cI=>cases ry;exact PySem.EqNone.eq_bool_none (cC I q (by simp))
  |bl j=>cases ry;exact eq_bool (cC I q I_)
  |str j=>obtain⟨t',rfl⟩:=ry;exact PySem.EqMixed.eq_bool_str (cC I q (by simp))
  |_=>exact absurd (show false=true from hs) di
 |int i=>
  obtain⟨t,rfl⟩:=rx;cases y with
  |cI=>cases ry;exact PySem.EqNone.eq_int_none (cC I q (by simp))
  |int j=>obtain⟨t',rfl⟩:=ry;exact eq_int (cC I q Et)
  |str j=>obtain⟨t',rfl⟩:=ry;exact PySem.EqMixed.eq_int_str (cC I q (by simp))
  |_=>exact absurd (show false=true from hs) di
 |str i=>
  obtain⟨t,rfl⟩:=rx;cases y with
  |cI=>cases ry;exact PySem.EqNone.eq_str_none (cC I q (by simp))
  |bl j=>cases ry;exact PySem.EqMixed.eq_str_bool (cC I q (by simp))
  |int j=>obtain⟨t',rfl⟩:=ry;exact PySem.EqMixed.eq_str_int (cC I q (by simp))
  |str j=>obtain⟨t',rfl⟩:=ry;exact eq_str (cC I q Eu)
  |_=>exact absurd (show false=true from hs) di
 |HY i=>
  obtain⟨t,rfl⟩:=rx;cases y with
  |HY j=>obtain⟨t',rfl⟩:=ry;exact W.eq_bytes (cC I q Ev)
  |_=>exact absurd (show false=true from hs) di
 |_=>cases y <;> exact absurd (show false=true from hs) di
theorem zU:nr X (compareOp .NotEq) rNe:=by
 intro af s σ H x y v u Q I rx ry h;obtain⟨hs,q⟩:=h;cases x with
 |cI=>
  cases rx;cases y with
  |cI=>cases ry;exact PySem.EqNone.ne_none_none (cC I q (by simp))
  |bl j=>cases ry;exact PySem.EqNone.ne_none_bool (cC I q (by simp))
  |int j=>obtain⟨t',rfl⟩:=ry;exact PySem.EqNone.ne_none_int (cC I q (by simp))
  |str j=>obtain⟨t',rfl⟩:=ry;exact PySem.EqNone.ne_none_str (cC I q (by simp))
  |_=>exact absurd (show false=true from hs) di
 |bl i=>
  cases rx;cases y with
  |cI=>cases ry;exact PySem.EqNone.ne_bool_none (cC I q (by simp))
  |bl j=>cases ry;exact ne_bool (cC I q (congrArg not I_))
  |str j=>obtain⟨t',rfl⟩:=ry;exact PySem.EqMixed.ne_bool_str (cC I q (by simp))
  |_=>exact absurd (show false=true from hs) di
 |int i=>
  obtain⟨t,rfl⟩:=rx;cases y with
  |cI=>cases ry;exact PySem.EqNone.ne_int_none (cC I q (by simp))
  |int j=>obtain⟨t',rfl⟩:=ry;exact ne_int (cC I q (congrArg not Et))
  |str j=>obtain⟨t',rfl⟩:=ry;exact PySem.EqMixed.ne_int_str (cC I q (by simp))
  |_=>exact absurd (show false=true from hs) di
 |str i=>
  obtain⟨t,rfl⟩:=rx;cases y with
  |cI=>cases ry;exact PySem.EqNone.ne_str_none (cC I q (by simp))
  |bl j=>cases ry;exact PySem.EqMixed.ne_str_bool (cC I q (by simp))
  |int j=>obtain⟨t',rfl⟩:=ry;exact PySem.EqMixed.ne_str_int (cC I q (by simp))
  |str j=>obtain⟨t',rfl⟩:=ry;exact ne_str (cC I q (congrArg not Eu))
  |_=>exact absurd (show false=true from hs) di
 |HY i=>
  obtain⟨t,rfl⟩:=rx;cases y with
  |HY j=>obtain⟨t',rfl⟩:=ry;exact W.ne_bytes (cC I q (congrArg not Ev))
  |_=>exact absurd (show false=true from hs) di
 |_=>cases y <;> exact absurd (show false=true from hs) di
theorem nw:nr X (compareOp .Lt) (zR fun i j=>.bl (decide (i<j))):=Mo fun _ _ _ _ _ _ _ q=>lt_int q
theorem O_:nr X (compareOp .LtE) (zR fun i j=>.bl (decide (i<=j))):=Mo fun _ _ _ _ _ _ _ q=>le_int q
theorem Pa:nr X (compareOp .Gt) (zR fun i j=>.bl (decide (j<i))):=Mo fun _ _ _ _ _ _ _ q=>gt_int q
theorem Pb:nr X (compareOp .GtE) (zR fun i j=>.bl (decide (j<=i))):=Mo fun _ _ _ _ _ _ _ q=>ge_int q
theorem Cy:nr X (compareOp .Is) (fun x y H Q=>y=.cI/\Q (.bl (decide (x=.cI))) H):=by
 intro af s σ H x y v u Q I rx ry h;obtain⟨rfl,q⟩:=h;cases ry;refine is_none_gen (cC I q ?_);cases x <;> first
  |(cases rx;rfl)
  |(obtain⟨t,rfl⟩:=rx;rfl)
theorem Ew:nr X (compareOp .IsNot) (fun x y H Q=>y=.cI/\Q (.bl (!decide (x=.cI))) H):=by
 intro af s σ H x y v u Q I rx ry h;obtain⟨rfl,q⟩:=h;cases ry;refine isnot_none_gen (cC I q ?_);cases x <;> first
  |(cases rx;rfl)
  |(obtain⟨t,rfl⟩:=rx;rfl)
theorem bp(b:Expr)(h:op≠.In:=by decide)(h2:op≠.NotIn:=by decide):behindInMarks op b=false:=by
 have e1:(op==CmpOp.In)=false:=by cases op <;> first|rfl|exact absurd rfl h
 have e2:(op==CmpOp.NotIn)=false:=by cases op <;> first|rfl|exact absurd rfl h2
 cases b <;> simp[behindInMarks,e1,e2]
theorem pq(ho:nr X (compareOp op) r)(ha:PE X a ta)(hb:PE X b tb)(hm:behindInMarks op b=false):PE X (.Compare a [op] [b] pos) (jS r ta tb):=by
 intro af s σ H Q I h;exact wpAny_Compare1 (Qz ha hb I h fun v u s2 x y H2 I2 rx ry q=>ho af s2 σ H2 x y v u Q I2 rx ry q) hm
def pA(t:TE):TT:=fun σ H Q=>t σ H fun x H'=>∃k,x=.bl k/\Q k H'
theorem aY(ho:nr X (compareOp op) r)(ha:PE X a ta)(hb:PE X b tb)(hm:behindInMarks op b=false):PT X (.Compare a [op] [b] pos) (pA (jS r ta tb)):=by
 intro af s σ H Q I h;refine wpAny_isTrue_Compare1 (eD (ha af s σ H _ I h) fun v s1 ⟨x,H1,I1,r1,q1⟩=>eD (hb af s1 σ H1 _ I1 q1) fun u s2 ⟨y,H2,I2,r2,q2⟩=>
  eD (ho af s2 σ H2 x y v u _ I2 r1 r2 q2) fun c s3 ⟨z,H3,I3,r3,k,e,q3⟩=>?_) hm
 subst e;cases r3;exact qF ⟨H3,I3,q3⟩
def QA(r r':R2)(ta tb tc:TE):TE:=fun σ H Q=>ta σ H fun x H1=>tb σ H1 fun y H2=>r x y H2 fun z H3=>∃k,z=.bl k/\
 (if k=true then tc σ H3 fun w' H4=>r' y w' H4 Q else Q (.bl false) H3)
theorem Ja(ho:nr X (compareOp op) r)(Mm:nr X (compareOp Vh) r')(ha:PE X a ta)(hb:PE X b tb)(hc:PE X c tc)(hm:lastMarks [op,Vh] [b,c]=false:=by with_unfolding_all rfl):PE X (.Compare a [op,Vh] [b,c] pos) (QA r r' ta tb tc):=by
 intro af s σ H Q I h;refine Compare_chain (eD (ha af s σ H _ I h) fun v s1 ⟨x,H1,I1,r1,q1⟩=>chain_link (eD (hb af s1 σ H1 _ I1 q1) fun u s2 ⟨y,H2,I2,r2,q2⟩=>
  eD (ho af s2 σ H2 x y v u _ I2 r1 r2 q2) fun d s3 ⟨z,H3,I3,r3,k,e,q3⟩=>?_)) hm
 subst e;cases r3;refine qF ?_;cases k with
 |false=>exact ite_ff ⟨.bl false,H3,I3,rfl,q3⟩
 |true=>exact ite_tt (chain_last (eD (hc af s3 σ H3 _ I3 q3) fun w' s4 ⟨z',H4,I4,r4,q4⟩=>Mm af s4 σ H4 y z' u w' Q I4 r2 r4 q4))
theorem xV:(sizeLine:Nat)<2 ^ 63:=by rw[ge];decide
theorem Ex(r:ba [x] us):∃u,us=[u]/\bW x u:=by
 cases r with
 |cons r1 r2=>cases r2;exact⟨_,rfl,r1⟩
theorem Jb(r:ba [x,y] us):∃u w',us=[u,w']/\bW x u/\bW y w':=by
 cases r with
 |cons r1 r2=>
  cases r2 with
  |cons r3 r4=>cases r4;exact⟨_,_,rfl,r1,r3⟩
theorem zV:gf X (.builtin "abs") (fun xs H Q=>∃i,xs=[.int i]/\Q (.int (if i<0 then -i else i)) H):=by
 intro af s σ H xs us Q I r h;obtain⟨i,rfl,q⟩:=h;obtain⟨u,rfl,t,rfl⟩:=Ex r;exact call_abs_int fun u tk=>⟨.int (if i<0 then -i else i),H,I.tok _,⟨_,rfl⟩,q⟩
theorem wA(hc:X.calm=true):gf X (.builtin "max") (fun xs H Q=>∃i j,xs=[.int i,.int j]/\Q (.int (if j > i then j else i)) H):=by
 intro af s σ H xs us Q I r h;obtain⟨i,j,rfl,q⟩:=h;obtain⟨u,w',rfl,⟨t,rfl⟩,⟨t',rfl⟩⟩:=Jb r;refine max_two_ints (I.ok.hd hc) fun h' tk k=>⟨_,H,I.kept k,?_,q⟩
 by_cases hj:j > i
 .rw[ap hj,ap hj];exact⟨_,rfl⟩
 .rw[ao hj,ao hj];exact⟨_,rfl⟩
theorem qW(hc:X.calm=true):gf X (.builtin "min") (fun xs H Q=>∃i j,xs=[.int i,.int j]/\Q (.int (if j<i then j else i)) H):=by
 intro af s σ H xs us Q I r h;obtain⟨i,j,rfl,q⟩:=h;obtain⟨u,w',rfl,⟨t,rfl⟩,⟨t',rfl⟩⟩:=Jb r;refine min_two_ints (I.ok.hd hc) fun h' tk k=>⟨_,H,I.kept k,?_,q⟩
 by_cases hj:j<i
 .rw[ap hj,ap hj];exact⟨_,rfl⟩
 .rw[ao hj,ao hj];exact⟨_,rfl⟩
end
structure Cz(h:Heap)(x dx C:Addr)(mA:cr):Prop where
 obj:h.get? x=some (W.instObj C dx)
 ns:h.Ns1 dx mA
 ne:dx≠x
theorem Gb{h:Heap}{dx:Addr}{mA:cr}(n:h.Ns1 dx mA):∃od,h.get? dx=some od/\∀name,W.lookIn name od=some (mA name):=by
 obtain⟨o,es,ep,ho,hd,hk,_,hm⟩:=n;refine⟨o,ho,fun name=>?_⟩;have e:=hm name;unfold nsFind findBy at e;rw[<-Array.find?_toList] at e;unfold W.lookIn;rw[hd];dsimp only;split
 .rename_i y q;rw[q] at e;exact congrArg some e
 .rename_i q;rw[q] at e;have a:es.toList.any (·.refKey)=false:=by
   rw[ux];intro y hy;obtain⟨z,t,vU⟩:=hk y (Array.mem_toList_iff.mp hy);simp[DictEntry.refKey,vU]
  have a':¬ es.toList.any (·.refKey)=true:=by rw[a];exact di
  rw[ao a'];exact congrArg some e
theorem Cz.look(I:Cz h x dx C mA):∃od,W.InstAt h x (W.instObj C dx) C (some od)/\∀name,W.lookIn name od=some (mA name):=
 let ⟨od,ho,hl⟩:=Gb I.ns
 ⟨od,⟨I.obj,rfl,rfl,ho⟩,hl⟩
section
variable {prog:bL} {w:World} {A:br} {E:bV} {s:aR} {K:a_} {x dx C f:Addr} {mA:cr} {name:Str} {v:Value}
theorem Mr(X:K.In s.heap)(I:Cz s.heap x dx C mA)(hg:W.plainGet K C name=true)(hh:W.hasDictIn K C=true)(ha:W.findIn K (.ref C) name=some none)(hv:mA name=some v)(Gc:W.handedIn v=true)(h:Q v { s with toks:=s.toks+1 }):
  wpAny (model prog w) A (getAttr (.ref x) name Ms) Q E s:=by
 obtain⟨od,J,hl⟩:=I.look;exact W.get_value X J (W.plainGet_of hg).1 (W.findObj_own hh ha rfl (by rw[hl,hv])) Gc h
theorem Jc(X:K.In s.heap)(I:Cz s.heap x dx C mA)(hg:W.plainGet K C name=true)(hf:W.findIn K (.ref C) name=some (some (.ref f)))(ht:W.isFn K (.ref f)=true)(hv:mA name=none)(h:Q (.ref f,[.ref x]) s):
  wpAny (model prog w) A (getMethod (.ref x) name pl) Q E s:=by
 obtain⟨od,J,hl⟩:=I.look;exact W.method_fn X J (W.plainGet_of hg).1 (W.plainGet_of hg).2 hf (gg.mp ht) (by show (W.lookIn name od).map (·.isSome)=some false;rw[hl,hv];rfl) h
theorem Mt(X:K.In s.heap)(I:Cz s.heap x dx C mA)(hs:W.findIn K (.ref C) "__setattr__"=some (some (.builtin "object.__setattr__")))(hp:W.plainOver K C=true)(ht:W.takerIn K C name=some none)(hh:W.hasDictIn K C=true)(hw:PySem.Within mA ns)(iD:ns.length<=sizeLine)(h:∀h',Cz h' x dx C (fun y=>if y=name then some v else mA y)->Heap.SameBut dx s.heap h'->Q () { s with heap:=h',toks:=s.toks+2 }):
  wpAny (model prog w) A (setAttr (.ref x) name v) Q E s:=by
 obtain⟨od,J,hl⟩:=I.look;refine W.set_plain X J hs (W.osa_open (s:={ s with toks:=s.toks+1 }) (r:=none) X J hp ht fun b=>?_);obtain⟨cd,hc,Mn⟩:=W.any_some hh;have hx:s.heap.get? x=some ⟨.ref C,some dx,.plain,#[]⟩:=I.obj;refine au (wpAny_pure (au (au (wpAny_loadPart hx (au (W.Looks.here (s:={ s with toks:=s.toks+1 }) (W.looks_clsIn X hc) ?_))))));rw[Mn];refine wpAny_pure (a:=some dx) (au (wpAny_pure (au ?_)));refine wpAny_nsSet1 (s:={ s with toks:=s.toks+1 }) I.ns fun h' Uk oX=>?_;obtain⟨oD,esD,epD,hoD,Vi,Mu⟩:=Uk.count (PySem.Within.cons name v hw);refine au (wpAny_lookBehind hoD (by rw[Vi];exact pastItsLine_dict (aZ Mu (by rw[fj];lia))) ?_);exact wpAny_pure (h _ ⟨(oX.2 _ (dI I.ne)).trans I.obj,Uk,I.ne⟩ oX)
theorem Jd(X:K.In s.heap)(hm:W.makesIn K C=true)(hi:W.findIn K (.ref C) "__init__"=some (some (.ref f)))(hf:W.typeIn K (.ref f)=some (.type "function"))(h:codeAny (model prog w) (A.under (.builtin "type.__call__" ⟨.ref C::vs,kw⟩)) (.call (.ref f) ⟨.ref (s.heap.objs.size+1)::vs,kw⟩) (W.InitBack (s.heap.objs.size+1) R)
   { s with heap:=(s.heap.push W.emptyDict).push (W.instObj C s.heap.objs.size) }):
  codeAny (model prog w) A (.call (.ref C) ⟨vs,kw⟩) R s:=by
 obtain⟨hh,g,d,t,os⟩:=s;exact W.make_core (W.makes_of X hm) (W.looks_findIn X hi) (fun self=>W.bind_fn X self hf) (.inl rfl) h
theorem Gd(X:K.In s.heap)(hm:W.makesIn K C=true)(hi:W.findIn K (.ref C) "__init__"=some (some (.builtin "object.__init__")))(hb:∀self,W.Looks (model prog w) s.heap (bindSpecial (.builtin "object.__init__") self) (.builtin "object.__init__",[self]))(h:codeAny (model prog w) (A.under (.builtin "type.__call__" ⟨[.ref C],[]⟩)) (.call (.builtin "object.__init__") ⟨[.ref (s.heap.objs.size+1)],[]⟩) (W.InitBack (s.heap.objs.size+1) R)
   { s with heap:=(s.heap.push W.emptyDict).push (W.instObj C s.heap.objs.size) }):
  codeAny (model prog w) A (.call (.ref C) ⟨[],[]⟩) R s:=by
 obtain⟨hh,g,d,t,os⟩:=s;exact W.make_core (W.makes_of X hm) (W.looks_findIn X hi) hb (.inr ⟨rfl,rfl⟩) h
end
def eY(f:Str)(v:V):List (Str×V)->List (Str×V)
 |[]=>[(f,v)]
 |(g,x)::r=>if g=f then (g,v)::r else (g,x)::eY f v r
theorem bS(f g:Str)(v:V):∀fs:List (Str×V),(eY f v fs).lookup g=if g=f then some v else fs.lookup g
 |[]=>by
  show List.lookup g [(f,v)]=_;by_cases h:g=f
  .have hb:(g==f)=true:=gg.mpr h;simp only[List.lookup,hb,ap h]
  .have hb:(g==f)=false:=pb.mpr h;simp only[List.lookup,hb,ao h]
 |(k,x)::r=>by
  have ih:=bS f g v r;rw[show eY f v ((k,x)::r)=(if k=f then (k,v)::r else (k,x)::eY f v r) from rfl];by_cases hk:k=f
  .rw[ap hk];by_cases h:g=k
   .have hb:(g==k)=true:=gg.mpr h;simp only[List.lookup,hb,ap (h.trans hk)]
   .have hb:(g==k)=false:=pb.mpr h;simp only[List.lookup,hb,ao (fun e:g=f=>h (e.trans hk.symm))]
  .rw[ao hk];by_cases h:g=k
   .have hb:(g==k)=true:=gg.mpr h;simp only[List.lookup,hb,ao (fun e:g=f=>hk (h.symm.trans e))]
   .have hb:(g==k)=false:=pb.mpr h;simp only[List.lookup,hb];exact ih
theorem qX(f:Str)(v:V):∀fs:List (Str×V),f∈(eY f v fs).map (·.1)/\∀g,g∈fs.map (·.1)->g∈(eY f v fs).map (·.1)
 |[]=>⟨by simp[eY],fun g h=>by simp at h⟩
 |(k,x)::r=>by
  obtain⟨i1,i2⟩:=qX f v r;rw[show eY f v ((k,x)::r)=(if k=f then (k,v)::r else (k,x)::eY f v r) from rfl];by_cases hk:k=f
  .rw[ap hk];subst hk;exact⟨by simp,fun g h=>by simpa using h⟩
  .rw[ao hk];refine⟨?_,fun g h=>?_⟩
   .rw[gJ];exact dq _ i1
   .rw[gJ] at h |-;rcases bq.mp h with e|e
    .exact bq.mpr (.inl e)
    .exact dq _ (i2 g e)
theorem fA(f:Str)(v:V):∀fs:List (Str×V),(eY f v fs).length<=fs.length+1
 |[]=>by simp[eY]
 |(k,x)::r=>by
  have ih:=fA f v r;rw[show eY f v ((k,x)::r)=(if k=f then (k,v)::r else (k,x)::eY f v r) from rfl];by_cases hk:k=f
  .rw[ap hk,fj,fj];lia
  .rw[ao hk,fj,fj];lia
theorem pc.some_of(r:pc (some v) o):∃u,o=some u/\bW v u:=by
 cases o with
 |none=>exact(show False from r).elim
 |some u=>exact⟨u,rfl,r⟩
theorem pc.none_of(r:pc none o):o=none:=by
 cases o with
 |none=>rfl
 |some u=>exact(show False from r).elim
theorem Ge(r:bW v u):W.handedIn u=true:=by
 cases v with
 |cI=>cases (show u=Value.none from r);rfl
 |bl b=>cases (show u=Value.bool b from r);rfl
 |int i=>obtain⟨t,e⟩:=(show ∃t,u=Value.int i t from r);cases e;rfl
 |str x=>obtain⟨t,e⟩:=(show ∃t,u=Value.str x t from r);cases e;rfl
 |HY b=>obtain⟨t,e⟩:=(show ∃t,u=Value.bytes b t from r);cases e;rfl
 |Qn b=>obtain⟨t,e⟩:=(show ∃t,u=Value.float b t from r);cases e;rfl
 |ref a=>cases (show u=Value.ref a from r);rfl
 |ty n=>cases (show u=Value.type n from r);rfl
section
variable {P:bL} {w:World} {H H':Hp} {h h':Heap} {a C dx:Addr} {fs fs':rO}
theorem tL(cY:oo P w H h)(e:H a=some (.ins C dx fs)):∃mA,Cz h a dx C mA/\(∀f,pc (fs.lookup f) (mA f))/\PySem.Within mA (fs.map (·.1))/\fs.length<=1000/\H dx=some (.own a):=by
 obtain⟨d,z,ne,ob,mA,n,r,q⟩:=(show dB P w H h a (.ins C dx fs) from cY a _ e)
 exact⟨mA,⟨ob,n,ne⟩,r,q,z,d⟩
end
structure Ib(K:a_)(C:Addr):Prop where
 pg:W.plainGet K C Str.empty=true
 hd:W.hasDictIn K C=true
 po:W.plainOver K C=true
 sa:W.findIn K (.ref C) "__setattr__"=some (some (.builtin "object.__setattr__"))
theorem Ib.get{K:a_}{C:Addr}(c:Ib K C)(f:Str):W.plainGet K C f=true:=c.pg
def jf(K:a_)(C:Addr)(f:Str):Prop:=W.findIn K (.ref C) f=some none
theorem jf.Vj{K:a_}{C:Addr}{f:Str}(n:jf K C f):W.takerIn K C f=some none:=by
 unfold W.takerIn;rw[show W.findIn K (.ref C) f=some none from n];rfl
structure QB(K:a_)(C:Addr)(m:Str)(f:Addr):Prop where
 at_:W.findIn K (.ref C) m=some (some (.ref f))
 fn:W.isFn K (.ref f)=true
 kp:W.keepIn K (.ref f)=true
section
variable {X:Cx} {af:cE} {σ:St} {H:Hp} {s:aR} {a C dx:Addr} {fs:rO} {f:Str} {v:V} {A:br} {E:bV}
theorem CC(I:aU X af σ H s)(e:H a=some (.ins C dx fs))(c:Ib X.K C)(n:jf X.K C f)(l:fs.lookup f=some v)(h:∀u s',aU X af σ H s'->bW v u->Q u s'):wpAny (model X.prog X.w) A (getAttr (.ref a) f b) Q E s:=by
 obtain⟨mA,O,r,_,_,_⟩:=tL I.cY e;obtain⟨u,hu,ru⟩:=pc.some_of (v:=v) (o:=mA f) (by rw[<-l];exact r f);exact Mr I.pf O (c.get f) c.hd n hu (Ge ru) (h u _ (I.tok _) ru)
theorem CD(I:aU X af σ H s)(e:H a=some (.ins C dx fs))(c:Ib X.K C)(k:QB X.K C m g)(l:fs.lookup m=none)(h:Q (.ref g,[.ref a]) s):wpAny (model X.prog X.w) A (getMethod (.ref a) m pl) Q E s:=by
 obtain⟨mA,O,r,_,_,_⟩:=tL I.cY e;have hn:mA m=none:=pc.none_of (by rw[<-l];exact r m);exact Jc I.pf O (c.get m) k.at_ k.fn hn h
theorem CG(I:aU X af σ H s)(e:H a=some (.ins C dx fs))(c:Ib X.K C)(n:jf X.K C f)(hl:fs.length<1000)(ry:bW y u)(h:∀s',aU X af σ (upd H a (.ins C dx (eY f y fs))) s'->Q () s'):wpAny (model X.prog X.w) A (setAttr (.ref a) f u) Q E s:=by
 obtain⟨mA,O,r,wi,_,ho⟩:=tL I.cY e;have hz:(fs.map (·.1)).length<=sizeLine:=by rw[aT,ge];lia
 refine Mt I.pf O c.sa c.po n.Vj c.hd wi hz fun h' O' sb=>h _ ?_;have hd:∃o,h'.get? dx=some o:=let ⟨o,_,_,e',_⟩:=O'.ns;⟨o,e'⟩;refine I.write (x:=a) (e:=dx) (by rw[e];exact True.intro) (.inr ho) (fun b q hb z=>(sb.2 b hb).trans z) hd ?_;refine⟨by rw[aq O.ne];exact ho,?_,O.ne,O'.obj,_,O'.ns,fun g=>?_,fun g hg=>?_⟩
 .have:=fA f y fs;lia
 .show pc ((eY f y fs).lookup g) (if g=f then some u else mA g);rw[bS];by_cases q:g=f
  .rw[ap q,ap q];exact ry
  .rw[ao q,ao q];exact r g
 .by_cases q:g=f
  .rw[q];exact(qX f y fs).1
  .refine(qX f y fs).2 g (wi g fun z=>hg ?_);show (if g=f then some u else mA g)=none;rw[ao q];exact z
theorem aU.made(I:aU X af σ H s):aU X af σ (upd (upd H s.heap.objs.size (.own (s.heap.objs.size+1))) (s.heap.objs.size+1) (.ins C s.heap.objs.size []))
  { s with heap:=(s.heap.push W.emptyDict).push (W.instObj C s.heap.objs.size) }:=by
 have e1:(s.heap.push W.emptyDict).get? s.heap.objs.size=some W.emptyDict:=cX s.heap rfl;have e2:((s.heap.push W.emptyDict).push (W.instObj C s.heap.objs.size)).get? (s.heap.objs.size+1)=some (W.instObj C s.heap.objs.size):=by
  have:=cX (s.heap.push W.emptyDict) (o:=W.instObj C s.heap.objs.size) rfl;rwa [jc] at this
 have e3:(s.heap.push W.emptyDict).Ns s.heap.objs.size (fun _=>none):=⟨W.emptyDict,#[],_,e1,rfl,(fun e he=>absurd he (by simp)),fun _=>rfl⟩
 have I1:=I.laid (a:=s.heap.objs.size) (o:=.own (s.heap.objs.size+1)) (h':=s.heap.push W.emptyDict) (t':=s.toks) (fun b u q=>bP _ q) (aP _) ⟨_,e1⟩;refine I1.laid (a:=s.heap.objs.size+1) (o:=.ins C s.heap.objs.size []) (t':=s.toks) (fun b u q=>bP _ q) (qN (jc _ _)) ?_;have ne:s.heap.objs.size≠s.heap.objs.size+1:=bf (lM _);refine⟨by rw[aq ne,ae],cp _,ne,e2,fun _=>none,(Heap.Ns1.of_empty e3).at fun o q=>bP _ q,fun _=>True.intro,fun y hy=>absurd rfl hy⟩
theorem Mv(hb:attributeBase e f env (eval e env)=eval e env)(h:wpAny (model prog w) A (eval e env) (fun o s₁=>wpAny (model prog w) A (getAttr o f true) Q E s₁) E s):wpAny (model prog w) A (eval (.Attribute e f pos) env) Q E s:=
 Attribute_any_ h (by rw[arm_eval_Attribute,hb])
end
def Mw(K:a_)(ta:TE)(f:Str):TE:=fun σ H Q=>ta σ H fun x H1=>∃a C dx fs v,x=.ref a/\H1 a=some (.ins C dx fs)/\Ib K C/\jf K C f/\fs.lookup f=some v/\Q v H1
def ZK(K:a_)(ta tv:TE)(f:Str):TS:=fun D σ H=>tv σ H fun y H1=>ta σ H1 fun x H2=>∃a C dx fs,x=.ref a/\H2 a=some (.ins C dx fs)/\Ib K C/\jf K C f/\fs.length<1000/\
 D.nx σ (upd H2 a (.ins C dx (eY f y fs)))
section
variable {X:Cx} {o e value:Expr} {f:Str} {pos F9 My:Pos} {ta tv:TE}
theorem k9(he:PE X e ta)(hb:attributeBase e f X.env (eval e X.env)=eval e X.env):PE X (.Attribute e f pos) (Mw X.K ta f):=by
 intro af s σ H Q I h;refine Mv hb (eD (he af s σ H _ I h) fun u s1 ⟨x,H1,I1,rx,a,C,dx,fs,v,ex,ea,c,n,l,q⟩=>?_);subst ex;obtain rfl:u=Value.ref a:=rx;exact CC I1 ea c n l fun u' s2 I2 ru=>⟨v,H1,I2,ru,q⟩
theorem uV(ha:PE X o ta)(hv:PE X value tv)(hs:swapsWith value (some (.Attribute o f F9)) pos.line X.env=pure false):PS X (.Assign [.Attribute o f F9] value pos) (ZK X.K ta tv f):=by
 intro af s σ H D I h;refine plainObj_wpAny_Assign_Attribute (eD (hv af s σ H _ I h) fun u s1 ⟨y,H1,I1,ry,q⟩=>eD (ha af s1 σ H1 _ I1 q) fun ov s2 ⟨x,H2,I2,rx,a,C,dx,fs,ex,ea,c,n,l,q2⟩=>?_) hs;subst ex;obtain rfl:ov=Value.ref a:=rx;exact CG I2 ea c n l ry fun s3 I3=>⟨σ,_,I3,q2⟩
end
section
variable {X:Cx} {af:cE} {σ:St} {H:Hp} {s:aR} {A:br} {E:bV} {Q:bV} {c:Value} {b:Bool}
inductive qY (K:a_) (H:Hp):V->Value->Prop where
 |cI:qY K H .cI (.type "NoneType")
 |bl (x:Bool):qY K H (.bl x) (.type "bool")
 |int (i:Int):qY K H (.int i) (.type "int")
 |str (x:Str):qY K H (.str x) (.type "str")
 |Qn (x:UInt64):qY K H (.Qn x) (.type "float")
 |lst {a:Addr} {xs:bg} (e:H a=some (.lst xs)):qY K H (.ref a) (.type "list")
 |zn {a:Addr} {o:Obj} {xs:bg} (e:H a=some (.zn o (.lst xs))):qY K H (.ref a) (.type "list")
 |tup {a:Addr} {xs:bg} (e:H a=some (.tup xs)):qY K H (.ref a) (.type "tuple")
 |dK {a:Addr} {dR:List (iW×V)} (e:H a=some (.dK dR)):qY K H (.ref a) (.type "dict")
 |dT {a:Addr} {dR:List (List iW×V)} (e:H a=some (.dT dR)):qY K H (.ref a) (.type "dict")
 |ins {a C dx:Addr} {fs:rO} (e:H a=some (.ins C dx fs)) (cl:Ib K C) (ha:W.findIn K (.ref C) "__class__"=some (some (.builtin "object.__class__")))
   (hn:W.specialIn K (.builtin "object.__class__") "__get__"=some (some (.builtin "getset_descriptor.__get__"))) (Vk:W.takesIn K (.builtin "object.__class__")=some true)
   (hm:W.mroIn K C (.type "object")=some true):qY K H (.ref a) (.ref C)
theorem wB(I:aU X af σ H s)(rx:bW x u)(ty:qY X.K H x t)(e:W.kitOne X.K t c=some b)(h:∀tk,Q (.bool b) { s with toks:=tk }):
  wpAny (model X.prog X.w) A (call (.builtin "isinstance") [u,c]) Q E s:=by
 cases ty with
 |cI=>cases (show u=Value.none from rx);exact W.kia_one W.kitx_none I.pf True.intro e (fun z=>nomatch z) h
 |bl y=>cases (show u=Value.bool y from rx);exact W.kia_one W.kitx_bool I.pf True.intro e (fun z=>nomatch z) h
 |int i=>obtain⟨t,q⟩:=(show ∃t,u=Value.int i t from rx);cases q;exact W.kia_one W.kitx_int I.pf True.intro e (fun z=>nomatch z) h
 |str y=>obtain⟨t,q⟩:=(show ∃t,u=Value.str y t from rx);cases q;exact W.kia_one W.kitx_str I.pf True.intro e (fun z=>nomatch z) h
 |Qn y=>obtain⟨t,q⟩:=(show ∃t,u=Value.float y t from rx);cases q;exact W.kia_one W.kitx_float I.pf True.intro e (fun z=>nomatch z) h
 |@lst a xs ea=>
  cases (show u=Value.ref a from rx);obtain⟨_,_,n,_,h1⟩:=(show dB X.prog X.w H s.heap a (.lst xs) from I.cY a _ ea)
  exact W.kia_one W.kitx_list I.pf ⟨_,h1,rfl⟩ e (fun z=>nomatch z) h
 |@zn a ob xs ea=>
  cases (show u=Value.ref a from rx);obtain⟨_,_,_,n,_,h1⟩:=(show dB X.prog X.w H s.heap a (.zn ob (.lst xs)) from I.cY a _ ea)
  exact W.kia_one W.kitx_list I.pf ⟨_,h1,rfl⟩ e (fun z=>nomatch z) h
 |@tup a xs ea=>
  cases (show u=Value.ref a from rx);obtain⟨_,_,_,p⟩:=(show dB X.prog X.w H s.heap a (.tup xs) from I.cY a _ ea)
  obtain⟨o,h1,h2,_⟩:=p;exact W.kia_one W.kitx_tuple I.pf ⟨o,h1,h2⟩ e (fun z=>nomatch z) h
 |@dK a dR ea=>
  cases (show u=Value.ref a from rx);obtain⟨_,_,vs,_,p⟩:=(show dB X.prog X.w H s.heap a (.dK dR) from I.cY a _ ea)
  obtain⟨o,es,ep,h1,h2,_⟩:=p;exact W.kia_one W.kitx_dict I.pf ⟨o,h1,h2.1⟩ e (fun z=>nomatch z) h
 |@dT a dR ea=>
  cases (show u=Value.ref a from rx);obtain⟨_,_,xs,_,o,es,ep,h1,h2,_⟩:=(show dB X.prog X.w H s.heap a (.dT dR) from I.cY a _ ea)
  exact W.kia_one W.kitx_dict I.pf ⟨o,h1,h2.1⟩ e (fun z=>nomatch z) h
 |@ins a C dx fs ea cl ha hn Vk hm=>
  cases (show u=Value.ref a from rx);obtain⟨mA,O,_⟩:=tL I.cY ea;obtain⟨od,J,_⟩:=O.look;exact W.kia_one (W.kitx_own (cl.get _) cl.hd ha hn Vk hm) I.pf J e (fun z=>nomatch z) h
end
structure df(k:Nat)(A:br):Prop where
 hd:A.handled=none
 dp:A.depth+3*k+5<recursionLimit
 un:A.units+16*k+200<cLine
 gd:A.guards=some []
theorem df.mono(r:df k A)(h:j<=k):df j A:=⟨r.hd,by have:=r.dp;lia,by have:=r.un;lia,r.gd⟩
theorem df.deeper(r:df (k+1) A)(env:Env):df k (A.deeper env):=
 ⟨r.hd,by have:=r.dp;show A.depth+1+3*k+5<_;lia,by have:=r.un;show A.units+3+16*k+200<_;lia,r.gd⟩
theorem df.in1(r:df (k+1) A):df k A.in1:=
 ⟨r.hd,by have:=r.dp;show A.depth+3*k+5<_;lia,by have:=r.un;show A.units+1+16*k+200<_;lia,r.gd⟩
theorem CH{A:br}{C:Addr}{us:bw}{kw:wq}:(A.under (.builtin "type.__call__" ⟨.ref C::us,kw⟩)).depth=A.depth+1:=by
 first|rfl|simp[Around.under,Code.weight,Code.isCreation,Code.isGuard,Code.isCaller,Code.frames,Code.isFrame,guardIds]
theorem CJ{A:br}{C:Addr}{us:bw}{kw:wq}:(A.under (.builtin "type.__call__" ⟨.ref C::us,kw⟩)).units=A.units+1:=by
 first|rfl|simp[Around.under,Code.cUnits,Code.frames,Code.isFrame]
theorem df.make(r:df (k+1) A)(C:Addr)(us:bw)(kw:wq):df k (A.under (.builtin "type.__call__" ⟨.ref C::us,kw⟩)):=
 ⟨r.hd,by have:=r.dp;rw[CH];lia,by have:=r.un;rw[CJ];lia,r.gd⟩
theorem df.depth(r:df k A):A.depth<recursionLimit:=by have:=r.dp;lia
theorem df.u(r:df k A)(h:n<=200:=by decide):A.units+n<cLine:=by have:=r.un;lia
def h_:TA:=fun _ H Q=>Q [] H
def bJ(ta:TE)(tr:TA):TA:=fun σ H Q=>ta σ H fun x H1=>tr σ H1 fun xs H2=>Q (x::xs) H2
section
variable {X:Cx} {e:Expr} {es:gZ} {te:TE} {t:TA} {pos:Pos}
theorem ag:PA X [] h_:=fun _ _ _ _ H Q I h=>Calls.spliced_nil ⟨[],H,I,.nil,h⟩
theorem aa(ha:PE X e te)(hr:PA X es t)(hs:starEach (e::es) X.env=(false,eval e X.env)::starEach es X.env:=by rfl):PA X (e::es) (bJ te t):=by
 intro pos af s σ H Q I h;rw[hs];show wpAny _ _ (spliced ((false,eval e X.env)::backTo pos (starEach es X.env))) _ _ s;refine Calls.spliced_cons (eD (ha af s σ H _ I h) fun u s1 ⟨x,H1,I1,r1,q1⟩=>?_);exact eD (hr pos af s1 σ H1 _ I1 q1) fun us s2 ⟨xs,H2,I2,r2,q2⟩=>⟨x::xs,H2,I2,.cons r1 r2,q2⟩
def sG(t:TA):TE:=fun σ H Q=>t σ H fun xs H1=>xs.length<=sizeLine/\∀p,H1 p=none->Q (.ref p) (upd H1 p (.tup xs))
def ZL(t:TA):TE:=fun σ H Q=>t σ H fun xs H1=>xs.length<=sizeLine/\∀p,H1 p=none->Q (.ref p) (upd H1 p (.lst xs))
theorem bT{x1}(h:PA X es t):PE X (.Tuple es x1 pos) (sG t):=by
 intro af s σ H Q I hq;refine wpAny_Tuple_spliced (eD (h pos af s σ H _ I hq) fun us s1 ⟨xs,H1,I1,r,z,q⟩=>⟨by rw[<-r.length];exact z,?_⟩);have hf:H1 s1.heap.objs.size=none:=I1.cY.fresh (aP _);refine⟨.ref s1.heap.objs.size,upd H1 s1.heap.objs.size (.tup xs),I1.laid (t':=s1.toks) (fun b u e=>bP _ e) (aP _) ?_,rfl,q _ hf⟩;exact⟨z,us,r,⟨_,cX _ rfl,rfl,_,rfl,rfl⟩⟩
theorem cH(h:PA X es t):PE X (.List es pos) (ZL t):=by
 intro af s σ H Q I hq;refine wpAny_List_spliced (eD (h pos af s σ H _ I hq) fun us s1 ⟨xs,H1,I1,r,z,q⟩=>⟨by rw[<-r.length];exact z,?_⟩);have hf:H1 s1.heap.objs.size=none:=I1.cY.fresh (aP _);refine⟨.ref s1.heap.objs.size,upd H1 s1.heap.objs.size (.lst xs),I1.laid (t':=s1.toks) (fun b u e=>bP _ e) (aP _) ?_,rfl,q _ hf⟩;exact⟨z,us,0,r,cX _ rfl⟩
end
abbrev Sp:=List V->Hp->VK->XK->Prop
abbrev Bk:=List Env->Hp->Shared->XK->Value->Shared->Prop
structure CK(P:bL)(w:World)(K:a_)(mg:cr)(base:Heap)(A:br)(outer:j9)(s:aR)(H:Hp):Prop where
 frames:A.frames=some outer
 mod:Mod K mg base
 bs:∀b o,base.get? b=some o->s.heap.get? b=some o/\H b=none
 IR:base.objs.size<=s.heap.objs.size
 sw:s.heap.FunFrames base outer
 Qp:∀b∈HZ outer,H b=none
 cY:oo P w H s.heap
 bare:AllBare s.gens
def CE(outer:j9)(P:bL)(w:World)(H:Hp)(s:aR)(Q:VK)(u:Value)(s':aR):Prop:=
 ∃v H',s'.os=s.os/\AllBare s'.gens/\Un (HZ outer) [] H H' s.heap s'.heap/\oo P w H' s'.heap/\bW v u/\Q v H'
def CR(CX:Bk)(outer:j9)(P:bL)(w:World)(H:Hp)(s:aR)(Q:VK)(E:XK)(r:Result)(s':aR):Prop:=
 match r with
 |.ok (.ret u)=>CE outer P w H s Q u s'
 |.ok _=>False
 |.error e=>CX outer H s E e s'
structure bU(P:bL)(w:World)(K:a_)(mg:cr)(base:Heap)(CX:Bk)(k:Nat)(f:Addr)(fd:eA)(ps:bQ)(sp:Sp):Prop where
 len:∀vs H Q E,sp vs H Q E->vs.length=ps.length
 run:∀ (A:br) (outer:j9) (s:aR) (H:Hp) (args:Args) (us:bw) (vs:bg) (Q:VK) (E:XK),df k A->CK P w K mg base A outer s H->BindsTo s fd args (ps.zip us)->ba vs us->sp vs H Q E->
  codeAny (model P w) A (.call (.ref f) args) (CR CX outer P w H s Q E) s
theorem CK.make{P:bL}{w:World}{K:a_}{mg:cr}{base:Heap}{A:br}{outer:j9}{s:aR}{H:Hp}(e:CK P w K mg base A outer s H)(C:Addr)(us:bw)(kw:wq):
  CK P w K mg base (A.under (.builtin "type.__call__" ⟨.ref C::us,kw⟩)) outer s H:=⟨by first|exact e.frames|(simpa [Around.under,Code.envs,Code.isFrame,pushEnvs] using e.frames),e.mod,e.bs,e.IR,e.sw,e.Qp,e.cY,e.bare⟩
section
variable {X:Cx} {af:cE} {σ:St} {H:Hp} {s s':aR}
theorem aU.Vl(I:aU X af σ H s):CK X.prog X.w X.K X.mg X.base X.A X.stack s H:=
 ⟨I.ok.frames,I.ok.mod,I.bs,aZ I.ok.IR I.sz,I.stack,I.xT,I.cY,I.bare⟩
theorem aU.after(I:aU X af σ H s)(h:CE X.stack X.prog X.w H s Q u s'):EP X af σ Q u s':=by
 obtain⟨v,H',os,bare,un,cY,r,q⟩:=h;obtain⟨hh,g,d,t,Vm⟩:=s';obtain rfl:Vm=s.os:=os;exact⟨v,H',I.call (h':=hh) (g':=g) (d':=d) (t':=t) (ch:=[]) un cY bare (fun b z=>absurd z (by simp)),r,q⟩
end
def rR(sp:Sp)(vV:bg)(E:XK)(t:TA):TE:=fun σ H Q=>t σ H fun vs H1=>sp (vs++vV) H1 Q E
def Ey(C:Addr)(m:Str)(sp:Sp)(vV:bg)(E:XK)(ta:TE)(t:TA):TE:=fun σ H Q=>ta σ H fun x H1=>∃a dx fs,x=.ref a/\H1 a=some (.ins C dx fs)/\fs.lookup m=none/\
 t σ H1 fun vs H2=>sp (x::(vs++vV)) H2 Q E
def Vn(C:Addr)(sp:Sp)(vV:bg)(E:XK)(t:TA):TE:=fun σ H Q=>t σ H fun vs H1=>∀x dx,H1 x=none->H1 dx=none->dx≠x->
 sp (.ref x::(vs++vV)) (upd (upd H1 dx (.own x)) x (.ins C dx [])) (fun v H2=>v=.cI/\Q (.ref x) H2) E
def lx(K:a_)(fd:eA)(ps:bQ)(ds:bw):Prop:=
 ∀ (s:aR) (us:bw),K.In s.heap->(us++ds).length=ps.length->BindsTo s fd ⟨us,[]⟩ (ps.zip (us++ds))
theorem lx.all{K:a_}{fd:eA}{ps:bQ}(h:∀us:List Value,us.length=ps.length->bindArgs fd ⟨us,[]⟩=pure (ps.zip us)):lx K fd ps []:=fun s us _ hl=>by
 rw[jI] at hl |-;exact .of_eq (h us hl)
def ot(CX:Bk)(X:Cx)(E:XK):Prop:=∀ (af:cE) (σ:St) (H:Hp) (s:aR) (e:Value) (s':aR),aU X af σ H s->CX X.stack H s E e s'->X.xe e s'
section
variable {X:Cx} {CX:Bk} {k:Nat} {f C:Addr} {fd:eA} {ps:bQ} {sp:Sp} {vV:bg} {ds:bw} {E:XK} {x m:Str} {p pos xW:Pos} {e o:Expr} {es:gZ} {ta:TE} {t:TA}
theorem Je(F:bU X.prog X.w X.K X.mg X.base CX k f fd ps sp)(hr:df k X.A)(hb:lx X.K fd ps ds)(hd:ba vV ds)(hx:ot CX X E)(I:aU X af σ H s)(r:ba vs us)(h:sp (vs++vV) H Q E):wpAny (model X.prog X.w) X.A (call (.ref f) us) (EP X af σ Q) X.xe s:=by
 have r2:ba (vs++vV) (us++ds):=r.append hd;have hl:(us++ds).length=ps.length:=by rw[<-r2.length];exact F.len _ _ _ _ h
 refine qR (qQ (F.run X.A X.stack s H ⟨us,[]⟩ (us++ds) (vs++vV) Q E hr I.Vl (hb s us I.pf hl) r2 h) fun r s' hq=>?_);cases r with
 |error e=>exact hx af σ H s e s' I hq
 |ok fl=>
  cases fl with
  |ret u=>exact I.after hq
  |next=>exact False.elim hq
  |brk=>exact False.elim hq
  |cont=>exact False.elim hq
theorem Mz(F:bU X.prog X.w X.K X.mg X.base CX k f fd ps sp)(hr:df k X.A)(hg:Gl X x)(hm:X.mg x=some (.ref f))(hk:W.keepIn X.K (.ref f)=true)(hb:lx X.K fd ps ds)(hd:ba vV ds)(hx:ot CX X E)(ha:PA X (e::es) t)(Gf:(x==("__debug__":Str))=false:=by decide)(he:starEach (e::es) X.env=(false,eval e X.env)::starEach es X.env:=by rfl)(Ic:(backTo pos (starEach es X.env)).any (·.1)=false:=by rfl):
  PE X (.Call (.Name x p) (e::es) [] pos) (rR sp vV E t):=by
 intro af s σ H Q I h;refine nX (tH I hg hm ?_ Gf);refine W.callWith_K (h₀:=X.base) I.ok.mod.UV hk (eD (ha pos af s σ H _ I h) fun us s1 ⟨vs,H1,I1,r,q⟩=>⟨I1.pf,?_⟩) he Ic;exact Je F hr hb hd hx I1 r q
theorem eZ(he:PE X o ta)(c:Ib X.K C)(hm:QB X.K C m f)(F:bU X.prog X.w X.K X.mg X.base CX k f fd ps sp)(hr:df k X.A)(hb:lx X.K fd ps ds)(hd:ba vV ds)(hx:ot CX X E)(ha:PA X (e::es) t)(qg:starEach (e::es) X.env=(false,eval e X.env)::starEach es X.env:=by rfl)(Ic:(backTo pos (starEach es X.env)).any (·.1)=false:=by rfl)(ht:eval (.Call (.Attribute o m xW) (e::es) [] pos) X.env=(do
   let ov <- eval o X.env
   standAt xW.atName
   let (f,first) <- holding [ov] (getMethod ov m pl)
   callWith pos f first (backTo pos (starEach (e::es) X.env)) (backToKw pos (keywordEach [] X.env))):=by rfl):
  PE X (.Call (.Attribute o m xW) (e::es) [] pos) (Ey C m sp vV E ta t):=by
 intro af s σ H Q I h;refine W.methodCall_KW (pl:=pl) (eD (he af s σ H _ I h) fun u s1 ⟨x,H1,I1,rx,a,dx,fs,ex,ea,l,q⟩=>?_) ht;subst ex;obtain rfl:u=Value.ref a:=rx;refine CD I1 ea c hm l ?_;refine W.callWith_K (first:=[.ref a]) (h₀:=X.base) I.ok.mod.UV hm.kp (eD (ha pos af s1 σ H1 _ I1 q) fun us s2 ⟨vs,H2,I2,r,q2⟩=>⟨I2.pf,?_⟩) qg Ic;exact Je (us:=.ref a::us) (vs:=.ref a::vs) F hr hb hd hx I2 (.cons rfl r) q2
structure Mk(K:a_)(C f:Addr):Prop where
 makes:W.makesIn K C=true
 init:W.findIn K (.ref C) "__init__"=some (some (.ref f))
 fn:W.isFn K (.ref f)=true
 kp:W.keepIn K (.ref C)=true
theorem Jf(M:Mk X.K C f)(F:bU X.prog X.w X.K X.mg X.base CX k f fd ps sp)(hr:df (k+1) X.A)(hb:lx X.K fd ps ds)(hd:ba vV ds)(hx:ot CX X E)(I:aU X af σ H s)(r:ba vs us)(h:∀x dx,H x=none->H dx=none->dx≠x->sp (.ref x::(vs++vV)) (upd (upd H dx (.own x)) x (.ins C dx [])) (fun v H2=>v=.cI/\Q (.ref x) H2) E):
  wpAny (model X.prog X.w) X.A (call (.ref C) us) (EP X af σ Q) X.xe s:=by
 have hq:=h (s.heap.objs.size+1) s.heap.objs.size (I.cY.fresh (xP _)) (I.cY.fresh (aP _)) (bf (lM _));have I2:=aU.made (C:=C) I;have r2:ba (V.ref (s.heap.objs.size+1)::(vs++vV)) (Value.ref (s.heap.objs.size+1)::(us++ds)):=.cons rfl (r.append hd);have hl:(Value.ref (s.heap.objs.size+1)::us++ds).length=ps.length:=by
  have e:=r2.length;rw[F.len _ _ _ _ hq] at e;exact e.symm
 refine qR (Jd (f:=f) I.pf M.makes M.init (gg.mp M.fn) (qQ (F.run _ X.stack _ _ ⟨Value.ref (s.heap.objs.size+1)::us,[]⟩ (Value.ref (s.heap.objs.size+1)::(us++ds)) _ _ E (hr.make C us [])
  (I2.Vl.make C us []) (hb _ (Value.ref (s.heap.objs.size+1)::us) I2.pf hl) r2 hq) fun r s' Jg=>?_))
 cases r with
 |error e=>exact hx af σ _ _ e s' I2 Jg
 |ok fl=>
  cases fl with
  |ret u=>
   obtain⟨v,H',I3,rv,ev,q3⟩:=I2.after Jg;subst ev;exact⟨rv,⟨V.ref (s.heap.objs.size+1),H',I3,rfl,q3⟩⟩
  |next=>exact False.elim Jg
  |brk=>exact False.elim Jg
  |cont=>exact False.elim Jg
theorem Ez(M:Mk X.K C f)(F:bU X.prog X.w X.K X.mg X.base CX k f fd ps sp)(hr:df (k+1) X.A)(hg:Gl X x)(hm:X.mg x=some (.ref C))(hb:lx X.K fd ps ds)(hd:ba vV ds)(hx:ot CX X E)(ha:PA X (e::es) t)(Gf:(x==("__debug__":Str))=false:=by decide)(he:starEach (e::es) X.env=(false,eval e X.env)::starEach es X.env:=by rfl)(Ic:(backTo pos (starEach es X.env)).any (·.1)=false:=by rfl):
  PE X (.Call (.Name x p) (e::es) [] pos) (Vn C sp vV E t):=by
 intro af s σ H Q I h;refine nX (tH I hg hm ?_ Gf);refine W.callWith_K (h₀:=X.base) I.ok.mod.UV M.kp (eD (ha pos af s σ H _ I h) fun us s1 ⟨vs,H1,I1,r,q⟩=>⟨I1.pf,?_⟩) he Ic;exact Jf M F hr hb hd hx I1 r q
end
def PK(X:Cx)(Jh:List Keyword)(t:TA):Prop:=
 ∀ (pos:Pos) (af:cE) (s:aR) (σ:St) (H:Hp) (Q:zG),aU X af σ H s->t σ H Q->wpAny (model X.prog X.w) X.A (evalAll ((backToKw pos (keywordEach Jh X.env)).map (·.2))) (AP X af σ Q) X.xe s
section
variable {X:Cx} {CX:Bk} {k:Nat} {f C:Addr} {fd:eA} {ps ks:bQ} {sp:Sp} {E:XK} {x m:Str} {p pos xW ZM:Pos} {e o:Expr} {es:gZ} {Jh:List Keyword} {te ta:TE} {t tk:TA} {nm:Option Str}
theorem uW:PK X [] h_:=fun _ _ _ _ H Q I h=>wpAny_evalAll_nil ⟨[],H,I,.nil,h⟩
theorem pB(ha:PE X e te)(hr:PK X Jh t):PK X (⟨nm,e,ZM⟩::Jh) (bJ te t):=by
 intro pos af s σ H Q I h;show wpAny _ _ (evalAll ((do let v <- eval e X.env;standAt pos;pure v)::(backToKw pos (keywordEach Jh X.env)).map (·.2))) _ _ s;refine wpAny_evalAll_cons (au (eD (ha af s σ H _ I h) fun u s1 ⟨x,H1,I1,r1,q1⟩=>au (oj (wpAny_pure ?_))));exact eD (hr pos af s1 σ H1 _ I1 q1) fun us s2 ⟨xs,H2,I2,r2,q2⟩=>⟨x::xs,H2,I2,.cons r1 r2,q2⟩
variable {g:List Value->List Value->List Value} {gV:List V->List V->List V}
end
structure aN(N P:bQ)(sc:Scope):Prop where
 kind:sc.kind=.function
 co:sc.isCoroutine=false
 gen:sc.isGenerator=false
 nd:N.Nodup
 pre:N.take P.length=P
 par:∀x∈P,sc.names.lookup x=some .local\/sc.names.lookup x=some .cell
 QC:∀y∈sc.names,y.2≠.free
theorem dW{N P:bQ}{sc:Scope}(h:(N.Nodup/\∀x∈P,sc.names.lookup x=some .local\/sc.names.lookup x=some .cell)/\∀y∈sc.names,y.2≠.free)(h1:sc.kind=.function:=by rfl)(h2:sc.isCoroutine=false:=by rfl)(h3:sc.isGenerator=false:=by rfl)(h5:N.take P.length=P:=by rfl):aN N P sc:=⟨h1,h2,h3,h.1.1,h5,h.1.2,h.2⟩
theorem aL{α:Sort u}{a:α}{b:Prop}:a=a\/b:=Or.inl rfl
theorem cW{α:Sort u}{a:α}{b:Prop}:b\/a=a:=Or.inr rfl
theorem wC{kindOf:Ej}{x:Str}:∀ {binds:wq} {m:cr},(∀v,(x,v)∉binds)->bindL kindOf binds m x=m x
 |[],_,_=>rfl
 |(n,v)::r,m,h=>by
  unfold bindL;rw[wC fun w hw=>h w (dq _ hw)];split
  .have:x≠n:=by rintro rfl;exact h v cK
   simp[this]
  .rfl
theorem wD{kindOf:Ej}{x:Str}:∀ {binds:wq} {m:cr},(∀v,(x,v)∉binds)->bindC kindOf binds m x=m x
 |[],_,_=>rfl
 |(n,v)::r,m,h=>by
  unfold bindC;rw[wD fun w hw=>h w (dq _ hw)];split
  .rfl
  .have:x≠n:=by rintro rfl;exact h v cK
   simp[this]
theorem wE{kindOf:Ej}{x:Str}{v:Value}:∀ {P:bQ} {vs:bw} {i:Nat} {m:cr},P.Nodup->P[i]?=some x->vs[i]?=some v->kindOf x=some .local->
  bindL kindOf (P.zip vs) m x=some v
 |[],_,_,_,_,h,_,_=>by simp at h
 |_::_,[],_,_,_,_,h,_=>by simp at h
 |p::P,w::vs,0,m,nd,h1,h2,hk=>by
  simp at h1 h2;subst h1;subst h2;show bindL kindOf ((p,w)::P.zip vs) m p=_;unfold bindL;rw[wC fun v hv=>(gI.mp nd).1 (n_ hv).1,ap hk];simp
 |p::P,w::vs,i+1,m,nd,h1,h2,hk=>by
  show bindL kindOf ((p,w)::P.zip vs) m x=_;unfold bindL;exact wE (i:=i) (gI.mp nd).2 (by simpa using h1) (by simpa using h2) hk
theorem wF{kindOf:Ej}{x:Str}{v:Value}:∀ {P:bQ} {vs:bw} {i:Nat} {m:cr},P.Nodup->P[i]?=some x->vs[i]?=some v->kindOf x≠some .local->
  bindC kindOf (P.zip vs) m x=some v
 |[],_,_,_,_,h,_,_=>by simp at h
 |_::_,[],_,_,_,_,h,_=>by simp at h
 |p::P,w::vs,0,m,nd,h1,h2,hk=>by
  simp at h1 h2;subst h1;subst h2;show bindC kindOf ((p,w)::P.zip vs) m p=_;unfold bindC;rw[wD fun v hv=>(gI.mp nd).1 (n_ hv).1,ao hk];simp
 |p::P,w::vs,i+1,m,nd,h1,h2,hk=>by
  show bindC kindOf ((p,w)::P.zip vs) m x=_;unfold bindC;exact wF (i:=i) (gI.mp nd).2 (by simpa using h1) (by simpa using h2) hk
def start(N:bQ)(vs:bg):St:=vs.map some++List.replicate (N.length-vs.length) none
def l9(CX:Bk)(P:bL)(w:World)(K:a_)(mg:cr)(base:Heap)(N:bQ)(qual:Str)(scope:Scope)(f:Addr)(cd:Value)(A:br)(outer:j9)(s:aR)(H:Hp)(E:XK):Cx where
 prog:=P
 w:=w
 K:=K
 mg:=mg
 base:=base
 A:=A.deeper (envOfC qual scope s.heap.objs.size f cd)
 N:=N
 s₀:=s
 H₀:=H
 env:=envOfC qual scope s.heap.objs.size f cd
 outer:=outer
 stack:=envOfC qual scope s.heap.objs.size f cd::outer
 ex:=[]
 calm:=true
 fn:=fun _=>true
 pn:=[]
 xe:=fun e s'=>wpAny (model P w) (A.deeper (envOfC qual scope s.heap.objs.size f cd)) (leaving (envOfC qual scope s.heap.objs.size f cd) e) (fun _ LY=>CX outer H s E e LY) (fun e' LY=>CX outer H s E e' LY) s'
theorem zW{sc:Scope}{n:Nat}{x:Str}(h:sc.names.lookup x=some .cell):∃c,(cellsFrom n sc.names []).lookup x=some c:=by
 have q:=W.cellsFrom_some sc.names n [] (.inl h);exact xr.mp q
theorem Gg{CX:Bk}{P:bL}{w:World}{K:a_}{mg:cr}{base:Heap}{N ps:bQ}{qual:Str}{scope:Scope}{f:Addr}{cd:Value}{A:br}{outer:j9}{s s1:aR}{H:Hp}{E:XK}{us:bw}{vs:bg}(S:aN N ps scope)(hd:A.handled=none)(e0:CK P w K mg base A outer s H)(hl:vs.length=ps.length)(r:ba vs us)(x:InCallC s s.heap.objs.size (bindL (envOfC qual scope s.heap.objs.size f cd).kindOf (ps.zip us) fun _=>none) (cellsFrom (s.heap.objs.size+1) scope.names []) (bindC (envOfC qual scope s.heap.objs.size f cd).kindOf (ps.zip us) fun _=>none) s1):
  aU (l9 CX P w K mg base N qual scope f cd A outer s H E) [] (start N vs) H s1:=by
 have Ic:ps.length<=N.length:=by have:=congrArg List.length S.pre;rw[kL] at this;lia
 obtain⟨h1,tk,rfl,hk⟩:=x.done;have Ul:∀b:Addr,b∉(l9 CX P w K mg base N qual scope f cd A outer s H E).ex:=fun b z=>absurd (show b∈([]:bR) from z) (by simp);refine⟨⟨e0.mod,S.kind,rfl,rfl,aP _,fun y z c h1 h2=>?_,fun y hy=>?_,fun y c _ h=>?_,fun _=>hd,Around.frames_deeper e0.frames,.inr ⟨rfl,rfl⟩,fun b z=>absurd z (Ul b),e0.bs,e0.IR,fun b _ _=>Ul b,fun b z=>absurd z (Ul b),e0.sw,e0.Qp⟩,
  rfl,e0.bare,Un.kept hk,⟨_,x.toInCall.ns,fun i y v h1 h2 h3=>?_⟩,fun y c h=>⟨_,x.cell y c h⟩,e0.cY.fresh (aP _),fun y c h=>?_,fun p hp=>absurd (show p∈([]:cE) from hp) (by simp),e0.cY.kept hk,?_⟩
 .exact name_of_addr x.apart (lI h1) (lI h2)
 .have hy:scope.names.lookup y=some .cell\/scope.names.lookup y=some .free:=hy;rcases hy with hy|hy
  .exact zW hy
  .exact absurd rfl (S.QC _ (lI hy))
 .exact kX (x.above y c (lI h))
 .have hi:i<vs.length:=by
   unfold start at h2;by_cases hi:i<vs.length
   .exact hi
   .rw[rN (by simpa using hi)] at h2;rw[ud] at h2;split at h2 <;> cases h2
  have ha:vs[i]?=some v:=by
   unfold start at h2;rw[j4 (by simpa using hi),cA] at h2;cases e:vs[i]? with
   |none=>rw[e] at h2;cases h2
   |some a=>rw[e] at h2;cases h2;rfl
  obtain⟨u,hu,rv⟩:=r.get ha;have hp:ps[i]?=some y:=by
   rw[<-S.pre,BF (by lia)];exact h1
  have ndP:ps.Nodup:=by rw[<-S.pre];exact S.nd.sublist (xB _ _)
  refine⟨u,rv,?_⟩;rcases S.par y (dz hp) with k|k
  .exact .inl ⟨k,wE ndP hp hu k⟩
  .obtain⟨c,e⟩:=zW (n:=s.heap.objs.size+1) k;refine .inr ⟨.inl k,c,e,?_⟩;have q:=x.cell y c e;rw[wF ndP hp hu (by show scope.names.lookup y≠_;rw[k];decide)] at q;exact q
 .exact e0.cY.fresh (kX (x.above y c (lI h)))
 .unfold start;show _=N.length;rw[dh,aT,i_];lia
theorem Pc{CX:Bk}{P:bL}{w:World}{K:a_}{mg:cr}{base:Heap}{k:Nat}{f:Addr}{name qual:Str}{params:lY}{body:List Stmt}{scope:Scope}{dV kV pC pm fX ct oc:Value}{an od:jt}{Bm:nh}{N ps:bQ}{sp:Sp}(lk:K.lookup f=some ⟨oc,od,.func (W.fnOf name qual params body scope dV kV pC pm an fX ct),Bm⟩)(wz:W.codeIn K fX qual=true)(S:aN N ps scope)(len:∀vs H Q E,sp vs H Q E->vs.length=ps.length)(zX:∀ (A:br) (outer:j9) (s:aR) (H:Hp) (vs:bg) (Q:VK) (E:XK),df k (A.deeper (envOfC qual scope s.heap.objs.size f fX))->sp vs H Q E->
   ∃t,Co (l9 CX P w K mg base N qual scope f fX A outer s H E) body t/\t { nx:=fun _ H'=>Q .cI H',rt:=Q } (start N vs) H):
  bU P w K mg base CX (k+1) f (W.fnOf name qual params body scope dV kV pC pm an fX ct) ps sp:=by
 refine⟨len,fun A outer s H args us vs Q E hr e0 hb r LZ=>?_⟩;have hl:=len _ _ _ _ LZ;have KX:K.In s.heap:=e0.mod.UV.keeps fun b o e=>(e0.bs b o e).1;have lim:s.heap.NoLimit:=e0.mod.nolimit.keeps fun b o e=>(e0.bs b o e).1;have Vo:∀y∈ps.zip us,scope.names.lookup y.1=some .local\/(scope.names.lookup y.1=some .cell/\((cellsFrom (s.heap.objs.size+1) scope.names []).lookup y.1).isSome=true):=fun ⟨n,v⟩ hy=>by
  rcases S.par n (n_ hy).1 with q|q
  .exact .inl q
  .exact .inr ⟨q,W.cellsFrom_some _ _ _ (.inl q)⟩
 refine codeAny_call_function hr.depth (KX _ _ lk) rfl S.co S.gen rfl (W.codeRec_of KX wz) (hb _ _ _ _ ?_);refine wpAny_newFunctionEnv_cells S.kind Vo fun env he s1 x=>?_;subst he;refine⟨lim.keeps x.toInCall.keep,codeAny_func ?_⟩;obtain⟨t,ht,hq⟩:=zX A outer s H vs Q E (hr.deeper _) LZ;have I:aU (l9 CX P w K mg base N qual scope f fX A outer s H E) [] (start N vs) H s1:=Gg S hr.hd e0 hl r x;refine jL (ht [] s1 (start N vs) H _ I hq) (fun fl s' hs=>?_) fun e s' hs=>hs;have d_:∀ {σ':St} {H':Hp} {v:V} {u:Value},aU (l9 CX P w K mg base N qual scope f fX A outer s H E) [] σ' H' s'->bW v u->Q v H'->CE outer P w H s Q u s':=
  fun {σ' H' v u} J rv q=>⟨v,H',J.os,J.bare,J.base,J.cY,rv,q⟩
 cases fl with
 |ret u=>
  obtain⟨v,σ',H',J,rv,q⟩:=hs;exact d_ J rv q
 |next=>
  obtain⟨σ',H',J,q⟩:=hs;exact d_ (v:=V.cI) (u:=Value.none) J rfl q
 |brk=>
  obtain⟨_,_,_,q⟩:=hs;exact False.elim q
 |cont=>
  obtain⟨_,_,_,q⟩:=hs;exact False.elim q
section
variable {X:Cx} {x:Str} {p pos:Pos} {e:Expr} {es:gZ} {t:TA} {id T:String} {r:List V->Hp->VK->Prop}
def Vp(r:List V->Hp->VK->Prop)(t:TA):TE:=fun σ H Q=>t σ H fun vs H1=>r vs H1 Q
theorem aJ(hc:gf X (.builtin id) r)(hg:Gl X x)(hm:X.mg x=none)(hv:bootBuiltins x=some (.builtin id))(ha:PA X (e::es) t)(hn:x≠"__name__":=by decide)(Gf:(x==("__debug__":Str))=false:=by decide)(he:starEach (e::es) X.env=(false,eval e X.env)::starEach es X.env:=by rfl)(Ic:(backTo pos (starEach es X.env)).any (·.1)=false:=by rfl):PE X (.Call (.Name x p) (e::es) [] pos) (Vp r t):=by
 intro af s σ H Q I h;refine nX (jQ I hg hm hv ?_ hn Gf);exact PyProof.Rows.callWith_builtin1 (eD (ha pos af s σ H _ I h) fun us s1 ⟨vs,H1,I1,r1,q1⟩=>hc af s1 σ H1 vs us Q I1 r1 q1) he Ic
theorem cU(hc:gf X (.type T) r)(hg:Gl X x)(hm:X.mg x=none)(hv:bootBuiltins x=some (.type T))(ha:PA X (e::es) t)(hn:x≠"__name__":=by decide)(Gf:(x==("__debug__":Str))=false:=by decide)(he:starEach (e::es) X.env=(false,eval e X.env)::starEach es X.env:=by rfl)(Ic:(backTo pos (starEach es X.env)).any (·.1)=false:=by rfl):PE X (.Call (.Name x p) (e::es) [] pos) (Vp r t):=by
 intro af s σ H Q I h;refine nX (jQ I hg hm hv ?_ hn Gf);exact qk (eD (ha pos af s σ H _ I h) fun us s1 ⟨vs,H1,I1,r1,q1⟩=>hc af s1 σ H1 vs us Q I1 r1 q1) he Ic
end
end L2
namespace HT
open PySem PyProof.Rows
section
open PySem.SeqAt
open PySem.AutoSeq1 (wpAny_loadPart')
open PySem.MeetsSeq PySem.MeetsSeq2 PySem.MeetsSeq3
end
section
variable {prog:bL} {w:World} {A:br} {E:bV} {s:aR}
def fY(n d:Nat):Option Int->Nat
 |none=>d
 |some v=>if v<0 then (v+(n:Int)).toNat else min v.toNat n
theorem QD(n d:Nat)(hd:d<=n)(o:lu):fY n d o<=n:=by
 cases o with
 |none=>exact hd
 |some v=>
  show (if v<0 then (v+(n:Int)).toNat else min v.toNat n)<=n;by_cases hv:v<0
  .rw[ap hv];lia
  .rw[ao hv];exact Nat.min_le_right _ _
theorem EA(v:Int)(n d:Nat):(if v<0 then max (v+(n:Int)) 0 else min v (n:Int))=((fY n d (some v):Nat):Int):=by
 show (if v<0 then max (v+(n:Int)) 0 else min v (n:Int))=(((if v<0 then (v+(n:Int)).toNat else min v.toNat n):Nat):Int);by_cases hv:v<0
 .simp only[ap hv];lia
 .simp only[ao hv];lia
theorem CL(lo hi:lu)(n:Nat):Builtin.Slice.sliceAdjust lo hi 1 (n:Int)=(((fY n 0 lo:Nat):Int),((fY n n hi:Nat):Int)):=by
 have h1:¬ ((1:Int)<0):=by lia
 unfold Builtin.Slice.sliceAdjust;simp only[h1,eG];refine iH ?_ ?_
 .cases lo with
  |none=>rfl
  |some v=>exact EA v n 0
 .cases hi with
  |none=>rfl
  |some v=>exact EA v n n
theorem CM(i j:Nat):Builtin.Slice.slicePlaces (i:Int) (j:Int) 1=j-i:=by
 unfold Builtin.Slice.slicePlaces;have h1:(1:Int) > 0:=by lia
 simp only[h1,jN,Int.ediv_one];split <;> lia
theorem uX(p:IsPart v o)(h:Q o s):wpAny (model prog w) A (Builtin.Slice.slicePartIndex v) Q E s:=by
 cases p with
 |none=>exact slicePart_none h
 |int i t=>exact slicePart_int h
theorem kh{sl:Addr}{vl vu:Value}{lo hi:lu}{n:Nat}{Q:Int×Int×Nat->Shared->Prop}(hs:s.heap.IsSliceOf sl vl vu .none)(pl:IsPart vl lo)(pu:IsPart vu hi)(h:Q (((fY n 0 lo:Nat):Int),1,fY n n hi-fY n 0 lo) s):wpAny (model prog w) A (Builtin.Slice.sliceApplied (.ref sl) (pure (n:Int))) Q E s:=by
 obtain⟨os,L3,Yz,L4⟩:=id hs;unfold Builtin.Slice.sliceApplied Builtin.Slice.sliceFields;refine au (au (gc L3 L4 (x:=vl) rfl (au (gc L3 L4 (x:=vu) rfl (au (gc L3 L4 (x:=.none) rfl (wpAny_pure ?_)))))));refine au (slicePart_none ?_);show wpAny _ _ (if ((1:Int)==0)=true then _ else _) _ _ s;rw[ao (by decide)];refine au (uX pl (au (uX pu (au (wpAny_pure ?_)))));show wpAny _ _ (match Builtin.Slice.sliceAdjust lo hi 1 (n:Int) with|(lo,hi)=>pure (lo,(1:Int),Builtin.Slice.slicePlaces lo hi 1)) _ _ s;rw[CL lo hi n];show wpAny _ _ (pure (((fY n 0 lo:Nat):Int),(1:Int),Builtin.Slice.slicePlaces ((fY n 0 lo:Nat):Int) ((fY n n hi:Nat):Int) 1)) _ _ s;rw[CM];exact wpAny_pure h
theorem Ji(xs:bD)(i k:Nat):((List.range k).filterMap fun (m:Nat)=>xs[((i:Int)+(m:Int)*1).toNat]?).toArray=((xs.toList.drop i).take k).toArray:=by
 have e:(fun (m:Nat)=>xs[((i:Int)+(m:Int)*1).toNat]?)=fun m=>xs[i+m]?:=by
  funext m;have:((i:Int)+(m:Int)*1).toNat=i+m:=by lia
  rw[this]
 rw[e];have:=pick_run xs i k;rw[List.filterMap_map] at this;have e2:((fun x=>xs[x]?) ∘ fun x=>i+x)=fun m=>xs[i+m]?:=rfl;rw[e2] at this;rw[this]
theorem pD{t sl:Addr}{items:bD}{vl vu:Value}{lo hi:lu}{Q:bV}(ht:IsTup s.heap t items)(hs:s.heap.IsSliceOf sl vl vu .none)(pl:IsPart vl lo)(pu:IsPart vu hi)(hw:¬ (fY items.size 0 lo=0/\fY items.size items.size hi=items.size))(h:Q (.ref s.heap.objs.size) { s with heap:=s.heap.push { cls:=.type "tuple",data:=.seq ((items.toList.drop (fY items.size 0 lo)).take (fY items.size items.size hi-fY items.size 0 lo)).toArray } })(iD:items.size<=sizeLine):wpAny (model prog w) A (getItem (.ref t) (.ref sl)) Q E s:=by
 have EB:sizeOk (.seq ((items.toList.drop (fY items.size 0 lo)).take (fY items.size items.size hi-fY items.size 0 lo)).toArray):=by
  show ((items.toList.drop (fY items.size 0 lo)).take (fY items.size items.size hi-fY items.size 0 lo)).toArray.size<=sizeLine;rw[ce,kL,kM,lJ];lia
 have hj:fY items.size items.size hi<=items.size:=QD _ _ (aP _) hi;obtain⟨os,L3,Yz,L4⟩:=id hs;have ZN:s.TypeIs (.ref sl) "slice":=⟨os,L3,Yz⟩
 unfold getItem;try with_reducible refine gK ?_
 first|refine au (wpAny_pure ?_)|skip
 refine au (wpAny_sequenceKey ht.typeIs (by decide) ?_);refine au (o5 (name:=Str.ofString "__getitem__") ht.typeIs wo
  (lN wo ht.typeIs entry_tuple_getitem ?_ (args_tuple_getitem _ _)))
 show wpAny _ _ (Builtin.Tuple.tupleItemsOf (.ref t) >>= _) _ _ s;refine au (tupleItemsOf_ ht ?_);refine au (qP ZN ?_);rw[ap (by decide)];refine au (kh hs pl pu ?_);have MA:¬ ((((fY items.size 0 lo:Nat):Int)==0&&(1:Int)==1&&(fY items.size items.size hi-fY items.size 0 lo)==items.size)=true):=by
  intro q;rw[gm,gm] at q;have q1:((fY items.size 0 lo:Nat):Int)=0:=eq_of_beq q.1.1;have q2:fY items.size items.size hi-fY items.size 0 lo=items.size:=eq_of_beq q.2;exact hw ⟨by lia,by lia⟩
 show wpAny _ _ (if (((fY items.size 0 lo:Nat):Int)==0&&(1:Int)==1&&(fY items.size items.size hi-fY items.size 0 lo)==items.size)=true then _ else _) _ _ s;rw[ao MA,Ji];first
  |exact au (m:=Builtin.Tuple.tupleExact _) (kK (wpAny_pure ⟨_,rfl,wpAny_pure h⟩) EB)
  |exact au (m:=Builtin.Tuple.tupleExact _) (kK (au (wpAny_pure (wpAny_pure ⟨_,rfl,wpAny_pure h⟩))) EB)
  |exact au (au (m:=Builtin.Tuple.tupleExact _) (kK (wpAny_pure (wpAny_pure ⟨_,rfl,wpAny_pure h⟩)) EB))
  |exact au (au (m:=Builtin.Tuple.tupleExact _) (kK (wpAny_pure ⟨_,rfl,wpAny_pure h⟩) EB))
end
end HT
namespace L2
open PySem PySem.Spec PyProof.Rows
abbrev TO:=St->Hp->(Option Int->Hp->Prop)->Prop
def PO(X:Cx)(e:Option Expr)(t:TO):Prop:=
 ∀ (af:cE) (s:aR) (σ:St) (H:Hp) (Q:Option Int->Hp->Prop),aU X af σ H s->t σ H Q->
  wpAny (model X.prog X.w) X.A (evalPart e X.env) (fun u s'=>∃o H',aU X af σ H' s'/\IsPart u o/\Q o H') X.xe s
def MB:TO:=fun _ H Q=>Q none H
def Vq(t:TE):TO:=fun σ H Q=>t σ H fun x H1=>∃i,x=.int i/\Q (some i) H1
section
variable {X:Cx} {e:Expr} {te:TE} {lo hi:Option Expr} {tl th:TO} {pos p2:Pos}
theorem pE:PO X none MB:=by
 intro af s σ H Q I h;rw[evalPart_none];exact wpAny_pure ⟨none,H,I,.none,h⟩
theorem pF(h:PE X e te):PO X (some e) (Vq te):=by
 intro af s σ H Q I hw;rw[evalPart_some];refine eD (h af s σ H _ I hw) fun u s1 ⟨x,H1,I1,r1,q1⟩=>?_;obtain⟨i,rfl,q⟩:=q1;obtain⟨t,rfl⟩:=r1;exact⟨some i,H1,I1,.int i t,q⟩
def YA(X:Cx)(r:V->Option Int->Option Int->Hp->VK->Prop):Prop:=
 ∀ (af:cE) (s:aR) (σ:St) (H:Hp) (x:V) (v vl vu:Value) (lo hi:lu) (sl:Addr) (Q:VK),aU X af σ H s->bW x v->s.heap.IsSliceOf sl vl vu .none->IsPart vl lo->IsPart vu hi->r x lo hi H Q->
  ∃T id,typeLookup (.type T) "__getitem__"=pure (some (.builtin id))/\s.TypeIs v T/\wpAny (model X.prog X.w) X.A (getItem v (.ref sl)) (EP X af σ Q) X.xe s
def tSl(r:V->Option Int->Option Int->Hp->VK->Prop)(te:TE)(tl th:TO):TE:=fun σ H Q=>te σ H fun x H1=>tl σ H1 fun l H2=>th σ H2 fun u H3=>r x l u H3 Q
theorem l_(hr:YA X r)(he:PE X e te)(hl:PO X lo tl)(hu:PO X hi th):PE X (.Subscript e (.Slice lo hi none p2) pos) (tSl r te tl th):=by
 intro af s σ H Q I h;refine Subscript_ (eD (he af s σ H _ I h) fun v s1 ⟨x,H1,I1,r1,q1⟩=>?_);refine wpAny_Slice (eD (hl af s1 σ H1 _ I1 q1) fun vl s2 ⟨l,H2,I2,pl,q2⟩=>eD (hu af s2 σ H2 _ I2 q2) fun vu s3 ⟨u,H3,I3,pu,q3⟩=>?_);rw[evalPart_none];refine wpAny_pure ?_;have I4:aU X af σ H3 { s3 with heap:=s3.heap.push { cls:=.type "slice",data:=.fields #[vl,vu,.none] } }:=I3.kept (t':=s3.toks) fun b ob q=>bP _ q;obtain⟨T,id,hT,ht,hg⟩:=hr af { s3 with heap:=s3.heap.push { cls:=.type "slice",data:=.fields #[vl,vu,.none] } } σ H3 x v vl vu l u s3.heap.objs.size Q I4 r1 (Heap.IsSliceOf.new ..) pl pu q3;show wpAny (model X.prog X.w) X.A (subscriptTail e (.Slice lo hi none p2) v (.ref s3.heap.objs.size)) (EP X af σ Q) X.xe { s3 with heap:=s3.heap.push { cls:=.type "slice",data:=.fields #[vl,vu,.none] } };exact tail_any (ops:=[.ref s3.heap.objs.size,v]) ht hT hg (by with_unfolding_all rfl)
def iw(xs:bg)(lo hi:lu):List V:=(xs.drop (HT.fY xs.length 0 lo)).take (HT.fY xs.length xs.length hi-HT.fY xs.length 0 lo)
theorem ju(xs:bg)(lo hi:lu):(iw xs lo hi).length<=xs.length:=by
 unfold iw;rw[kL,kM];lia
def ZO(K:a_):V->Option Int->Option Int->Hp->VK->Prop:=fun x lo hi H Q=>∃a xs,x=.ref a/\cu K H a xs/\
 ¬ (HT.fY xs.length 0 lo=0/\HT.fY xs.length xs.length hi=xs.length)/\∀p,H p=none->Q (.ref p) (upd H p (.tup (iw xs lo hi)))
theorem QE:YA X (ZO X.K):=by
 intro af s σ H x v vl vu lo hi sl Q I rx hs pl pu h;obtain⟨a,xs,rfl,hx,hw,q⟩:=h;cases rx;obtain⟨its,r,ht,hz⟩:=I.tuple hx;have e8:its.toArray.size=xs.length:=by rw[ce];exact r.length.symm
 refine⟨"tuple",_,wo.lookup,ht.typeIs,?_⟩;refine HT.pD ht hs pl pu (by rw[e8];exact hw) ?_ (by rw[e8];exact hz);rw[e8];refine⟨.ref s.heap.objs.size,_,I.laid (t':=s.toks) (o:=.tup (iw xs lo hi)) (fun b ob q=>bP _ q) (aP _) ?_,rfl,q _ (I.cY.fresh (aP _))⟩;exact⟨aZ (ju xs lo hi) hz,_,(r.drop (HT.fY xs.length 0 lo)).take (HT.fY xs.length xs.length hi-HT.fY xs.length 0 lo),l0.new _ _⟩
theorem ba.tP(r:ba xs us):us=[]↔xs=[]:=by
 cases r with
 |nil=>simp
 |cons _ _=>simp
end
def Jj(n:Nat)(i:Int):Option Nat:=if 0<=i then (if i<n then some i.toNat else none) else if -(n:Int)<=i then some (i+n).toNat else none
def zY{α:Type}(xs:List α)(i:Int):Option α:=(Jj xs.length i).bind fun j=>xs[j]?
theorem xX(h:Jj n i=some j):seqIndex? i n=some j/\j<n/\-(n:Int)<=i/\i<n:=by
 unfold Jj at h;by_cases h0:0<=i
 .rw[ap h0] at h;by_cases h1:i<n
  .rw[ap h1] at h;have e:i.toNat=j:=cB h;exact⟨by rw[seqIndex_of h0 h1,e],by lia,by lia,h1⟩
  .rw[ao h1] at h;cases h
 .rw[ao h0] at h;by_cases h1:-(n:Int)<=i
  .rw[ap h1] at h;have e:(i+n).toNat=j:=cB h;exact⟨by rw[seqIndex_neg (by lia) h1,e],by lia,h1,by lia⟩
  .rw[ao h1] at h;cases h
theorem EC(h:zY xs i=some v):∃j,seqIndex? i xs.length=some j/\xs[j]?=some v/\j<xs.length/\-(xs.length:Int)<=i/\i<xs.length:=by
 unfold zY at h;cases e:Jj xs.length i with
 |none=>rw[e] at h;cases h
 |some j=>
  rw[e] at h;obtain⟨h1,h2,h3,h4⟩:=xX e;exact⟨j,h1,h,h2,h3,h4⟩
theorem aD{α:Type}{xs:List α}{j:Nat}{v:α}(h:xs[j]?=some v):zY xs (j:Int)=some v:=by
 have hj:j<xs.length:=(eR.mp h).1;have e:Jj xs.length (j:Int)=some j:=by
  unfold Jj;rw[ap (by lia),ap (by lia)];simp
 unfold zY;rw[e];exact h
theorem zZ(xs:List α)(v:α):zY (xs++[v]) (-1)=some v:=by
 have hl:(xs++[v]).length=xs.length+1:=by simp
 have e:Jj (xs++[v]).length (-1)=some xs.length:=by
  unfold Jj;rw[hl,ao (by decide),ap (by lia)];congr 1;lia
 unfold zY;rw[e];show (xs++[v])[xs.length]?=some v;simp
def ME(b:Expr):Prop:=∀o i,subscripted b false o i=operate [o,i] (getItem o i)
def ZP(X:Cx)(r:R2):Prop:=
 ∀ (value slice:Expr) (af:cE) (s:aR) (σ:St) (H:Hp) (x y:V) (v u:Value) (Q:VK),aU X af σ H s->bW x v->bW y u->r x y H Q->
  subscripted slice false v u=operate [v,u] (getItem v u)->wpAny (model X.prog X.w) X.A (subscriptTail value slice v u) (EP X af σ Q) X.xe s
def MtR(X:Cx)(id:String)(r:V->List V->Hp->VK->Prop):Prop:=
 ∀ (af:cE) (s:aR) (σ:St) (H:Hp) (x:V) (xs:bg) (v:Value) (us:bw) (Q:VK),aU X af σ H s->bW x v->ba xs us->r x xs H Q->
  wpAny (model X.prog X.w) X.A (call (.builtin id) (v::us)) (EP X af σ Q) X.xe s
section
variable {X:Cx} {a b:Expr} {ta tb:TE} {pos:Pos}
theorem aX(hr:ZP X r)(ha:PE X a ta)(hb:PE X b tb)(hs:ME b):PE X (.Subscript a b pos) (jS r ta tb):=by
 intro af s σ H Q I h;exact Subscript_ (Qz ha hb I h fun v u s2 x y H2 I2 rx ry q=>hr a b af s2 σ H2 x y v u Q I2 rx ry q (hs _ _))
def sI(K:a_):R2:=fun x y H Q=>∃p xs i v,x=.ref p/\y=.int i/\a8 K H p xs/\zY xs i=some v/\Q v H
def z4(K:a_):R2:=fun x y H Q=>∃p xs i v,x=.ref p/\y=.int i/\cu K H p xs/\zY xs i=some v/\Q v H
theorem aG:ZP X (sI X.K):=by
 intro value slice af s σ H x y v u Q I rx ry h hs;obtain⟨p,xs,i,z,rfl,rfl,hq,he,q⟩:=h;cases rx;obtain⟨t,rfl⟩:=ry;obtain⟨its,r,pl,hz⟩:=I.list hq;obtain⟨j,h1,h2,h3,h4,h5⟩:=EC he;obtain⟨w,ew,vT⟩:=r.get h2;have hl:=r.length;have hn:=xV;have d_:EP X af σ Q w s:=⟨z,H,I,vT,q⟩
 by_cases h0:0<=i
 .have hj:i.toNat=j:=by
   rw[seqIndex_of h0 h5] at h1;exact cB h1
  exact item_listR pl.isList h0 (by lia) (by rw[hj];simpa using ew) d_ hs
 .have hj:(i+(its.toArray.size:Int)).toNat=j:=by
   rw[seqIndex_neg (by lia) h4] at h1;rw[ce,<-hl];exact cB h1
  exact subscriptTail_builtinR (x:=w) pl.isList.typeIs slot_list_getitem.lookup
   (wpAny_getItem_list_neg (Q:=fun r s'=>r=w/\EP X af σ Q r s') pl.isList (by lia) (by rw[ce] <;> lia) (by lia) (by rw[hj];simpa using ew) ⟨rfl,d_⟩) hs
theorem eN:ZP X (z4 X.K):=by
 intro value slice af s σ H x y v u Q I rx ry h hs;obtain⟨p,xs,i,z,rfl,rfl,hq,he,q⟩:=h;cases rx;obtain⟨t,rfl⟩:=ry;obtain⟨its,r,pl,hz⟩:=I.tuple hq;obtain⟨j,h1,h2,h3,h4,h5⟩:=EC he;obtain⟨w,ew,vT⟩:=r.get h2;have hl:=r.length;have hn:=xV;have d_:EP X af σ Q w s:=⟨z,H,I,vT,q⟩
 exact subscriptTail_builtinR (x:=w) pl.typeIs slot_tuple_getitem.lookup
  (getItem_tuple (j:=j) (Q:=fun r s'=>r=w/\EP X af σ Q r s') pl (by lia) (by lia) (by rw[ce,<-hl];exact h1) (by simpa using ew) ⟨rfl,d_⟩) hs
theorem CO(its:bw)(n j:Nat)(u:Value):Obj.mapSeq (·.setIfInBounds j u) { cls:=.type "list",data:=.seq its.toArray n }={ cls:=.type "list",data:=.seq (its.set j u).toArray n }:=by
 simp[Obj.mapSeq]
theorem aU.lst(I:aU X af σ H s)(h:H p=some (.lst xs)):
  ∃ (its:bw) (n:Nat),ba xs its/\s.heap.get? p=some { cls:=.type "list",data:=.seq its.toArray n }/\xs.length<=sizeLine:=by
 obtain⟨z,its,n,r,e⟩:=I.cY p _ h;exact⟨its,n,r,e,z⟩
theorem aU.QF{af:cE}{σ:St}{H:Hp}{s:aR}{p:Addr}{xs ys:bg}{its its':bw}{n n':Nat}{f:Obj->Obj}(I:aU X af σ H s)(h:H p=some (.lst xs))(ho:s.heap.get? p=some { cls:=.type "list",data:=.seq its.toArray n })(hf:f { cls:=.type "list",data:=.seq its.toArray n }={ cls:=.type "list",data:=.seq its'.toArray n' })(r:ba ys its')(hz:ys.length<=sizeLine)(t:Nat):
  aU X af σ (upd H p (.lst ys)) { s with heap:=s.heap.update p f,toks:=t }:=by
 have e:(s.heap.update p f).get? p=some { cls:=.type "list",data:=.seq its'.toArray n' }:=by
  rw[nU f ho (by rw[hf] <;> rfl),hf]
 refine I.write (x:=p) (e:=p) (by rw[h];trivial) (.inl rfl) (fun b u hb q=>(nM _ _ (dI hb)).trans q) ⟨_,e⟩ ?_;exact⟨hz,its',n',r,e⟩
def Vr:V->V->V->Hp->(Hp->Prop)->Prop:=fun o i v H Q=>∃p xs k j,o=.ref p/\i=.int k/\H p=some (.lst xs)/\Jj xs.length k=some j/\Q (upd H p (.lst (xs.set j v)))
theorem dY:Va X Vr:=by
 intro af s σ H o i v ov iv u Q I ro ri rv h;obtain⟨p,xs,k,j,rfl,rfl,hp,hj,q⟩:=h;cases ro;obtain⟨t,rfl⟩:=ri;obtain⟨its,n,r,ho,hz⟩:=I.lst hp;obtain⟨h1,h2,h3,h4⟩:=xX hj;have hl:=r.length;have hn:=xV;have I':aU X af σ (upd H p (.lst (xs.set j v))) { s with heap:=s.heap.update p (Obj.mapSeq (·.setIfInBounds j u)) }:=
  I.QF hp ho (CO its n j u) (r.set rv j) (by rw[jb];exact hz) s.toks
 by_cases h0:0<=k
 .have hk:k.toNat=j:=by
   rw[seqIndex_of h0 h4] at h1;exact cB h1
  exact W.ki_setAt ho h0 (by lia) (by rw[ce,<-hl];exact h4) (by rw[hk];exact⟨_,I',q⟩)
 .have hk:(k+(its.toArray.size:Int)).toNat=j:=by
   rw[seqIndex_neg (by lia) h3] at h1;rw[ce,<-hl];exact cB h1
  exact W.ki_setBack ho (by lia) (by rw[ce,<-hl];exact h3) (by lia) (by rw[hk];exact⟨_,I',q⟩)
theorem xY(lo hi:lu)(n:Nat):(sliceBounds lo hi none n).1=((HT.fY n 0 lo:Nat):Int)/\(sliceBounds lo hi none n).2.1=((HT.fY n n hi:Nat):Int)/\(sliceBounds lo hi none n).2.2=1:=by
 refine⟨?_,?_,rfl⟩
 .cases lo with
  |none=>simp[sliceBounds,HT.fY]
  |some i=>
   simp only[sliceBounds,HT.fY,Option.getD_none,show (1:Int) > 0 by decide,jN];by_cases h:i<0
   .simp only[h,jN] <;> lia
   .simp only[h,eG] <;> lia
 .cases hi with
  |none=>simp[sliceBounds,HT.fY]
  |some i=>
   simp only[sliceBounds,HT.fY,Option.getD_none,show (1:Int) > 0 by decide,jN];by_cases h:i<0
   .simp only[h,jN] <;> lia
   .simp only[h,eG] <;> lia
theorem vW(its:bw)(lo hi:lu):slicePick its.toArray lo hi none=((its.drop (HT.fY its.length 0 lo)).take (HT.fY its.length its.length hi-HT.fY its.length 0 lo)).toArray:=by
 obtain⟨h1,h2,h3⟩:=xY lo hi its.toArray.size;unfold slicePick;rw[h1,h2,h3];simp only[sliceRange_one,pick_run,ce] <;> rfl
def ZQ(K:a_):V->Option Int->Option Int->Hp->VK->Prop:=fun x lo hi H Q=>∃a xs,x=.ref a/\a8 K H a xs/\∀p,H p=none->Q (.ref p) (upd H p (.lst (iw xs lo hi)))
theorem xZ:YA X (ZQ X.K):=by
 intro af s σ H x v vl vu lo hi sl Q I rx hs pl pu h;obtain⟨a,xs,rfl,hx,q⟩:=h;cases rx;obtain⟨its,r,ht,hz⟩:=I.list hx;have e8:=r.length;refine⟨"list",_,slot_list_getitem.lookup,ht.isList.typeIs,?_⟩;refine wpAny_getItem_list_slice ht.isList hs pl pu .none (by simp) ?_ (by rw[ce] <;> lia);rw[vW,<-e8];refine⟨.ref s.heap.objs.size,_,I.laid (t':=s.toks) (o:=.lst (iw xs lo hi)) (fun b ob q=>bP _ q) (aP _) ?_,rfl,q _ (I.cY.fresh (aP _))⟩;exact⟨aZ (ju xs lo hi) hz,_,0,(r.drop (HT.fY xs.length 0 lo)).take (HT.fY xs.length xs.length hi-HT.fY xs.length 0 lo),cX _ rfl⟩
def g7:V->Bool
 |.cI=>true
 |.bl _=>true
 |.int _=>true
 |.str _=>true
 |_=>false
def uY:V->V->Bool
 |.cI,.cI=>true
 |.bl a,.bl b=>a==b
 |.bl a,.int b=>(if a then 1 else 0)==b
 |.int a,.bl b=>a==(if b then 1 else 0)
 |.int a,.int b=>a==b
 |.str a,.str b=>a==b
 |_,_=>false
theorem x_(ry:bW y u)(rx:bW x v)(fy:g7 y=true)(fx:g7 x=true):SeqAt.EqAt A s u v (uY y x):=by
 cases y with
 |cI=>
  cases ry;cases x with
  |cI=>cases rx;exact SeqAt.EqAt.same _
  |bl b=>cases rx;exact SeqAt.EqAt.none_bool b
  |int b=>obtain⟨t,rfl⟩:=rx;exact SeqAt.EqAt.none_int b t
  |str b=>obtain⟨t,rfl⟩:=rx;exact SeqAt.EqAt.none_str b t
  |_=>exact absurd (show false=true from fx) di
 |bl a=>
  cases ry;cases x with
  |cI=>cases rx;exact SeqAt.EqAt.bool_none a
  |bl b=>cases rx;exact SeqAt.EqAt.bool_bool a b
  |int b=>obtain⟨t,rfl⟩:=rx;exact SeqAt.EqAt.bool_int a b t
  |str b=>obtain⟨t,rfl⟩:=rx;exact SeqAt.EqAt.bool_str a b t
  |_=>exact absurd (show false=true from fx) di
 |int a=>
  obtain⟨t',rfl⟩:=ry;cases x with
  |cI=>cases rx;exact SeqAt.EqAt.int_none a t'
  |bl b=>cases rx;exact SeqAt.EqAt.int_bool a t' b
  |int b=>obtain⟨t,rfl⟩:=rx;exact SeqAt.EqAt.int_int a t' b t
  |str b=>obtain⟨t,rfl⟩:=rx;exact SeqAt.EqAt.int_str a t' b t
  |_=>exact absurd (show false=true from fx) di
 |str a=>
  obtain⟨t',rfl⟩:=ry;cases x with
  |cI=>cases rx;exact SeqAt.EqAt.str_none a t'
  |bl b=>cases rx;exact SeqAt.EqAt.str_bool a t' b
  |int b=>obtain⟨t,rfl⟩:=rx;exact SeqAt.EqAt.str_int a t' b t
  |str b=>obtain⟨t,rfl⟩:=rx;exact SeqAt.EqAt.str_str a t' b t
  |_=>exact absurd (show false=true from fx) di
 |_=>exact absurd (show false=true from fy) di
def ya(x:V)(u:Value):Bool:=match u with
 |.none=>uY .cI x
 |.bool b=>uY (.bl b) x
 |.int i _=>uY (.int i) x
 |.str z _=>uY (.str z) x
 |_=>false
theorem Jk(r:bW y u)(f:g7 y=true):ya x u=uY y x:=by
 cases y with
 |cI=>cases r;rfl
 |bl b=>cases r;rfl
 |int i=>obtain⟨t,rfl⟩:=r;rfl
 |str z=>obtain⟨t,rfl⟩:=r;rfl
 |_=>exact absurd (show false=true from f) di
theorem mP:∀ {xs:bg} {us:bw},ba xs us->xs.all g7=true->us.any (ya x)=xs.any fun y=>uY y x
 |_,_,.nil,_=>rfl
 |y::xs,u::us,.cons r t,f=>by
  rw[lV,gm] at f;rw[lU,lU,Jk r f.1,mP t f.2]
theorem km(rx:bW x v)(fx:g7 x=true):∀ {xs:bg} {us:bw},ba xs us->xs.all g7=true->∀u∈us,SeqAt.EqAt A s u v (ya x u)
 |_,_,.nil,_=>fun u hu=>by cases hu
 |y::xs,u::us,.cons r t,f=>fun u' hu=>by
  rw[lV,gm] at f;rcases bq.mp hu with rfl|hu
  .rw[Jk r f.1];exact x_ r rx f.1 fx
  .exact km rx fx t f.2 u' hu
def L5(x:V)(xs:bg):Bool:=xs.any fun y=>uY y x
def ZR(K:a_)(QG:Bool):R2:=fun x y H Q=>∃p xs,y=.ref p/\(a8 K H p xs\/cu K H p xs)/\g7 x=true/\xs.all g7=true/\Q (.bl (if QG then !L5 x xs else L5 x xs)) H
theorem Gh:nr X (compareOp .In) (ZR X.K false):=by
 intro af s σ H x y v u Q I rx ry h;obtain⟨p,xs,rfl,hq,fx,fs,q⟩:=h;cases ry;rcases hq with hq|hq
 .obtain⟨its,r,pl,hz⟩:=I.list hq;refine SeqAt.in_listAt (ya x) pl.isList (fun w hw=>km rx fx r fs w (by simpa using hw)) ⟨.bl _,H,I,rfl,?_⟩;rw[show its.toArray.any (ya x)=its.any (ya x) by simp,mP r fs];exact q
 .obtain⟨its,r,pl,hz⟩:=I.tuple hq;refine SeqAt.in_tupleAt (ya x) pl (fun w hw=>km rx fx r fs w (by simpa using hw)) ⟨.bl _,H,I,rfl,?_⟩;rw[show its.toArray.any (ya x)=its.any (ya x) by simp,mP r fs];exact q
theorem yb:nr X (compareOp .NotIn) (ZR X.K true):=by
 intro af s σ H x y v u Q I rx ry h;obtain⟨p,xs,rfl,hq,fx,fs,q⟩:=h;cases ry;rcases hq with hq|hq
 .obtain⟨its,r,pl,hz⟩:=I.list hq;refine SeqAt.notIn_listAt (ya x) pl.isList (fun w hw=>km rx fx r fs w (by simpa using hw)) ⟨.bl _,H,I,rfl,?_⟩;rw[show its.toArray.any (ya x)=its.any (ya x) by simp,mP r fs];exact q
 .obtain⟨its,r,pl,hz⟩:=I.tuple hq;refine SeqAt.notIn_tupleAt (ya x) pl (fun w hw=>km rx fx r fs w (by simpa using hw)) ⟨.bl _,H,I,rfl,?_⟩;rw[show its.toArray.any (ya x)=its.any (ya x) by simp,mP r fs];exact q
theorem aV:gf X (.builtin "len") (fun xs H Q=>∃p ys,xs=[.ref p]/\(a8 X.K H p ys\/cu X.K H p ys)/\Q (.int ys.length) H):=by
 intro af s σ H xs us Q I r h;obtain⟨p,ys,rfl,hq,q⟩:=h;obtain⟨u,rfl,rx⟩:=Ex r;cases rx;have hn:=xV;rcases hq with hq|hq
 .obtain⟨its,r',pl,hz⟩:=I.list hq;have e8:=r'.length;exact Calls.call_len_list pl.isList (by simp only[ce] <;> lia) ⟨.int ys.length,H,I.tok _,⟨s.toks+1,by rw[ce,e8]⟩,q⟩
 .obtain⟨its,r',pl,hz⟩:=I.tuple hq;have e8:=r'.length;exact len_tuple pl (by simp only[ce] <;> lia) ⟨.int ys.length,H,I.tok _,⟨s.toks+1,by rw[ce,e8]⟩,q⟩
theorem yc:gf X (.type "list") (fun xs H Q=>∃p ys,xs=[.ref p]/\(a8 X.K H p ys\/cu X.K H p ys)/\∀l,H l=none->Q (.ref l) (upd H l (.lst ys))):=by
 intro af s σ H xs us Q I r h;obtain⟨p,ys,rfl,hq,q⟩:=h;obtain⟨u,rfl,rx⟩:=Ex r;cases rx;have d_:∀ (its:bw),ba ys its->ys.length<=sizeLine->∀ (h':Heap) (c':Nat),(∀b o',s.heap.get? b=some o'->h'.get? b=some o')->
   h'.get? s.heap.objs.size=some { cls:=.type "list",dict:=none,data:=.seq its.toArray c',slots:=#[] }->EP X af σ Q (.ref s.heap.objs.size) { s with heap:=h' }:=fun its r' hz h' c' kp e=>
  ⟨.ref s.heap.objs.size,_,I.laid (t':=s.toks) kp (aP _) (show dB X.prog X.w _ h' _ (.lst ys) from ⟨hz,its,c',r',e⟩),rfl,q _ (I.cY.fresh (aP _))⟩
 rcases hq with hq|hq
 .obtain⟨its,r',pl,hz⟩:=I.list hq;have e8:=r'.length;obtain⟨o,ho,hc,n,hd⟩:=pl.isList;exact call_list_seq p (.inl rfl) ho hc hd (fun h' c' kp e=>d_ its r' hz h' c' kp e) (by simp only[ce] <;> lia)
 .obtain⟨its,r',pl,hz⟩:=I.tuple hq;have e8:=r'.length;obtain⟨o,ho,hc,n,hd⟩:=pl;exact call_list_seq p (.inr rfl) ho hc hd (fun h' c' kp e=>d_ its r' hz h' c' kp e) (by simp only[ce] <;> lia)
theorem fh:gf X (.type "tuple") (fun xs H Q=>∃p ys,xs=[.ref p]/\((a8 X.K H p ys/\∀l,H l=none->Q (.ref l) (upd H l (.tup ys)))\/(cu X.K H p ys/\Q (.ref p) H))):=by
 intro af s σ H xs us Q I r h;obtain⟨p,ys,rfl,h⟩:=h;obtain⟨u,rfl,rx⟩:=Ex r;cases rx;rcases h with ⟨hq,q⟩|⟨hq,q⟩
 .obtain⟨its,r',pl,hz⟩:=I.list hq;have e8:=r'.length;refine call_tuple_list pl.isList (fun h' kp=>?_) (by simp only[ce] <;> lia);have I1:aU X af σ H { s with heap:=h' }:=I.kept (t':=s.toks) kp;have I2:aU X af σ (upd H h'.objs.size (.tup ys)) { s with heap:=h'.push { cls:=.type "tuple",data:=.seq its.toArray } }:=
   I1.laid (t':=s.toks) (fun b o e=>bP _ e) (aP _) (show dB X.prog X.w _ _ _ (.tup ys) from ⟨hz,its,r',l0.new _ _⟩)
  exact⟨.ref h'.objs.size,_,I2,rfl,q _ (I1.cY.fresh (aP _))⟩
 .obtain⟨its,r',pl,hz⟩:=I.tuple hq;exact call_tuple_same pl ⟨.ref p,H,I,rfl,q⟩
def tyV(K:a_)(T:String)(x:V)(H:Hp):Prop:=match x with
 |.str _=>T="str"
 |.int _=>T="int"
 |.ref p=>(T="list"/\∃xs,a8 K H p xs)\/(T="tuple"/\∃o,K.lookup p=some o/\o.cls=.type "tuple"/\o.dict=none)\/
   (T="dict"/\((∃dR,H p=some (.dK dR))\/∃dR,H p=some (.dT dR)))\/(T="set"/\∃S n,H p=some (.set S n))
 |_=>False
theorem QH(I:aU X af σ H s)(r:bW x v)(ty:tyV X.K T x H):
  s.TypeIs v T/\∀a,v=.ref a->∃ob,s.heap.get? a=some ob/\ob.dict=none:=by
 cases x with
 |str z=>
  obtain⟨t,rfl⟩:=r;cases (show T="str" from ty);exact⟨typeIs_str s z t,fun _ e=>nomatch e⟩
 |int i=>
  obtain⟨t,rfl⟩:=r;cases (show T="int" from ty);exact⟨typeIs_int s i t,fun _ e=>nomatch e⟩
 |ref p=>
  cases r;rcases ty with ⟨rfl,xs,hq⟩|⟨rfl,o,hk,hc,hd⟩|⟨rfl,hk⟩|⟨rfl,S,n,hk⟩
  .obtain⟨its,_,pl,_⟩:=I.list hq;refine⟨pl.isList.typeIs,fun a e=>?_⟩;cases e;obtain⟨o,n,e,c,hd,_⟩:=pl;exact⟨o,e,hd⟩
  .refine⟨⟨o,I.pf p o hk,hc⟩,fun a e=>?_⟩;cases e;exact⟨o,I.pf _ o hk,hd⟩
  .have z:∃o,s.heap.get? p=some o/\o.ExactDict:=by
    rcases hk with ⟨dR,hk⟩|⟨dR,hk⟩
    .obtain⟨_,_,_,_,o,_,_,e,ex,_⟩:=I.cY p _ hk;exact⟨o,e,ex⟩
    .obtain⟨_,_,_,_,o,_,_,e,ex,_⟩:=I.cY p _ hk;exact⟨o,e,ex⟩
   obtain⟨o,e,ex⟩:=z;refine⟨⟨o,e,ex.1⟩,fun a e2=>?_⟩;cases e2;exact⟨o,e,ex.2.1⟩
  .obtain⟨o,_,_,_,e,ex,_⟩:=I.cY p _ hk;refine⟨⟨o,e,ex.1⟩,fun a e2=>?_⟩;cases e2;exact⟨o,e,ex.2.1⟩
 |_=>exact False.elim ty
def tBM(K:a_)(T:String)(r:V->List V->Hp->VK->Prop)(to:TE)(t:TA):TE:=fun σ H Q=>to σ H fun x H1=>tyV K T x H1/\t σ H1 fun xs H2=>r x xs H2 Q
variable {o e:Expr} {es:gZ} {to:TE} {t:TA} {name:Str} {xW yd:Pos} {T id:String} {r:V->List V->Hp->VK->Prop}
theorem gQ(pa:PlainAttrs T)(slot:Slot T name id)(hty:typeOf (.builtin id)=pure (.type "method_descriptor"))(hm:MtR X id r)(ho:PE X o to)(ha:PA X (e::es) t)(Vs:attributeBase o name X.env (eval o X.env)=eval o X.env:=by rfl)(ZS:((backTo yd (starEach (e::es) X.env)).all (fun x=>!x.1)&&(backToKw yd (keywordEach [] X.env)).all (fun x=>x.1.isSome)
   && decide ((e::es).length+([]:List Keyword).length+(if ([]:List Keyword).isEmpty then 0 else 1)<30))=true:=by rfl)(Vt:(xW.endLine==yd.line)=true:=by rfl)(hs:starEach (e::es) X.env=(false,eval e X.env)::starEach es X.env:=by rfl)(CP:(backTo yd (starEach es X.env)).any (·.1)=false:=by rfl):
  PE X (.Call (.Attribute o name xW) (e::es) [] yd) (tBM X.K T r to t):=by
 intro af s σ H Q I h;refine wpAny_Call_method_late Vs ZS Vt rfl (eD (ho af s σ H _ I h) fun v s1 ⟨x,H1,I1,r1,ty,q1⟩=>?_);obtain⟨h1,h2⟩:=QH I1 r1 ty;refine⟨T,id,pa,slot,hty,h1,h2,?_⟩;have hA:=ha yd af s1 σ H1 _ I1 q1;rw[hs] at hA |-;refine Calls.callWith_builtin (by show (false||(backTo yd (starEach es X.env)).any (·.1))=false;rw[CP] <;> rfl) (Calls.evalArgs_plain ?_);exact eD hA fun us s2 ⟨vs,H2,I2,r2,q2⟩=>hm af s2 σ H2 x vs v us Q I2 r1 r2 q2
end
def YB(X:Cx)(id:String)(r:V->List V->Hp->VK->Prop):Prop:=
 ∀ (af:cE) (s:aR) (σ:St) (H:Hp) (x:V) (xs:bg) (v:Value) (us:bw) (Q:VK),aU X af σ H s->bW x v->ba xs us->r x xs H Q->
  wpAny (model X.prog X.w) X.A (call (.builtin id) (v::us)) (EP X af σ Q) X.xe s
theorem ba.one{x:V}{us:bw}(h:ba [x] us):∃u,us=[u]/\bW x u:=by
 cases h with
 |cons r h=>cases h;exact⟨_,rfl,r⟩
theorem ba.two{x y:V}{us:bw}(h:ba [x,y] us):∃u v,us=[u,v]/\bW x u/\bW y v:=by
 cases h with
 |cons r h=>
  cases h with
  |cons q h=>cases h;exact⟨_,_,rfl,r,q⟩
theorem ba.eraseIdx:∀ {xs:bg} {us:bw} (i:Nat),ba xs us->ba (xs.eraseIdx i) (us.eraseIdx i)
 |_,_,_,.nil=>.nil
 |_,_,0,.cons _ t=>t
 |_,_,i+1,.cons r t=>.cons r (ba.eraseIdx i t)
theorem ba.rep(h:ba xs us):∀k:Nat,ba (List.replicate k xs).flatten (List.replicate k us).flatten
 |0=>.nil
 |k+1=>by
  rw[nV,nV,uw,uw];exact ba.append h (ba.rep h k)
theorem wG:∀ (l:List α) (i:Nat),(l.eraseIdx i).length<=l.length
 |[],_=>aP _
 |_::_,0=>xP _
 |_::r,i+1=>xD (wG r i)
theorem wH(its:bw):∀ (k:Nat) (dN:bw),
  List.foldl (fun x1 x2=>x1++x2) dN.toArray (List.replicate k its.toArray)=(dN++(List.replicate k its).flatten).toArray
 |0,dN=>by simp
 |k+1,dN=>by
  have e:dN.toArray++its.toArray=(dN++its).toArray:=by simp
  have e2:(dN++its)++(List.replicate k its).flatten=dN++(List.replicate (k+1) its).flatten:=by
   rw[nV,uw,dP]
  rw[<-e2,<-wH its k (dN++its),<-e,nV,iN]
section
variable {X:Cx} {af:cE} {σ:St} {H:Hp} {s:aR} {l b:Addr} {xs ys zs:bg}
theorem aU.QI{its its':bw}{n:Nat}{f:Array Value->Array Value}{t':Nat}(I:aU X af σ H s)(hH:H l=some (.lst xs))(e:s.heap.get? l=some { cls:=.type "list",data:=.seq its.toArray n })(hf:f its.toArray=its'.toArray)(hv:ba ys its')(hz:ys.length<=sizeLine):
  aU X af σ (upd H l (.lst ys)) { s with heap:=s.heap.update l (Obj.mapSeq f),toks:=t' }:=by
 have q:=PySem.IsL.update e f;rw[hf] at q;refine I.write (x:=l) (e:=l) (by rw[hH];exact trivial) (.inl rfl) (fun b' u hb hu=>(nM s.heap (Obj.mapSeq f) (dI hb)).trans hu) ⟨_,q⟩ ?_;exact⟨hz,its',_,hv,q⟩
theorem aU.QJ(I:aU X af σ H s)(hv:ba ys its)(hz:ys.length<=sizeLine):
  aU X af σ (upd H s.heap.objs.size (.lst ys)) { s with heap:=s.heap.push { cls:=.type "list",data:=.seq its.toArray },toks:=t' }:=
 I.laid (fun _ _ q=>bP _ q) (aP _) ⟨hz,its,0,hv,cX _ rfl⟩
theorem aU.fresh(I:aU X af σ H s):H s.heap.objs.size=none:=I.cY.fresh (aP _)
theorem aU.ye(I:aU X af σ H s)(hH:H l=some (.lst xs)):xs.length<=sizeLine/\∃ (its:bw) (n:Nat),ba xs its/\xs.length=its.length/\s.heap.get? l=some { cls:=.type "list",data:=.seq its.toArray n }:=by
 obtain⟨z,its,n,r,e⟩:=I.cY l _ hH;exact⟨z,its,n,r,r.length,e⟩
theorem z6(h:n<=sizeLine):Builtin.List.listTooLong n=false:=by
 unfold Builtin.List.listTooLong;exact gY (by lia)
end
section
variable {X:Cx}
def MH:V->List V->Hp->VK->Prop:=fun x vs H Q=>∃l xs y,x=.ref l/\vs=[y]/\H l=some (.lst xs)/\xs.length<sizeLine/\Q .cI (upd H l (.lst (xs++[y])))
theorem cV:YB X "list.append" MH:=by
 intro af s σ H x vs v us Q I rx rv h;obtain⟨l,xs,y,rfl,rfl,hH,hz,q⟩:=h;cases rx;obtain⟨u,rfl,ru⟩:=rv.one;obtain⟨z,its,n,r,hl,e⟩:=I.ye hH;refine on F.slot_list_append ⟨_,e,rfl⟩ F.entry_list_append (F.args_list_append_2 _ _) (PySem.list_append l its.toArray n u (by rw[ce];lia)) ⟨e,?_⟩;refine⟨.cI,_,I.QI (its':=its++[u]) hH e (by simp) (r.append (.cons ru .nil)) ?_,rfl,q⟩;rw[dh,lO];lia
def MI:V->List V->Hp->VK->Prop:=fun x vs H Q=>∃l b xs zs,x=.ref l/\vs=[.ref b]/\H l=some (.lst xs)/\H b=some (.lst zs)/\xs.length+zs.length<=sizeLine/\Q .cI (upd H l (.lst (xs++zs)))
theorem Gi:YB X "list.extend" MI:=by
 intro af s σ H x vs v us Q I rx rv h;obtain⟨l,b,xs,zs,rfl,rfl,hH,hB,hz,q⟩:=h;cases rx;obtain⟨u,rfl,ru⟩:=rv.one;cases ru;obtain⟨z,its,n,r,hl,e⟩:=I.ye hH;obtain⟨z2,k_,n2,r2,Ie,e2⟩:=I.ye hB;have iD:its.toArray.size+k_.toArray.size<=sizeLine:=by rw[ce,ce];lia
 have Jl:¬ (!its.toArray.isEmpty&&Builtin.List.listTooLong (its.toArray.size+k_.toArray.size))=true:=by
  rw[z6 iD,Bool.and_false];exact di
 refine on F.slot_list_extend ⟨_,e,rfl⟩ F.entry_list_extend (F.args_list_extend_2 _ _)
  (AutoSeq1.list_extend_list_list_0 l its.toArray n b k_.toArray n2 Jl (by rw[ce];lia) (by lia)) ⟨e,e2,?_⟩
 refine⟨.cI,_,I.QI (its':=its++k_) hH e (by simp) (r.append r2) ?_,rfl,q⟩;rw[dh];lia
def Jm:V->List V->Hp->VK->Prop:=fun x vs H Q=>∃l xs i k y,x=.ref l/\vs=[.int i]/\H l=some (.lst xs)/\-(2 ^ 63)<=i/\i<2 ^ 63/\seqIndex? i xs.length=some k/\xs[k]?=some y/\Q y (upd H l (.lst (xs.eraseIdx k)))
theorem z7:YB X "list.pop" Jm:=by
 intro af s σ H x vs v us Q I rx rv h;obtain⟨l,xs,i,k,y,rfl,rfl,hH,h1,h2,hk,hy,q⟩:=h;cases rx;obtain⟨u,rfl,ru⟩:=rv.one;obtain⟨t,rfl⟩:=ru;obtain⟨z,its,n,r,hl,e⟩:=I.ye hH;obtain⟨w,hw,vT⟩:=r.get hy;refine on F.slot_list_pop ⟨_,e,rfl⟩ F.entry_list_pop (F.args_list_pop_2 _ _)
  (MeetsSeq.list_pop_at l its.toArray n i t k w (fitsIndex_both h1 h2) (by rw[ce,<-hl];exact hk) (by rw[<-nN];exact hw) (by rw[ce];lia)) ⟨e,?_⟩
 refine⟨y,_,I.QI (its':=its.eraseIdx k) hH e ?_ (r.eraseIdx k) ?_,vT,q⟩
 .show its.toArray.eraseIdxIfInBounds k=(its.eraseIdx k).toArray;rw[List.eraseIdxIfInBounds_toArray]
 .have:=wG xs k;lia
def Vu:R2:=fun x y H Q=>∃l b xs zs,x=.ref l/\y=.ref b/\H l=some (.lst xs)/\H b=some (.lst zs)/\xs.length+zs.length<=sizeLine/\∀p,H p=none->Q (.ref p) (upd H p (.lst (xs++zs)))
theorem uZ:nr X (binaryOp .Add) Vu:=by
 intro af s σ H x y v u Q I rx ry h;obtain⟨l,b,xs,zs,rfl,rfl,hH,hB,hz,q⟩:=h;cases rx;cases ry;obtain⟨z,its,n,r,hl,e⟩:=I.ye hH;obtain⟨z2,k_,n2,r2,Ie,e2⟩:=I.ye hB;refine PySem.P.add_list e e2 ?_ (by rw[ce,ce];lia);have ea:its.toArray++k_.toArray=(its++k_).toArray:=by simp
 rw[ea];exact⟨.ref _,_,I.QJ (t':=s.toks) (r.append r2) (by rw[dh];lia),rfl,q _ I.fresh⟩
def ZT:R2:=fun x y H Q=>∃l k xs,x=.ref l/\y=.int k/\H l=some (.lst xs)/\-(2 ^ 63)<=k/\k<2 ^ 63/\xs.length*k.toNat<=sizeLine/\
 ∀p,H p=none->Q (.ref p) (upd H p (.lst (List.replicate k.toNat xs).flatten))
theorem MJ(xs:List α)(k:Nat):(List.replicate k xs).flatten.length=k*xs.length:=by
 induction k with
 |zero=>simp
 |succ k ih=>rw[nV,uw,dh,ih,Nat.succ_mul,Nat.add_comm]
theorem yf:nr X (binaryOp .Mult) ZT:=by
 intro af s σ H x y v u Q I rx ry h;obtain⟨l,k,xs,rfl,rfl,hH,h1,h2,hz,q⟩:=h;cases rx;obtain⟨t,rfl⟩:=ry;obtain⟨z,its,n,r,hl,e⟩:=I.ye hH;have e8:its.toArray.size*k.toNat<=sizeLine:=by rw[ce,<-hl];exact hz
 have ZU:¬ its.toArray.size*k.toNat > (2 ^ 63-1) / 8:=by
  have:(sizeLine:Nat)<=(2 ^ 63-1) / 8:=by decide
  lia
 have ZV:¬ (!Builtin.List.listFitsIndex k)=true:=by
  rw[fitsIndex_both h1 h2];exact di
 have Jl:¬ Builtin.List.listTooLong (its.toArray.size*k.toNat)=true:=by
  rw[z6 e8];exact di
 have u7:List.foldl (fun x1 x2=>x1++x2) #[] (List.replicate (if its.toArray.isEmpty=true then 0 else k.toNat) its.toArray)=(List.replicate k.toNat its).flatten.toArray:=by
  have f0:∀m:Nat,List.foldl (fun x1 x2=>x1++x2) #[] (List.replicate m its.toArray)=(List.replicate m its).flatten.toArray:=fun m=>by
   have:=wH its m [];rw[List.nil_append] at this;exact this
  rw[f0];cases its with
  |nil=>simp
  |cons a r'=>rw[ao (by simp)]
 refine wpAny_binaryOp_repeat_ref (T:="list") (U:="int") (by decide) ⟨_,e,rfl⟩ (fun s'=>typeIs_int s' k t) noFill_list_mul F.fills_int_mul F.slot_int_rmul repeat_list F.slot_int_index.lookup
  (on F.slot_int_rmul (typeIs_int s k t) F.entry_int_rmul (F.args_int_rmul_2 _ _) (int___rmul___int_list k t l its.toArray n)
   ⟨e,rfl,⟨_,e,rfl⟩,on F.slot_list_mul ⟨_,e,rfl⟩ F.entry_list_mul (F.args_list_mul_2 _ _) (AutoListH.list___mul___list_int_3 l its.toArray n k t ZV ZU Jl) ⟨e,?_⟩⟩)
 rw[u7];exact⟨.ref _,_,I.QJ (t':=s.toks) (r.rep k.toNat) (by rw[MJ,Nat.mul_comm];exact hz),rfl,q _ I.fresh⟩
end
section
variable {prog:bL} {w:World} {A:br} {E:bV} {s:aR}
end
section
variable {X:Cx}
end
end L2
namespace Att
open PySem PySem.W PySem.Calls PyProof.Rows
theorem sJ:∀ (ns:dG) (vs:bw),WellAll P h vs (ns.map WData.int)->IntsAre vs ns:=by
 intro ns;induction ns with
 |nil=>
  intro vs w;rw[List.map_nil] at w;cases w;exact .nil
 |cons n ns ih=>
  intro vs w;rw[gJ] at w;cases w with
  |cons a b=>
   cases a;exact .cons _ _ (ih _ b)
theorem Gj{l:OpenLaw}{n:Nat}(hn:l.most=some n){P:Params}{h:Heap}{args:List WData}{Jn:bw}(ML:l.row.toRowW.claim.pre args=true)(ZW:WellAll P h Jn args):
  ∃a vs ns,Jn=[Value.ref a]/\args=[WData.list (ns.map WData.int)]/\h.get? a=some { cls:=.type "list",data:=.seq vs.toArray }/\IntsAre vs ns/\ns.length<=n:=by
 have hsh:WShape.hasAll [] args [.list .int]=true:=(pre_splitW ML).1;have hc:l.pre.holds [] { args:=args }=true:=(pre_splitW ML).2;obtain⟨d,r,rfl,h1,h2⟩:=hasAllW_cons hsh;obtain rfl:=hasAllW_nil h2;obtain⟨xs,rfl,h3⟩:=hasW_list h1;obtain⟨ns,rfl⟩:=items_int h3;have e8:ns.length<=n:=by
  unfold OpenLaw.pre at hc;have h4:(WTm.not (.lt (.lit (.int (n:Int))) (.len (.arg 0)))).holds [] { args:=[.list (ns.map .int)] }=true:=by
   have h4:=(holds_andW hc).1;rw[hn] at h4;exact h4
  have h5:=condW_of h4 (w_not (w_lt w_lit (w_len_list (w_arg rfl))));rw[aT] at h5;refine Nat.le_of_not_lt fun q=>?_;have q':(n:Int)<((ns.length:Nat):Int):=by lia
  first
   |(rw[iO q'] at h5;exact absurd h5 (by decide))
   |(simp at h5;lia)
 cases ZW with
 |cons w1 w2=>
  cases w2;cases w1 with
  |list ho vX=>exact⟨_,_,ns,rfl,rfl,ho,sJ ns _ vX,e8⟩
theorem Gk(l:OpenLaw)(args:List WData):l.row.toRowW.claim.post args (.bool true) args=true:=
 postW_of (r:=l.row.toRowW) (X:=(true==true))
  (show WShape.has [] (.bool true) .bool=true by first|rfl|decide|simp[WShape.has,WShape.arms,WShape.armsAll])
  (show (WTm.eq .res (.lit (.bool true))).value [] { args:=args,res:=some (.bool true),after:=args }=some (.bool (true==true)) from w_eq_bool (w_res rfl) w_lit) rfl
theorem z8{l:OpenLaw}{n:Nat}{q:bL}{wI:bQ}{XP:(Str->Option Value)->Heap->Prop}{YP:IJ}{d:DefRec}(hn:l.most=some n)(Vv:d.params.defaults=[])(call:∀ (w:World) (s₀ s₁:aR) (mg mb:cr) (fa:Addr) (o:Obj) (pm cd pC:Value) (a:Addr) (vs:bw) (ns:dG),
   Ground q wI [] XP w s₀ mg mb s₁.heap->YP w s₁.heap->
   s₁.heap.get? fa=some o->o.data=.func (docDef d.name d.params d.body d.scope pm cd pC)->s₁.heap.CodeRec cd d.name->mg d.name=some (.ref fa)->
   s₁.heap.get? a=some { cls:=.type "list",data:=.seq vs.toArray }->IntsAre vs ns->ns.length<=n->s₁.gens=#[]->
   codeAny (model l.prog w) callerA (.call (.ref fa) ⟨[.ref a],[]⟩) (fun r s'=>r=.ok (.ret (.bool true))/\OldK s₁.heap s'.heap/\s'.os=s₁.os/\AllBare s'.gens) s₁):
  WalkO q wI XP YP l.row.toRowW d [] (fun f vs=>PySem.call f vs):=by
 intro w s₀ s₁ mg mb G Y fa o pm cd pC dV kV ho hd wz hD Vw hg args Jn as ML acj hrd ZW Um;obtain rfl:dV=.none:=Dflts.none hD Vv;obtain rfl:kV=.none:=Dflts.noKw hD;obtain⟨a,vs,ns,rfl,rfl,QK,Jo,e8⟩:=Gj hn ML ZW;refine enter_call (qQ (call w s₀ s₁ mg mb fa o pm cd pC a vs ns G Y ho (fd_plain hd) wz Vw QK Jo e8 hg) fun r s' hq=>?_);obtain⟨rfl,h2,h3,h4⟩:=hq;exact⟨.inl ⟨.bool true,.bool true,[],rfl,fun _=>rfl,.bool true,Gk l _,fun _=>⟨List.Pairwise.nil,fun _ hm=>(nomatch hm)⟩⟩,h2,h3,h4⟩
section
variable {prog:bL} {w:World} {A:br} {E:bV} {s:aR} {K:Frag}
end
end Att
namespace L2
open PySem PySem.Spec PyProof.Rows
theorem wJ:∀ {vs:bw} {ns:dG},IntsAre vs ns->ba (ns.map V.int) vs
 |_,_,.nil=>.nil
 |_,_,.cons n t h=>.cons ⟨t,rfl⟩ (wJ h)
def gw(s:Stmt)(j:Nat):Stmt:=match s with
 |.ClassDef _ _ _ body _ _ _ _ _ _ _=>body.getD j (.Pass ⟨0,0,0,0⟩)
 |_=>.Pass ⟨0,0,0,0⟩
def eE(s:Stmt):Arguments:=match s with
 |.FunctionDef _ a _ _ _ _ _ _ _ _=>a
 |_=>{ posonlyargs:=[],args:=[],vararg:=none,kwonlyargs:=[],kw_defaults:=[],kwarg:=none,defaults:=[] }
def cP(s:Stmt):List Stmt:=match s with
 |.FunctionDef _ _ b _ _ _ _ _ _ _=>b
 |_=>[]
def aw(s:Stmt):Scope:=match s with
 |.FunctionDef _ _ _ _ _ _ sc _ _ _=>sc
 |_=>{ kind:=.function,names:=[],isGenerator:=false,isCoroutine:=false }
abbrev bo:Bk:=fun _ _ _ _ _ _=>False
abbrev E0:XK:=fun _ _ _=>False
theorem aM:ot bo X E0:=fun _ _ _ _ _ _ _ h=>h.elim
structure iI(K:a_)(x qual:Str)(st:Stmt)(f:Addr)(fd:eA):Prop where
 ex:∃ (oc:Value) (od:jt) (kV pC pm:Value) (an:jt) (fX ct:Value) (Bm:nh),
  fd=W.fnOf x qual (eE st) (cP st) (aw st) .none kV pC pm an fX ct/\K.lookup f=some ⟨oc,od,.func fd,Bm⟩/\W.codeIn K fX qual=true
 kp:W.keepIn K (.ref f)=true
section
variable {P:bL} {w:World} {K:a_} {mg:cr} {base:Heap}
theorem iI.ok{x qual:Str}{st:Stmt}{f:Addr}{fd:eA}{N ps:bQ}{k:Nat}{sp:Sp}(F:iI K x qual st f fd)(S:aN N ps (aw st))(len:∀vs H Q E,sp vs H Q E->vs.length=ps.length)(zX:∀ (fX:Value) (A:br) (outer:j9) (s:aR) (H:Hp) (vs:bg) (Q:VK) (E:XK),df k (A.deeper (envOfC qual (aw st) s.heap.objs.size f fX))->sp vs H Q E->
   ∃t,Co (l9 bo P w K mg base N qual (aw st) f fX A outer s H E).Bj (cP st) t/\t { nx:=fun _ H'=>Q .cI H',rt:=Q } (start N vs) H):bU P w K mg base bo (k+1) f fd ps sp:=by
 obtain⟨oc,od,kV,pC,pm,an,fX,ct,Bm,rfl,lk,wz⟩:=F.ex;refine Pc lk wz S len fun A outer s H vs Q E hr LZ=>?_;obtain⟨t,h,q⟩:=zX fX A outer s H vs Q E hr LZ;exact⟨t,h.Bj,q⟩
theorem iI.binds{x qual:Str}{st:Stmt}{f:Addr}{fd:eA}{ps:bQ}(F:iI K x qual st f fd)(h:∀ (kV pC pm:Value) (an:jt) (fX ct:Value) (us:bw),us.length=ps.length->bindArgs (W.fnOf x qual (eE st) (cP st) (aw st) .none kV pC pm an fX ct) ⟨us,[]⟩=pure (ps.zip us)):lx K fd ps []:=by
 obtain⟨oc,od,kV,pC,pm,an,fX,ct,Bm,rfl,lk,wz⟩:=F.ex;exact .all (h kV pC pm an fX ct)
theorem u8{x qual:Str}{st:Stmt}{f:Addr}{oc:Value}{od an:jt}{Bm:nh}{kV pC pm fX ct:Value}(l:K.lookup f=some ⟨oc,od,.func (W.fnOf x qual (eE st) (cP st) (aw st) .none kV pC pm an fX ct),Bm⟩)(c:W.codeIn K fX qual=true)(k:W.keepIn K (.ref f)=true):iI K x qual st f (W.fnOf x qual (eE st) (cP st) (aw st) .none kV pC pm an fX ct):=⟨⟨oc,od,kV,pC,pm,an,fX,ct,Bm,rfl,l,c⟩,k⟩
section
variable {X:Cx}
theorem pv(i:Nat)(hN:X.N[i]?=some x:=by rfl)(hv:Uh X.env.scope x:=by first|exact Or.inl rfl|exact Or.inr aL|exact Or.inr cW)(hd:(x==("__debug__":Str))=false:=by decide)(wz:(x==("__classdict__":Str))=false:=by decide):PE X (.Name x pos) (bb i):=Qr hN hv hd wz
end
theorem jT{A B:Prop}(h:B):if false=true then A else B:=by
 rw[ao di];exact h
theorem vY{A B:Prop}(h:A):if true=true then A else B:=by
 rw[ap rfl];exact h
theorem gU{c A B:Prop}[Decidable c](h1:c->A)(h2:¬ c->B):if c then A else B:=by
 by_cases h:c
 .rw[ap h];exact h1 h
 .rw[ao h];exact h2 h
def aI(H H':Hp):Prop:=∀b o,H b=some o->H' b=some o
theorem aI.refl(H:Hp):aI H H:=fun _ _ h=>h
theorem aI.trans(a:aI H H1)(b:aI H1 H2):aI H H2:=fun c o h=>b c o (a c o h)
theorem aI.free(e:aI H H')(h:H' l=Option.none):H l=Option.none:=by
 cases q:H l with
 |none=>rfl
 |some o=>
  rw[e l o q] at h;cases h
def Bn(src:bA)(σ:St):St:=src.map fun o=>match o with|some j=>σ.getD j none|none=>none
theorem ED{src:bA}{σ:St}{i:Nat}{v:V}(h:(Bn src σ)[i]?=some (some v)):∃j,src[i]?=some (some j)/\σ[j]?=some (some v):=by
 unfold Bn at h;rw[cA] at h;cases e:src[i]? with
 |none=>rw[e] at h;cases h
 |some o=>
  rw[e] at h;cases o with
  |none=>cases h
  |some j=>
   refine⟨j,rfl,?_⟩;have h':σ.getD j none=some v:=cB h;rw[cw] at h';cases e2:σ[j]? with
   |none=>rw[e2] at h';cases h'
   |some o=>rw[e2] at h';rw[show o=some v from h']
structure ix(NB:bQ)(src:bA)(scope:Scope)(X:Cx):Prop where
 kind:scope.kind=.function
 nd:NB.Nodup
 len:src.length=NB.length
 cells:∀y∈scope.names,y.2=.cell->scope.names.lookup y.1=some .cell
 names:∀y∈scope.names,y.2=.local->scope.names.lookup y.1=some .local
 free:∀y∈scope.names,y.2=.free->X.env.scope.names.lookup y.1=some .cell\/X.env.scope.names.lookup y.1=some .free
 src:∀ (i:Nat) (x:Str) (j:Nat),NB[i]?=some x->src[i]?=some (some j)->X.N[j]?=some x/\scope.names.lookup x=some .free
def yg(scope:Scope)(x:Str):Bool:=match scope.names.lookup x with
 |some .cell=>true
 |_=>false
theorem z9:yg scope x=true↔scope.names.lookup x=some .cell:=by
 unfold yg;split
 .rename_i h;exact⟨fun _=>h,fun _=>rfl⟩
 .rename_i h;exact⟨fun z=>(by cases z),fun z=>absurd z h⟩
def EE(X:Cx)(NB:bQ)(scope:Scope)(cl:iP)(C:Addr)(s₃:aR)(H₃:Hp)(fp:bR):Cx:=
 { X with N:=NB,s₀:=s₃,H₀:=H₃,env:=compEnvC scope cl C X.env,outer:=X.stack,stack:=X.stack,ex:=fp,fn:=yg scope,pn:=[],xe:=fun _ _=>False }
theorem ow:∀ (names:wr) (dN:iP),(∀y∈names,y.2=NameKind.free->∃c,env.cells.lookup y.1=some c)->(∀x c,dN.lookup x=some c->env.cells.lookup x=some c)->
  ∃cl,(forIn names dN fun x r=>(if (x.2==NameKind.free)=true then (do let a <- cellOf env x.1;pure (ForInStep.yield ((x.1,a)::r))) else pure (ForInStep.yield r):Sem (ForInStep (List (Str×Addr)))))=(pure cl:Sem (List (Str×Addr)))/\
   (∀x c,cl.lookup x=some c->env.cells.lookup x=some c)/\(∀x c,dN.lookup x=some c->∃c',cl.lookup x=some c')/\∀x,(x,NameKind.free)∈names->∃c,cl.lookup x=some c
 |[],dN,_,ha=>⟨dN,by rw[qL],ha,fun x c h=>⟨c,h⟩,fun x h=>nomatch h⟩
 |(n,k)::r,dN,hf,ha=>by
  by_cases hk:k=NameKind.free
  .subst hk;obtain⟨c,hc⟩:=hf (n,NameKind.free) cK rfl;have QL:∀x c',((n,c)::dN).lookup x=some c'->env.cells.lookup x=some c':=fun x c' h=>by
    rw[gX] at h;cases hx:x==n with
    |true=>
     rw[hx] at h;cases h;have:x=n:=by simpa using hx
     rw[this];exact hc
    |false=>rw[hx] at h;exact ha x c' h
   obtain⟨cl,e1,e2,e3,e4⟩:=ow r ((n,c)::dN) (fun y hy=>hf y (dq _ hy)) QL;refine⟨cl,?_,e2,fun x c' h=>?_,fun x h=>?_⟩
   .rw[qJ];have ec:cellOf env n=pure c:=by unfold cellOf;rw[hc]
    have e0:(if ((n,NameKind.free).2==NameKind.free)=true then (do let a <- cellOf env (n,NameKind.free).1;pure (ForInStep.yield (((n,NameKind.free).1,a)::dN))) else pure (ForInStep.yield dN):Sem (ForInStep (List (Str×Addr))))=pure (ForInStep.yield ((n,c)::dN)):=by
     rw[ap (show (NameKind.free==NameKind.free)=true by decide)];show cellOf env n >>= _=_;rw[ec];rfl
    rw[e0];exact e1
   .cases hx:x==n with
    |true=>exact e3 x c (by rw[gX,hx])
    |false=>exact e3 x c' (by rw[gX,hx];exact h)
   .rcases bq.mp h with h|h
    .cases h;exact e3 n c (by rw[gX];simp)
    .exact e4 x h
  .obtain⟨cl,e1,e2,e3,e4⟩:=ow r dN (fun y hy=>hf y (dq _ hy)) ha;refine⟨cl,?_,e2,e3,fun x h=>?_⟩
   .rw[qJ];have hb:(k==NameKind.free)=false:=by simpa using hk
    have e0:(if ((n,k).2==NameKind.free)=true then (do let a <- cellOf env (n,k).1;pure (ForInStep.yield (((n,k).1,a)::dN))) else pure (ForInStep.yield dN):Sem (ForInStep (List (Str×Addr))))=pure (ForInStep.yield dN):=by
     rw[ao (by show ¬ (k==NameKind.free)=true;rw[hb];decide)]
    rw[e0];exact e1
   .rcases bq.mp h with h|h
    .cases h;exact absurd rfl hk
    .exact e4 x h
theorem oy(ok:X.Ok)(S:ix NB src scope X):
  ∃cl,closureFor scope X.env=pure cl/\(∀x c,cl.lookup x=some c->X.env.cells.lookup x=some c)/\∀x,(x,NameKind.free)∈scope.names->∃c,cl.lookup x=some c:=by
 obtain⟨cl,e1,e2,_,e4⟩:=ow (env:=X.env) scope.names [] (fun y hy hk=>ok.has y.1 (S.free y hy hk)) (fun x c h=>nomatch h);refine⟨cl,?_,e2,e4⟩;unfold closureFor;simp only[bind_pure];exact e1
theorem yh(h:scope.names.lookup x=some .free):(relabel scope env).names.lookup x=some .cell\/(relabel scope env).names.lookup x=some .free:=by
 have go:∀names:List (Str×NameKind),names.lookup x=some .free->
   (names.map fun (n,k)=>if (k==NameKind.free&&env.scope.kind==.function&&env.kindOf n==some .cell) then (n,NameKind.cell) else (n,k)).lookup x=some .cell\/
   (names.map fun (n,k)=>if (k==NameKind.free&&env.scope.kind==.function&&env.kindOf n==some .cell) then (n,NameKind.cell) else (n,k)).lookup x=some .free:=by
  intro names;induction names with
  |nil=>intro h;simp at h
  |cons y r ih=>
   intro h;obtain⟨n,k⟩:=y;rw[gX] at h;rw[gJ];cases hx:x==n with
   |true=>
    rw[hx] at h;cases h;by_cases hc:(NameKind.free==NameKind.free&&env.scope.kind==.function&&env.kindOf n==some .cell)=true
    .left;show List.lookup x ((if _ then _ else _)::_)=_;rw[ap hc,gX,hx]
    .right;show List.lookup x ((if _ then _ else _)::_)=_;rw[ao hc,gX,hx]
   |false=>
    rw[hx] at h;by_cases hc:(k==NameKind.free&&env.scope.kind==.function&&env.kindOf n==some .cell)=true
    .show List.lookup x ((if _ then _ else _)::_)=_\/List.lookup x ((if _ then _ else _)::_)=_;rw[ap hc,gX,hx];exact ih h
    .show List.lookup x ((if _ then _ else _)::_)=_\/List.lookup x ((if _ then _ else _)::_)=_;rw[ao hc,gX,hx];exact ih h
 exact go scope.names h
theorem pG(h:(relabel scope env).names.lookup x=some k)(hk:k=.cell\/k=.free):(x,NameKind.free)∈scope.names\/(x,NameKind.cell)∈scope.names:=by
 have m:=lI h;obtain⟨⟨n,k'⟩,hm,e⟩:=bB.mp m;by_cases q:(k'==NameKind.free&&env.scope.kind==.function&&env.kindOf n==some .cell)=true
 .have e':(n,NameKind.cell)=(x,k):=by simpa [q] using e
  have k1:k'=NameKind.free:=by
   simp only[gm,gg] at q;exact q.1.1
  cases e';left;rw[<-k1];exact hm
 .have e':(n,k')=(x,k):=by simpa [q] using e
  cases e';rcases hk with z|z
  .subst z;exact .inr hm
  .subst z;exact .inl hm
theorem qZ:∀ (names:wr) (h:Heap) (dN:iP) (x:Str) (c:Addr),(cellsFrom h.objs.size names dN).lookup x=some c->dN.lookup x=some c\/(h.objs.size<=c/\(pushCells h names).IsCell c none)
 |[],_,_,_,_,e=>.inl e
 |(name,kind)::r,h,dN,x,c,e=>by
  unfold cellsFrom at e;unfold pushCells;split at e
  .rename_i hk;rw[ap hk];have iD:(h.push { cls:=.type "cell",data:=.cell none }).objs.size=h.objs.size+1:=jc ..;rw[<-iD] at e;rcases qZ r _ _ x c e with z|⟨z1,z2⟩
   .rw[gX] at z;cases hx:x==name with
    |true=>
     rw[hx] at z;cases z;exact .inr ⟨aP _,_,pushCells_keeps r _ _ _ (cX _ rfl),rfl⟩
    |false=>rw[hx] at z;exact .inl z
   .exact .inr ⟨by lia,z2⟩
  .rename_i hk;rw[ao hk];exact qZ r h dN x c e
theorem wK:∀ (names:wr) (n:Nat) (dN:iP) (x:Str),(x,NameKind.cell)∈names->∃c,n<=c/\(cellsFrom n names dN).lookup x=some c:=by
 have up:∀ (names:wr) (n m:Nat) (dN:iP) (x:Str) (c:Addr),dN.lookup x=some c->m<=c->m<=n->∃c',m<=c'/\(cellsFrom n names dN).lookup x=some c':=by
  intro names;induction names with
  |nil=>intro n m dN x c e h _;exact⟨c,h,e⟩
  |cons y r ih=>
   intro n m dN x c e h hm;obtain⟨name,kind⟩:=y;unfold cellsFrom;split
   .cases hx:x==name with
    |true=>exact ih (n+1) m _ x n (by rw[gX,hx]) hm (by lia)
    |false=>exact ih (n+1) m _ x c (by rw[gX,hx];exact e) h (by lia)
   .exact ih n m dN x c e h hm
 intro names;induction names with
 |nil=>intro n dN x h;cases h
 |cons y r ih=>
  intro n dN x h;obtain⟨name,kind⟩:=y;unfold cellsFrom;rcases bq.mp h with z|z
  .cases z;rw[ap (by decide)];exact up r (n+1) n _ x n (by rw[gX];simp) (aP _) (by lia)
  .split
   .obtain⟨c,h1,h2⟩:=ih (n+1) ((name,n)::dN) x z;exact⟨c,by lia,h2⟩
   .exact ih n dN x z
theorem mQ:∀ (names:wr) (n:Nat) (dN:iP) (x:Str) (c:Addr),dN.lookup x=some c->(x,NameKind.cell)∉names->(cellsFrom n names dN).lookup x=some c
 |[],_,_,_,_,e,_=>e
 |(name,kind)::r,n,dN,x,c,e,h=>by
  have hr:(x,NameKind.cell)∉r:=fun z=>h (dq _ z);unfold cellsFrom;split
  .rename_i hk;have qh:(x==name)=false:=by
    cases hx:x==name with
    |false=>rfl
    |true=>
     have e1:x=name:=by simpa using hx
     have e2:kind=.cell:=by simpa using hk
     exact absurd (by rw[e1,e2];exact cK) h
   exact mQ r (n+1) _ x c (by rw[gX,qh];exact e) hr
  .exact mQ r n dN x c e hr
theorem q8:∀ (names:wr) (n:Nat) (dN:iP),(∀x y c,dN.lookup x=some c->dN.lookup y=some c->x=y)->(∀x c,dN.lookup x=some c->c<n)->∀x y c,(cellsFrom n names dN).lookup x=some c->(cellsFrom n names dN).lookup y=some c->x=y
 |[],_,_,hi,_=>hi
 |(name,kind)::r,n,dN,hi,hl=>by
  unfold cellsFrom;split
  .refine q8 r (n+1) _ (fun x y c h1 h2=>?_) (fun x c h=>?_)
   .rw[gX] at h1 h2;cases hx:x==name <;> cases hy:y==name <;> rw[hx] at h1 <;> rw[hy] at h2
    .exact hi x y c h1 h2
    .cases h2;exact absurd (hl x _ h1) (jd _)
    .cases h1;exact absurd (hl y _ h2) (jd _)
    .have e1:x=name:=by simpa using hx
     have e2:y=name:=by simpa using hy
     rw[e1,e2]
   .rw[gX] at h;cases hx:x==name <;> rw[hx] at h
    .exact dH (hl x c h)
    .cases h;exact lM _
  .exact q8 r n dN hi hl
section
variable {X:Cx} {af:cE} {σ:St} {H:Hp} {s:aR} {NB:bQ} {src:bA} {scope:Scope} {cl:iP} {fp:bR} {h₁:Heap} {t₁:Nat}
theorem MM(I:aU X af σ H s)(S:ix NB src scope X)(c1:∀x c,cl.lookup x=some c->X.env.cells.lookup x=some c)(c2:∀x,(x,NameKind.free)∈scope.names->∃c,cl.lookup x=some c)(hf:∀b∈fp,hZ X af H b)(QM:∀b∈fp,b<s.heap.objs.size){m:cr}(hn:h₁.Ns s.heap.objs.size m)(hk:∀b o,s.heap.get? b=some o->h₁.get? b=some o)(u7:∀x c,(cellsFrom (s.heap.objs.size+1) scope.names cl).lookup x=some c->cl.lookup x=some c\/(s.heap.objs.size<c/\h₁.IsCell c none)):
  aU (EE X NB scope (cellsFrom (s.heap.objs.size+1) scope.names cl) s.heap.objs.size s H fp) [] (Bn src σ) H { s with heap:=h₁,toks:=t₁ }:=by
 have Ui:∀b∈HZ X.stack,b∈X.env.locals::X.fs:=I.xS;have yi:∀x c,cl.lookup x=some c->∃v,s.heap.IsCell c v:=fun x c e=>I.cell x c (c1 x c e);have ZX:∀x c,cl.lookup x=some c->c<s.heap.objs.size:=fun x c e=>by obtain⟨v,o,ho,_⟩:=yi x c e;exact aS ho
 refine⟨⟨I.ok.mod,S.kind,I.ok.glob,I.ok.blt,aP _,q8 _ _ _ (fun x y c e1 e2=>I.ok.inj x y c (c1 x c e1) (c1 y c e2)) (fun x c e=>dH (ZX x c e)),fun x hx=>?_,fun x c z e=>?_,I.ok.hd,I.ok.frames,.inl rfl,fun b hb=>⟨?_,fun x c e=>?_⟩,I.bs,aZ I.ok.IR I.sz,fun b o e hb=>?_,fun b hb=>?_,I.stack,I.xT⟩,
  rfl,I.bare,Un.kept hk,⟨m,hn,fun i x v e1 e2 e3=>?_⟩,fun x c e=>?_,I.cY.fresh (aP _),fun x c e=>?_,fun p hp=>absurd (show p∈([]:cE) from hp) (by simp),I.cY.kept hk,?_⟩
 .have CQ:(x,NameKind.free)∈scope.names\/(x,NameKind.cell)∈scope.names:=by
   rcases hx with hx|hx
   .exact pG hx (.inl rfl)
   .exact pG hx (.inr rfl)
  by_cases hc:(x,NameKind.cell)∈scope.names
  .obtain⟨c,_,e⟩:=wK scope.names (s.heap.objs.size+1) cl x hc;exact⟨c,e⟩
  .rcases CQ with z|z
   .obtain⟨c,e⟩:=c2 x z;exact⟨c,mQ _ _ _ _ _ e hc⟩
   .exact absurd z hc
 .have hm:=lI (z9.mp z);obtain⟨c',h1,h2⟩:=wK scope.names (s.heap.objs.size+1) cl x hm;have e':(cellsFrom (s.heap.objs.size+1) scope.names cl).lookup x=some c:=e;rw[h2] at e';cases e';exact Nat.le_of_succ_le h1
 .exact bf (QM b hb)
 .rcases u7 x c e with z|⟨z,_⟩
  .exact(hf b hb).2.2.2.2.1 x c (c1 x c z)
  .exact gO (qM (QM b hb) z)
 .rcases(hf b hb).2.2.2.1 with z|z
  .exact I.ok.IS b o e z
  .exact absurd (bv (aS e) (aZ I.ok.IR z)) (jd _)
 .intro z;rcases bq.mp (Ui b z) with e|e
  .exact(hf b hb).2.1 e
  .exact(hf b hb).2.2.1 e
 .obtain⟨j,hj,hv⟩:=ED e2;obtain⟨hN,hF⟩:=S.src i x j e1 hj;obtain⟨m0,Jp,QN⟩:=I.loc;have CS:=lI hF;have kx:=S.free _ CS rfl;have Vb:Uh X.env.scope x:=by
   rcases kx with z|z
   .exact .inr (.inl z)
   .exact .inr (.inr z)
  obtain⟨u,r,l⟩:=QN j x v hN hv Vb;refine⟨u,r,.inr ⟨yh hF,?_⟩⟩;obtain⟨c,hc⟩:=c2 x CS;have hnc:(x,NameKind.cell)∉scope.names:=fun z=>by
   have:=S.cells _ z rfl;rw[hF] at this;cases this
  refine⟨c,mQ _ _ _ _ _ hc hnc,?_⟩;rcases l with ⟨L7,_⟩|⟨_,c',e,z⟩
  .have Jq:X.env.scope.names.lookup x=some .local:=L7;rcases kx with z|z <;> (rw[z] at Jq;cases Jq)
  .rw[c1 x c hc] at e;cases e;obtain⟨o,ho,hd⟩:=z;exact⟨o,hk _ _ ho,hd⟩
 .rcases u7 x c e with z|⟨_,z⟩
  .obtain⟨v,o,ho,hd⟩:=yi x c z;exact⟨v,o,hk _ _ ho,hd⟩
  .exact⟨none,z⟩
 .rcases u7 x c e with z|⟨z,_⟩
  .exact I.l4 x c (c1 x c z)
  .exact I.cY.fresh (kX z)
 .show (Bn src σ).length=NB.length;unfold Bn;rw[aT];exact S.len
theorem aU.Vx(I:aU X af σ H s)(J:aU (EE X NB scope cl C s H fp) [] σB H' s')(hf:∀b∈fp,hZ X af H b):aU X af σ H' s':=by
 refine I.O7 (ch:=fp) J.os J.base J.cY J.bare fun b hb=>?_;obtain⟨_,f1,_,f3,f4,f5⟩:=hf b hb;exact⟨f3,f1,f4,f5⟩
end
def Uo(X:Cx)(EF:gZ)(t:TT):Prop:=
 ∀ (af:cE) (s:aR) (σ:St) (H:Hp) (Q:El),aU X af σ H s->t σ H Q->
  wpAny (model X.prog X.w) X.A (forIn EF true fun c r=>if r=true then do let ok <- isTrue c X.env (eval c X.env);pure (ForInStep.yield ok) else pure (ForInStep.yield r)) (TP X af σ Q) X.xe s
def QO:TT:=fun _ H Q=>Q true H
theorem dC:Uo X [] QO:=fun _ _ _ H _ I h=>wpAny_tests_nil ⟨H,I,h⟩
theorem g8(h:PT X c t):Uo X [c] t:=fun af s σ H Q I q=>wpAny_tests_one (h af s σ H Q I q)
def iy(J:It)(g:TG)(tt:TT)(te:TE)(D:Addr)(d_:rP)(σB:St)(H1:Hp):Prop:=
 ∃W:Nat->Nat->St->Hp->Prop,(∃m,W 0 m σB H1)/\∀i m σ H,W i m σ H->(J.stop i H/\d_ H)\/(J.go i H/\∀x H',J.Uj i H x H'->g x σ H' fun σ2 H2=>tt σ2 H2 fun b H3=>
  if b=true then te σ2 H3 fun v H4=>∃ys,H4 D=some (.lst ys)/\ys.length<sizeLine/\∃m',m'<m/\W (i+1) m' σ2 (upd H4 D (.lst (ys++[v]))) else ∃m',m'<m/\W (i+1) m' σ2 H3)
theorem Gm(hx:B.xe=fun _ _=>False)(hc:B.calm=true)(T:zO B.prog B.w B.K tg J fp it tn)(hg:PG B tg g)(ht:Uo B EF tt)(he:PE B Ig te)(I:aU B [] σB H1 s)(st:tn 0 s.heap)(hf:∀b∈fp,hZ B [] H1 b)(hw:iy J g tt te D d_ σB H1)(hR:∀σ' H' s',aU B [] σ' H' s'->d_ H'->R (.ok .next) s'):
  codeAny (model B.prog B.w) B.A (.compLoop (.ListComp Ig [⟨tg,lC,EF,0⟩] scope pos) 0 (.ref it) (.ref D) B.env) R s:=by
 obtain⟨W,⟨m0,w0⟩,IY⟩:=hw;have Cv:∀ {H':Hp},(∀b∈fp,H' b=none)->∀b∈fp,hZ B [] H' b:=fun hn b hb=>⟨hn b hb,(hf b hb).2⟩
 refine codeAny_loop rfl (fun n s'=>∃i σ' H',aU B [] σ' H' s'/\tn i s'.heap/\(∀b∈fp,H' b=none)/\W i n σ' H') ?_ m0 ⟨0,σB,H1,I,st,fun b hb=>(hf b hb).1,w0⟩;rintro n s3 ⟨i,σ3,H3,I3,jq,LX,w3⟩;show wpAny _ B.A ((compTurn (.ListComp Ig [⟨tg,lC,EF,0⟩] scope pos) 0 (.ref it) (.ref D) B.env).onRaise (fun x=>do noteFrame x B.env;theTreesLotGoes x)) _ _ s3;refine wpAny_noted ?_;rw[compTurn_list];have nx:∀ {α:Type} {t:Sem α} {Q:α->Shared->Prop} {E':bV} {s:aR},wpAny (model B.prog B.w) B.A t Q B.xe s->wpAny (model B.prog B.w) B.A t Q E' s:=fun h=>
  jL h (fun _ _ q=>q) fun _ _ z=>by rw[hx] at z;exact z.elim
 rcases IY i n σ3 H3 w3 with ⟨stop,qn⟩|⟨go,step⟩
 .refine au (oj (au (eD (T.done B rfl rfl rfl hc i [] s3 σ3 H3 _ I3 (Cv LX) jq stop) fun r s4 ⟨hr,I4⟩=>?_)));subst hr;exact wpAny_pure (hR σ3 H3 s4 I4 qn)
 .refine au (oj (au (eD (T.item B rfl rfl rfl hc i [] s3 σ3 H3 _ I3 (Cv LX) jq go) fun r s4 ⟨u,hr,h4⟩=>?_)));subst hr;refine au (eD h4 fun _ s5 ⟨x,H5,I5,r5,y5,zo,Qy⟩=>?_);have ZG:=I5.pinned (Cv Qy) (T.obj _ _ zo);refine au (nx (eD (hg _ s5 σ3 H5 x u _ ZG r5 (step x H5 y5)) fun _ s6 ⟨σ6,H6,I6,q6⟩=>?_));have back:∀ {σ7:St} {H7:Hp} {s7:aR} {m':Nat},aU B ([]++uT fp s5.heap) σ7 H7 s7->m'<n->W (i+1) m' σ7 H7->∃m,m<n/\∃i σ' H',aU B [] σ' H' s7/\tn i s7.heap/\(∀b∈fp,H' b=none)/\W i m σ' H':=fun {σ7 H7 s7 m'} I7 hm w7=>by
   refine⟨m',hm,i+1,σ7,H7,I7.pi,T.keep _ _ _ zo fun b hb o e=>(I7.pin (b,o) (e_ _ (e_ _ (k6 hb e)))).1,fun b hb=>?_,w7⟩;obtain⟨o,e,d⟩:=T.obj _ _ zo b hb;exact(I7.pin (b,o) (e_ _ (e_ _ (k6 hb e)))).2.1
  refine au (nx (eD (ht _ s6 σ6 H6 _ I6 q6) fun ok s7 ⟨H7,I7,q7⟩=>?_));cases ok with
  |false=>
   rw[ao di] at q7;obtain⟨m',hm,w7⟩:=q7;exact wpAny_pure ⟨rfl,back I7 hm w7⟩
  |true=>
   rw[ap rfl] at q7;refine au (au (nx (eD (he _ s7 σ6 H7 _ I7 q7) fun v s8 ⟨y,H8,I8,r8,ys,hD,hl,m',hm,w8⟩=>?_)));refine au (nx (eD (cV _ s8 σ6 H8 (.ref D) [y] (.ref D) [v] (fun _ H9=>H9=upd H8 D (.lst (ys++[y]))) I8 rfl (.cons r8 .nil) ⟨D,ys,y,rfl,rfl,hD,hl,rfl⟩) fun _ s9 ⟨_,H9,I9,_,e9⟩=>?_));subst e9;exact wpAny_pure (wpAny_pure ⟨rfl,back I9 hm w8⟩)
theorem yj(hQ:Q { scope:=scope,locals:=s.heap.objs.size,globals:=globals,cells:=cellsFrom (s.heap.objs.size+1) scope.names cl,qual:=qual,func:=none,code:=outer.code,frame:=outer.frame,builtins:=outer.builtins }
   { s with heap:=pushCells (s.heap.push { cls:=.type "dict",data:=.dict #[] }) scope.names }):
  wpAny M A (newFunctionEnv scope globals cl [] qual none .none (some outer)) Q E s:=by
 simp only[newFunctionEnv,Option.isSome_some,jN];refine au (wpAny_alloc ?_);refine au (wpAny_layCells _ (fun name kind cells=>by cases hkc:kind==NameKind.cell <;> simp[hkc]) _ _ _ _ ?_);rw[show ({ s with heap:=s.heap.push { cls:=.type "dict",data:=.dict #[] } }:aR).heap.objs.size=s.heap.objs.size+1 from jc ..];refine au ?_;rw[qL];exact wpAny_pure (wpAny_pure hQ)
section
variable {X:Cx} {Ig tg lC:Expr} {EF:gZ} {scope:Scope} {pos:Pos} {wi:TI} {g:TG} {tt:TT} {te:TE} {NB:bQ} {src:bA}
def Jr(src:bA)(wi:TI)(g:TG)(tt:TT)(te:TE):TE:=fun σ H Q=>wi σ H fun J H1=>∀D,H1 D=none->iy J g tt te D (fun H'=>Q (.ref D) H') (Bn src σ) (upd H1 D (.lst []))
theorem u9{af:cE}{σ:St}{H2:Hp}{s2:aR}{J:It}{fp:bR}{it:Addr}{tn:II}{cl:iP}{d_:Addr->Hp->Prop}{E':bV}{RR:Value->Addr->Result->Shared->Prop}(S:ix NB src scope X)(hc:X.calm=true)(c1:∀x c,cl.lookup x=some c->X.env.cells.lookup x=some c)(c2:∀x,(x,NameKind.free)∈scope.names->∃c,cl.lookup x=some c)(hg:∀cl C s₃ H₃ fp,PG (EE X NB scope cl C s₃ H₃ fp) tg g)(ht:∀cl C s₃ H₃ fp,Uo (EE X NB scope cl C s₃ H₃ fp) EF tt)(he:∀cl C s₃ H₃ fp,PE (EE X NB scope cl C s₃ H₃ fp) Ig te)(I2:aU X af σ H2 s2)(T:zO X.prog X.w X.K tg J fp it tn)(lD:tn 0 s2.heap)(f2:∀b∈fp,hZ X af H2 b)(hw:∀D,H2 D=none->iy J g tt te D (d_ D) (Bn src σ) (upd H2 D (.lst [])))(hR:∀D C H' s',hZ X af H' C->aU X af σ H' s'->(∃m,s'.heap.Ns C m)->d_ D H'->RR (.ref D) C (.ok .next) s'):
  wpAny (model X.prog X.w) X.A (newList []) (fun dN s₃=>wpAny (model X.prog X.w) X.A (newFunctionEnv scope X.env.globals cl [] X.env.qual none .none (some X.env)) (fun Vy s₄=>
   codeAny (model X.prog X.w) X.A (.compStart (.ListComp Ig [⟨tg,lC,EF,0⟩] scope pos) 0 (.ref it) dN { Vy with scope:=relabel scope X.env }) (RR dN Vy.locals) s₄) E' s₃) E' s2:=by
 refine kK (yj ?_);have I3:=I2.QJ (ys:=[]) (its:=[]) (t':=s2.toks) .nil (cp _);have hD:H2 s2.heap.objs.size=none:=I2.fresh;have fo:∀b∈fp,b<s2.heap.objs.size:=fun b hb=>by obtain⟨o,e,_⟩:=T.obj _ _ lD b hb;exact aS e
 have up:∀ {b:Addr},b∈fp->upd H2 s2.heap.objs.size (.lst []) b=H2 b:=fun {b} hb=>aq (bf (fo b hb));have f3:∀b∈fp,hZ X af (upd H2 s2.heap.objs.size (.lst [])) b:=fun b hb=>⟨by rw[up hb];exact(f2 b hb).1,(f2 b hb).2⟩
 have iD:(s2.heap.push { cls:=.type "list",data:=.seq ([]:bw).toArray }).objs.size=s2.heap.objs.size+1:=by rw[jc]
 generalize QP:({ s2 with heap:=s2.heap.push { cls:=.type "list",data:=.seq ([]:bw).toArray } }:aR)=s3 at I3 |-;have hh3:s3.heap=s2.heap.push { cls:=.type "list",data:=.seq ([]:bw).toArray }:=by rw[<-QP]
 have fo3:∀b∈fp,b<s3.heap.objs.size:=fun b hb=>by rw[hh3,iD];exact dH (fo b hb)
 have Vz:(s3.heap.push { cls:=.type "dict",data:=.dict #[] }).objs.size=s3.heap.objs.size+1:=jc ..;have u7:∀x c,(cellsFrom (s3.heap.objs.size+1) scope.names cl).lookup x=some c->cl.lookup x=some c\/(s3.heap.objs.size<c/\(pushCells (s3.heap.push { cls:=.type "dict",data:=.dict #[] }) scope.names).IsCell c none):=fun x c e=>by
  rw[<-Vz] at e;rcases qZ _ _ _ _ _ e with z|⟨z1,z2⟩
  .exact .inl z
  .exact .inr ⟨by rw[Vz] at z1;exact z1,z2⟩
 have VA:=(Heap.Ns.new s3.heap (.type "dict")).keeps (pushCells_keeps scope.names _);have keep:∀b o,s3.heap.get? b=some o->(pushCells (s3.heap.push { cls:=.type "dict",data:=.dict #[] }) scope.names).get? b=some o:=fun b o e=>pushCells_keeps _ _ b o (bP _ e);generalize hh1:pushCells (s3.heap.push { cls:=.type "dict",data:=.dict #[] }) scope.names=h₁ at u7 VA keep |-;have IB:aU (EE X NB scope (cellsFrom (s3.heap.objs.size+1) scope.names cl) s3.heap.objs.size s3 (upd H2 s2.heap.objs.size (.lst [])) fp) [] (Bn src σ) (upd H2 s2.heap.objs.size (.lst [])) { s3 with heap:=h₁,toks:=s3.toks }:=
  MM I3 S c1 c2 f3 fo3 VA keep u7
 have stB:tn 0 h₁:=T.keep 0 s2.heap h₁ lD fun b hb o e=>keep b o (by rw[hh3];exact bP _ e);have fB:∀b∈fp,hZ (EE X NB scope (cellsFrom (s3.heap.objs.size+1) scope.names cl) s3.heap.objs.size s3 (upd H2 s2.heap.objs.size (.lst [])) fp) [] (upd H2 s2.heap.objs.size (.lst [])) b:=fun b hb=>by
  refine⟨(f3 b hb).1,bf (fo3 b hb),fun z=>?_,.inl hb,fun x c e=>(IB.ok.Zo b hb).2 x c e,fun p hp=>absurd (show p∈([]:cE) from hp) (by simp)⟩;rcases bq.mp (I3.xS b z) with e|e
  .exact(f3 b hb).2.1 e
  .exact(f3 b hb).2.2.1 e
 have loop:codeAny (model X.prog X.w) X.A (.compLoop (.ListComp Ig [⟨tg,lC,EF,0⟩] scope pos) 0 (.ref it) (.ref s2.heap.objs.size) (compEnvC scope (cellsFrom (s3.heap.objs.size+1) scope.names cl) s3.heap.objs.size X.env)) (RR (.ref s2.heap.objs.size) s3.heap.objs.size)
   { s3 with heap:=h₁,toks:=s3.toks }:=by
  refine Gm (B:=EE X NB scope (cellsFrom (s3.heap.objs.size+1) scope.names cl) s3.heap.objs.size s3 (upd H2 s2.heap.objs.size (.lst [])) fp) rfl hc T (hg _ _ _ _ _) (ht _ _ _ _ _) (he _ _ _ _ _) IB stB fB (hw _ hD) fun σ' H' s' J' q=>?_;obtain⟨m,hm,_⟩:=J'.loc;exact hR _ _ H' s' (I3.zN (aP _) J'.free) (I3.Vx J' f3) ⟨m,hm⟩ q
 exact codeAny_compStart_list loop (T.self _ 0 _ _ _ stB loop)
theorem cQ(S:ix NB src scope X)(hc:X.calm=true)(hi:PI X tg lC wi)(hg:∀cl C s₃ H₃ fp,PG (EE X NB scope cl C s₃ H₃ fp) tg g)(ht:∀cl C s₃ H₃ fp,Uo (EE X NB scope cl C s₃ H₃ fp) EF tt)(he:∀cl C s₃ H₃ fp,PE (EE X NB scope cl C s₃ H₃ fp) Ig te)(hs:∀x,foldedSetIterable lC X.env x=pure x:=by intro _;rfl):PE X (.ListComp Ig [⟨tg,lC,EF,0⟩] scope pos) (Jr src wi g tt te):=by
 intro af s σ H Q I h;obtain⟨cl,Ih,c1,c2⟩:=oy I.ok S;rw[eval_ListComp];refine wpAny_comprehension_free (use:=none) (cl:=cl) rfl hs Ih S.kind S.names (eD (hi af s σ H _ I h) fun v s1 h1=>eD h1 fun Yy s2 h2=>?_);obtain⟨it,fp,tn,J,H2,e,I2,T,lD,f2,hw⟩:=h2;subst e;refine u9 (RR:=fun dN C=>compPost (model X.prog X.w) X.A X.xe none (EP X af σ Q) dN C) S hc c1 c2 hg ht he I2 T lD f2 hw fun D C H' s' fC I' hm q=>?_;obtain⟨m,hm⟩:=hm;refine⟨m,hm,fun h' sb=>⟨.ref D,H',?_,rfl,q⟩⟩;obtain⟨g0,g1,_,g3,g4,g5⟩:=fC;exact I'.turned (t':=s'.toks) (fun b o hb e=>(sb.2 b hb).trans e) g0 g1 g3 g4 g5
theorem fE{i:Nat}{y:Str}{py VB:Pos}(S:ix NB src scope X)(hc:X.calm=true)(hi:PI X tg lC wi)(hg:∀cl C s₃ H₃ fp,PG (EE X NB scope cl C s₃ H₃ fp) tg g)(ht:∀cl C s₃ H₃ fp,Uo (EE X NB scope cl C s₃ H₃ fp) EF tt)(he:∀cl C s₃ H₃ fp,PE (EE X NB scope cl C s₃ H₃ fp) Ig te)(hN:X.N.Nodup)(hix:X.N[i]?=some y)(hy:X.env.scope.names.lookup y=some .local)(hsw:swapsWith (.ListComp Ig [⟨tg,lC,EF,0⟩] scope pos) (some (.Name y py)) VB.line X.env=pure true)(hs:∀x,foldedSetIterable lC X.env x=pure x:=by intro _;rfl):
  PS X (.Assign [.Name y py] (.ListComp Ig [⟨tg,lC,EF,0⟩] scope pos) VB) (Qv (Jr src wi g tt te) (bH i)):=by
 intro af s σ H D0 I h;obtain⟨cl,Ih,c1,c2⟩:=oy I.ok S;rw[exec_Assign_Name_used _ _ _ _ hsw];refine au (oj (au ?_));show wpAny _ X.A (do let _ <- comprehension (.ListComp Ig [⟨tg,lC,EF,0⟩] scope pos) scope X.env _ (newList []) false (eval lC X.env) (some (assign (.Name y py) X.env))) _ _ s;refine au (jL (wpAny_comprehension_free (use:=some (assign (.Name y py) X.env)) (Q:=fun _ s'=>SP X af D0 .next s') (cl:=cl) rfl hs Ih S.kind S.names
  (eD (hi af s σ H _ I h) fun v s1 h1=>eD h1 fun Yy s2 h2=>?_)) (fun _ s' hq=>wpAny_pure (wpAny_pure hq)) fun _ _ e=>e)
 obtain⟨it,fp,tn,J,H2,e,I2,T,lD,f2,hw⟩:=h2;subst e;refine u9 (RR:=fun dN C=>compPost (model X.prog X.w) X.A X.xe (some (assign (.Name y py) X.env)) (fun _ s'=>SP X af D0 .next s') dN C) S hc c1 c2 hg ht he I2 T lD f2 hw fun D C H' s' fC I' hm q=>?_;obtain⟨m,hm⟩:=hm;obtain⟨g0,g1,_,g3,g4,g5⟩:=fC;show wpAny _ X.A (assign (.Name y py) X.env (.ref D)) _ _ _;refine wpAny_assign_Name (ww I' hN hix (.inl hy) (v:=.ref D) rfl (fun LY I'' sb=>?_) (.inr hy));obtain⟨a,sb,ha⟩:=sb;have qh:C≠a:=by
  rcases ha with z|z
  .rw[z];exact g1
  .exact fun z'=>g4 y a z z'.symm
 refine⟨m,hm.sameBut sb qh,fun h' sb'=>⟨_,H',I''.turned (t':=LY.toks) (fun b o hb e=>(sb'.2 b hb).trans e) g0 g1 g3 g4 g5,q⟩⟩
end
section
variable {P:bL} {w:World} {K:a_} {mg:cr} {base:Heap} {N:bQ} {qual:Str} {scope:Scope} {f:Addr} {cd:Value} {A:br} {outer:j9} {s:aR} {H:Hp} {E:XK}
end
open PySem.W
abbrev bmV:List Value:=[.type "ValueError",.type "Exception",.type "BaseException",.type "object"]
structure Go(K:a_)(C:Addr):Prop where
 ex:W.excIn K C bmV "ValueError.__new__"=true
 kp:W.keepIn K (.ref C)=true
 ga:W.findIn K (.ref C) "__getattribute__"=some (some (.builtin "BaseException.__getattribute__"))
 gt:W.findIn K (.ref C) "__getattr__"=some none
 cl:W.findIn K (.ref C) "__class__"=some (some (.builtin "object.__class__"))
 mo:W.mroIn K C (.type "object")=some true
 mb:W.mroIn K C (.type "BaseException")=some true
 ty:(W.clsIn K C).isSome=true
def YC(p:Addr)(C:Value)(h:Heap):Prop:=∃o,h.get? p=some o/\o.cls=C
abbrev ZY(p:Addr)(C:Value):HO:=.ext (YC p C)
theorem dB.get(x:dB Pzz w H h a o):∃u,h.get? a=some u:=by
 cases o with
 |lst xs=>obtain⟨_,_,_,_,e⟩:=x;exact⟨_,e⟩
 |tup xs=>obtain⟨_,_,_,ob,e,_⟩:=x;exact⟨_,e⟩
 |dK dR=>obtain⟨_,_,_,_,o,_,_,e,_⟩:=x;exact⟨_,e⟩
 |dT dR=>obtain⟨_,_,_,_,o,_,_,e,_⟩:=x;exact⟨_,e⟩
 |set S n=>obtain⟨o,_,_,_,e,_⟩:=x;exact⟨_,e⟩
 |ins C dx fs=>obtain⟨_,_,_,e,_⟩:=x;exact⟨_,e⟩
 |own y=>exact x
 |xd fs=>obtain⟨_,⟨_,_,_,e,_⟩,_⟩:=x;exact⟨_,e⟩
 |Ek lo hi=>obtain⟨_,_,_,e⟩:=x;exact⟨_,e⟩
 |zn ob u=>obtain⟨e,_⟩:=x;exact⟨_,e⟩
 |jp ps=>exact⟨_,(show h.get? a=some _ from x)⟩
 |met f y=>exact⟨_,(show h.get? a=some _ from x)⟩
 |ext φ=>exact x.2.1
theorem oo.u_(x:oo Pzz w H h)(e:h.get? a=none):H a=none:=by
 cases q:H a with
 |none=>rfl
 |some u=>obtain⟨o,z⟩:=(x a u q).get;rw[e] at z;cases z
theorem aU.z_(I:aU X af σ H s)(k:∀b u,s.heap.get? b=some u->h'.get? b=some u)(hp:s.heap.get? a=none)(new:dB X.prog X.w (upd H a o) h' a o):
  aU X af σ (upd H a o) { s with heap:=h',toks:=t' }:=by
 have hn:=I.cY.u_ hp;have ne:∀b u,s.heap.get? b=some u->b≠a:=fun b u e z=>by rw[z,hp] at e;cases e
 refine I.un ⟨fun b u e _ _ _=>k b u e,fun b u e _ _ _=>⟨u.slots,k b u e⟩,fun b u e n _=>by rw[aq (ne b u e)];exact n,fun b u e _=>⟨u,k b u e⟩,fun b xs e=>by rw[aq (am e hn)];exact e,fun b u v e=>by rw[aq (am e hn)];exact e,fun b ps e=>⟨#[],by rw[aq (am e hn),e];simp⟩⟩ fun b u e=>?_;by_cases hb:b=a
 .subst hb;rw[ae] at e;cases e;exact new
 .rw[aq hb] at e;exact(I.cY b u e).jP (fun c v _ q=>k c v q) (fun c q=>by rw[aq (am q hn)];exact q) fun c xs q=>by rw[aq (am q hn)];exact q
section
variable {prog:bL} {w:World} {A:br} {E:bV} {s:aR} {K:a_} {x C:Addr} {ox:Obj}
theorem EG(hx:h.get? x=some ox)(hc:ox.cls=.ref C):W.Looks M h (typeOf (.ref x)) (.ref C):=hc ▸ (W.Looks.ld hx).andThen .now
open Builtin Builtin.ObjectAttr Builtin.Getset_descriptor in
theorem CU(X:K.In s.heap)(hx:s.heap.get? x=some ox)(hc:ox.cls=.ref C)(hm:W.mroIn K C (.type "object")=some true)(h:R (.ok (.ret (.ref C))) s):codeAny (model prog w) A (.call (.builtin "getset_descriptor.__get__") ⟨[.builtin "object.__class__",.ref x,tp],[]⟩) R s:=by
 obtain⟨hh,g,dr,t,os⟩:=s;have L0:=EG (M:=model prog w) hx hc;have L1:=looks_mroIn (M:=model prog w) X hm;refine xz KF.slot_gs.plain KF.entry_gs (KF.slot_gs.check _ _ _ _ _ _ _ _ KF.type_class (KF.args_gs _ _ _) ?_);unfold Builtin.«getset_descriptor.__get__» descrGet;rw[dga_obj];refine au (wpAny_pure ?_);unfold descrGetter descrCheckInstance descrNameAndClass isInstance;simp only[KF.owner_class];repeat lk
 refine⟨Code.quiet_builtin _ (by decide +kernel),lT KF.entry_class ?_⟩;unfold Builtin.«object.__class__» shownTypeOf;repeat lk
 exact h
theorem Gp{g d t os}(T:Go K C)(X:K.In h)(hx:h.get? x=some ox)(hc:ox.cls=.ref C)(hq:Q (.done (.ret (.ref C))) ⟨h,g,d,t,os⟩):
  wpAny (model prog w) A (Builtin.«object.__getattribute__» ⟨[.ref x,.str "__class__" tk],[]⟩) Q E ⟨h,g,d,t,os⟩:=by
 have f5:=F.typeOf_bexc_args;have hT5:(⟨h,g,d,t,os⟩:aR).TypeIs (.builtin "object.__class__") "getset_descriptor":=Iy;have f5':=Iy;have f6:=F.slot_gs_get.lookup;have f7:=F.slot_gs_set.lookup;have L1:=looks_findIn (M:=model prog w) X T.cl;repeat (any_goals (first|assumption|(with_reducible refine Cf hx ?_;rw[hc])|with_reducible refine L1.at ?_|wp_step))
 refine CU (s:=⟨h,g,d,t,os⟩) X hx hc T.mo ?_;repeat (any_goals (first|assumption|wp_step))
theorem Gq{g d t os}(T:Go K C)(X:K.In h)(hx:h.get? x=some ox)(hc:ox.cls=.ref C)(hq:Q () ⟨h,g,d,t,os⟩):
  wpAny M A (checkBuiltinCall "BaseException.__getattribute__" ⟨[.ref x,VC],[]⟩) Q E ⟨h,g,d,t,os⟩:=by
 have hk:builtinKind "BaseException.__getattribute__"=some .slot:=by decide +kernel
 have QR:splitId "BaseException.__getattribute__"=some ("BaseException","__getattribute__"):=by decide +kernel
 have ha:=F.args_bexc_ga (.ref x) VC;have L1:=looks_mroIn (M:=M) X T.mb;simp only[checkBuiltinCall,hk,QR];refine au ?_
 .unfold isInstance;repeat (first|(with_reducible refine Cf hx ?_;rw[hc])|with_reducible refine L1.at ?_|wp_step)
  exact hq
theorem QS{tk:Tok}{fill Ms:Bool}{Q:bV}{h:Heap}{g d t os}(T:Go K C)(X:K.In h)(hx:h.get? x=some ox)(hc:ox.cls=.ref C)(hq:Q (.ref C) ⟨h,g,d,t,os⟩):
  wpAny (model prog w) A (getAttrBy (.ref x) (.str "__class__" tk) fill Ms) Q E ⟨h,g,d,t,os⟩:=by
 have f3:=F.attr_ValueError.ga.bind (.ref x);have hx0:(Ms&&onTheHeap (Value.builtin "BaseException.__getattribute__"))=false:=by cases Ms <;> rfl
 have hx2:(Value.builtin "BaseException.__getattribute__"==Value.builtin "object.__getattribute__")=false:=by decide +kernel
 have hx1:(onTheHeap (Value.ref C)&&Value.builtin "BaseException.__getattribute__"==Value.builtin "object.__getattribute__")=false:=by rw[hx2];rfl
 have L1:=looks_findIn (M:=model prog w) X T.ga;have L2:=looks_findIn (M:=model prog w) X T.gt;repeat (any_goals (first|assumption|(with_reducible refine Cf hx ?_;rw[hc])|with_reducible refine L1.at ?_|with_reducible refine L2.at ?_|wp_step))
 refine xz F.attr_ValueError.ga.plain F.entry_bexc_ga (Gq T X hx hc (Gp T X hx hc ?_));repeat (any_goals (first|assumption|wp_step))
theorem Js{Q:IK}{h:Heap}{g d t os}(T:Go K C)(X:K.In h)(hx:h.get? x=some ox)(hc:ox.cls=.ref C)(hq:Q (some (.ref C)) ⟨h,g,d,t+1,os⟩):
  wpAny (model prog w) A (getAttr? (.ref x) "__class__") Q E ⟨h,g,d,t,os⟩:=by
 unfold getAttr?;repeat (any_goals (first|assumption|with_reducible apply QS T X hx hc|wp_step))
theorem Aa(T:Go K C):W.KitX K (.ref x) (.ref C) (YC x (.ref C)) where
 ty:=fun _ _ _ ⟨o,e,c⟩=>EG e c
 it:=fun _ _ X _=>by
  obtain⟨cdD,Mu⟩:=xr.mp T.ty;unfold clsIn at Mu;split at Mu
  .rename_i c' d' cd' Zr ho;intro A' Q' E' s' k q;unfold isType loadHead;exact au (wpAny_loadPart (k _ _ (X _ _ ho)) (wpAny_pure q))
  .cases Mu
 ne:=fun h tp dd its n sl X htp=>by
  obtain⟨cdD,Mu⟩:=xr.mp T.ty;refine B6.mpr fun q=>?_;have e:C=tp:=Value.ref.inj (gg.mp q);subst e;unfold clsIn at Mu;split at Mu
  .rename_i c' d' cd' Zr ho;have z:=(X _ _ ho).symm.trans htp;cases z
  .cases Mu
 ca:=fun {_ _ _ _ _ s} X ⟨o,e,c⟩ k=>by
  obtain⟨h,g,d,t,os⟩:=s;exact Js T X e c k
end
section
variable {X:Cx}
inductive Pd (K:a_) (H:Hp):V->Value->Prop where
 |of {v:V} {t:Value} (h:qY K H v t):Pd K H v t
 |exc {p C:Addr} (T:Go K C) (e:H p=some (ZY p (.ref C))):Pd K H (.ref p) (.ref C)
def VD(K:a_):List V->Hp->VK->Prop:=fun xs H Q=>∃x c cv t b,xs=[x,c]/\(c=.ty cv/\W.kitOne K t (.type cv)=some b)/\Pd K H x t/\Q (.bl b) H
theorem jg:gf X (.builtin "isinstance") (VD X.K):=by
 intro af s σ H xs us Q I r h;obtain⟨x,c,cv,t,b,rfl,⟨rfl,e⟩,ty,q⟩:=h;obtain⟨u1,u2,rfl,r1,r2⟩:=r.two;obtain rfl:u2=Value.type cv:=r2;cases ty with
 |of ty=>exact wB I r1 ty e fun tk=>⟨.bl b,H,I.tok tk,rfl,q⟩
 |@exc p C T ea=>
  obtain rfl:u1=Value.ref p:=r1;have p1:YC p (.ref C) s.heap:=(I.cY p _ ea).1;exact W.kia_one (Aa T) I.pf p1 e (fun z=>nomatch z) fun tk=>⟨.bl b,H,I.tok tk,rfl,q⟩
def VE(K:a_):List V->Hp->VK->Prop:=fun xs H Q=>∃x c t b,xs=[x,.ref c]/\W.kitOne K t (.ref c)=some b/\Pd K H x t/\Q (.bl b) H
theorem Gr:gf X (.builtin "isinstance") (VE X.K):=by
 intro af s σ H xs us Q I r h;obtain⟨x,c,t,b,rfl,e,ty,q⟩:=h;obtain⟨u1,u2,rfl,r1,r2⟩:=r.two;obtain rfl:u2=Value.ref c:=r2;cases ty with
 |of ty=>exact wB I r1 ty e fun tk=>⟨.bl b,H,I.tok tk,rfl,q⟩
 |@exc p C T ea=>
  obtain rfl:u1=Value.ref p:=r1;have p1:YC p (.ref C) s.heap:=(I.cY p _ ea).1;exact W.kia_one (Aa T) I.pf p1 e (fun z=>nomatch z) fun tk=>⟨.bl b,H,I.tok tk,rfl,q⟩
end
section
variable {X:Cx} {x:Str} {C:Addr} {np yd pos:Pos} {e:Expr} {es:gZ} {t:TA}
end
section
variable {X:Cx} {CX:Bk} {k:Nat} {f C:Addr} {fd:eA} {ps:bQ} {sp:Sp} {vV:bg} {ds:bw} {E:St->XK} {x m:Str} {p pos xW:Pos} {e o:Expr} {es:gZ} {ta:TE} {t:TA}
end
section
variable {X:Cx} {CX:Bk} {k:Nat} {f:Addr} {fd:eA} {ps:bQ} {sp:Sp} {vV:bg} {ds:bw} {E:XK} {x:Str} {p pos:Pos} {e:Expr} {es:gZ} {t:TA}
end
section
variable {X:Cx} {af:cE} {σ:St} {H:Hp} {s:aR}
end
theorem MN{h:Heap}{a:Addr}{m m':cr}(x:h.Ns a m)(y:h.Ns a m'):m=m':=by
 obtain⟨o,es,ep,e,d,_,q⟩:=x;obtain⟨o',Bi,U0,e',d',_,q'⟩:=y;rw[e] at e';cases e';rw[d] at d';cases d';funext z;rw[<-q z,q' z]
theorem aU.VF{X:Cx}{af:cE}{σ:St}{H:Hp}{s:aR}{h':Heap}{m:cr}{D:Addr}{o:HO}{t':Nat}(I:aU X af σ H s)(F:Fr X.base X.env.locals s.heap m)(F':Fr X.base X.env.locals h' m)(N':News X.base X.env.locals h' (kZ X.base s.heap X.env.locals))(hD:s.heap.get? D=none)(new:dB X.prog X.w (upd H D o) h' D o):aU X af σ (upd H D o) { s with heap:=h',toks:=t' }:=by
 have hn:=I.cY.u_ hD;have ne:∀b u,s.heap.get? b=some u->b≠D:=fun b u e z=>by rw[z,hD] at e;cases e
 have keep:∀b u,b≠X.env.locals->s.heap.get? b=some u->h'.get? b=some u:=fun b u hb e=>by
  cases q:X.base.get? b with
  |some v=>
   have:=I.bk b v q;rw[e] at this;cases this;exact F'.keep b _ q
  |none=>exact(N' (b,u) (l3 hb q e)).1
 refine I.step (g':=s.gens) (d':=s.drawn) (ch:=[]) (fun _ z=>absurd z (by simp)) (fun b u hb _ _ e _=>keep b u hb e) (fun b u hb _ _ e _=>⟨u.slots,keep b u hb e⟩) (fun b u _ e n=>by rw[aq (ne b u e)];exact n) (fun b u _ e=>?_)
  (fun b xs e=>by rw[aq (am e hn)];exact e) (fun b u v e=>by rw[aq (am e hn)];exact e) (fun b ps e=>⟨#[],by rw[aq (am e hn),e];simp⟩) (fun m1 hm=>by rw[MN hm F.ns];exact F'.ns) (fun b u e=>?_) I.bare
 .by_cases hb:b=X.env.locals
  .obtain⟨o',_,_,q,_⟩:=F'.ns;exact⟨o',by rw[hb];exact q⟩
  .exact⟨u,keep b u hb e⟩
 .by_cases hb:b=D
  .subst hb;rw[ae] at e;cases e;exact new
  .rw[aq hb] at e;refine(I.cY b u e).jP (fun c v hc q=>keep c v ?_ q) (fun c q=>by rw[aq (am q hn)];exact q) fun c xs q=>by rw[aq (am q hn)];exact q
   rintro rfl;rcases hc with z|hc
   .have f:=I.free;rw[z,e] at f;cases f
   .rw[I.free] at hc;cases hc
theorem vZ(I:aU X af σ H s)(N:News X.base X.env.locals h' ((D,o)::kZ X.base s.heap X.env.locals))(eX:∀q∈kZ X.base s.heap X.env.locals,q.1<D):s.heap.get? D=none:=by
 cases e:s.heap.get? D with
 |none=>rfl
 |some u=>
  obtain⟨_,n1,n2⟩:=N (D,o) cK;exact absurd (eX (D,u) (l3 n1 n2 e)) (jd _)
def Jt(K:a_)(H:Hp)(a:Addr)(y:lG):Prop:=cu K H a [.int y.1,.int y.2]
section
variable {X:Cx}
theorem CV(I:aU X af σ H s)(h:Jt X.K H a y):∃o n t u,s.heap.get? a=some o/\o.cls=.type "tuple"/\o.data=.seq #[.int y.1 t,.int y.2 u] n:=by
 obtain⟨its,r,p,_⟩:=I.tuple h;obtain⟨u1,u2,rfl,r1,r2⟩:=r.two;obtain⟨t,rfl⟩:=r1;obtain⟨t',rfl⟩:=r2;obtain⟨o,e,c,n,d⟩:=p;exact⟨o,n,t,t',e,c,d⟩
end
def QT(hs:rL)(i:Nat):Int:=(hs[i]?).getD 0
def iq(hs:rL)(t:ni)(h:Int):Option (Array Int×SetTable):=
 if t.gaveWay then none else
 match t.probe (QT hs) h (t.probeStart h) with
 |some (.empty j none)=>
  let q:=t.put j
  let Gs:=SetTable.insertAt hs q.2 h
  if q.1.fits Gs.size&&decide (Gs.size<=4096) then
   if q.1.tooFull then
    (match q.1.relaid Gs (SetTable.grown (hs.size+1)) with
    |some (t2,order)=>
     let oX:=order.filterMap (Gs[·]?)
     if oX.size==Gs.size&&t2.fits oX.size&&decide (SetTable.sizeAbove (SetTable.grown (hs.size+1))<=4096) then some (oX,t2) else none
    |none=>none)
   else some (Gs,q.1)
  else none
 |_=>none
def yk(led:Bool):List Int->Option (Array Int×SetTable):=fun l=>l.foldlM (fun q h=>iq q.1 q.2 h) (#[],SetTable.fresh 0 0 led)
def md(h:Heap)(S:Addr)(hs:rL)(t:ni):Prop:=∃o es ep,h.get? S=some o/\o.cls=.type "set"/\(o.dict=none/\o.slots=#[])/\o.data=.set es ep t/\es.map (·.1)=hs/\t.fits es.size=true
section
variable {prog:bL} {w:World} {A:br} {E:bV} {s:aR} {S:Addr}
theorem QU(es:Array (Int×Value)):(fun i=>(es[i]?.map (·.1)).getD 0)=QT (es.map (·.1)):=by
 funext i;unfold QT;rw[Array.getElem?_map]
theorem pH(es:Array (Int×Value))(p:Nat)(x:Int×Value):(SetTable.insertAt es p x).map (·.1)=SetTable.insertAt (es.map (·.1)) p x.1:=by
 unfold SetTable.insertAt;simp
theorem q9(es:Array (Int×Value))(order:Array Nat):(order.filterMap (es[·]?)).map (·.1)=order.filterMap ((es.map (·.1))[·]?):=by
 apply Array.ext';rw[kP,xu,xu,List.map_filterMap];congr 1;funext i;rw[Array.getElem?_map]
theorem CW(hS:md s.heap S hs t)(hg:t.gaveWay=false)(hp:t.probe (QT hs) h (t.probeStart h)=some (.empty j none))(q:Q (.free j false) s):
  wpAny (model prog w) A (setSearch S x h true) Q E s:=by
 obtain⟨o,es,ep,ho,hc,hdi,hd,hm,hf⟩:=hS;unfold setSearch setSearchFrom;refine au (xG ho hd hf ?_);dsimp only;rw[hg,ao di];have Up:t.probe (fun i=>(es[i]?.map (·.1)).getD 0) h (t.probeStart h)=some (.empty j none):=by rw[QU,hm];exact hp
 refine au (wpAny_pure ?_);erw[Up];exact wpAny_pure q
theorem Gu(ho:s.heap.get? a=some o)(hc:o.cls=.type "tuple")(hd:o.data=.seq #[.int x t,.int y u] n)(q:Q true s):
  wpAny (model prog w) A (hashByValue 8 (.ref a)) Q E s:=by
 have hT:s.TypeIs (.ref a) "tuple":=⟨_,ho,hc⟩
 unfold hashByValue;refine au (wpAny_specialOf hT PySem.F.slot_tuple_hash.lookup ?_);refine au (iF ho hd ?_);refine au ?_;show wpAny _ _ (forIn #[Value.int x t,Value.int y u] _ _) _ _ s;rw[<-uq];refine wpAny_forIn_list _ (fun rest r s'=>r.1=none/\s'=s/\∀v∈rest,∃z k,v=Value.int z k) _ ?_ ?_ _ _ ⟨rfl,rfl,fun v hv=>?_⟩
 .rintro v rest r s' ⟨hr,rfl,vX⟩;obtain⟨z,k,rfl⟩:=vX v cK;refine au (wpAny_pure ?_);exact wpAny_pure ⟨rfl,rfl,fun u' sM=>vX u' (dq _ sM)⟩
 .rintro⟨r1,r2⟩ s' ⟨hr,rfl,_⟩;have CY:r1=none:=hr;subst CY;exact wpAny_pure q
 .rcases bq.mp hv with z|z
  .exact⟨_,_,z⟩
  .rcases bq.mp z with z|z
   .exact⟨_,_,z⟩
   .cases z
theorem EH(hS:md s.heap S hs t)(hf:t'.fits Bi.size=true)(hz:Bi.size<=4096)(q:∀h',Heap.SameBut S s.heap h'->md h' S (Bi.map (·.1)) t'->Q () { s with heap:=h' }):wpAny (model prog w) A (storeSet S Bi t') Q E s:=by
 obtain⟨o,es,ep,ho,hc,hdi,hd,hm,_⟩:=hS;refine wpAny_storeSet_of ho hd (q _ (qA s.heap S (Obj.putSet Bi t')) ?_) (aZ hz (by decide));have g:=nU (Obj.putSet Bi t') ho (by rw[putSet_of Bi t' hd];rfl);rw[putSet_of Bi t' hd] at g;exact⟨_,Bi,ep+1,g,hc,hdi,rfl,rfl,hf⟩
theorem MP(hu:A.units<cLine)(hS:md s.heap S hs t)(ho:s.heap.get? a=some o)(hc:o.cls=.type "tuple")(hd:o.data=.seq #[.int x tx,.int y ty] n)(qh:a≠S)(qg:iq hs t (tupleKeyHash (intKind prog w) [x,y])=some (hs',t'))(q:∀h' tk,Heap.SameBut S s.heap h'->md h' S hs' t'->Q true { s with heap:=h',toks:=tk }):wpAny (model prog w) A (setAdd S (.ref a)) Q E s:=by
 have hk:IsTupleKey (intKind prog w) s.heap [x,y] a:=⟨o,_,n,ho,hc,hd,.cons (intKind_is _ _ _ _) (.cons (intKind_is _ _ _ _) .nil)⟩
 unfold setAdd;refine gK (au (wpAny_pyHash_tuple hu hk ?_));generalize Vk:s.toks+([x,y].length+1)=tk;generalize hh:tupleKeyHash (intKind prog w) [x,y]=h at qg |-;have hS0:=hS;obtain⟨ob,es,ep,hb,ZZ,hbd,LV,hm,hf⟩:=hS;unfold setAddHashed setAddHashedIn;refine gK (au (xG (s:={ s with toks:=tk }) hb LV hf ?_));dsimp only;have Pf:byScan (.ref a) es=false:=by unfold byScan;rfl
 rw[Pf,ao di];unfold iq at qg;cases hg:t.gaveWay with
 |true=>rw[hg,ap rfl] at qg;cases qg
 |false=>
  rw[hg,ao di] at qg;split at qg
  .rename_i j hp;dsimp only at qg;split at qg
   .rename_i YD;rw[gm,ur] at YD;refine au (CW (s:={ s with toks:=tk }) hS0 hg hp ?_);dsimp only;refine au (xG (s:={ s with toks:=tk }) hb LV hf ?_);dsimp only;have byv:∀ {kk:Bool->Sem Bool},wpAny (model prog w) A (kk true) Q E { s with toks:=tk }->wpAny (model prog w) A (if (t.put j).1.plain=true then hashByValue 8 (.ref a) >>= kk else pure true >>= kk) Q E { s with toks:=tk }:=fun {kk} hP=>by
     split
     .exact au (Gu (s:={ s with toks:=tk }) ho hc hd hP)
     .exact au (wpAny_pure hP)
    refine byv ?_;simp only[jN];have iD:(SetTable.insertAt es (t.put j).2 (h,Value.ref a)).size=(SetTable.insertAt hs (t.put j).2 h).size:=by
     rw[<-hm,<-pH es (t.put j).2 (h,Value.ref a),j8]
    refine au (EH (s:={ s with toks:=tk }) hS0 (by rw[iD];exact YD.1) (by rw[iD];exact YD.2) fun h1 sO S1=>?_);rw[pH,hm] at S1;split at qg
    .rename_i Z0;rw[show (!false&&(t.put j).1.tooFull)=true by rw[Z0];rfl,ap rfl];split at qg
     .rename_i t2 order hr;split at qg
      .rename_i hq;rw[gm,gm,ur,gg] at hq;obtain⟨⟨Ii,Ij⟩,Uq⟩:=hq;cases qg;have Z1:es.size=hs.size:=by rw[<-hm,j8]
       refine au ?_;unfold setRelay;obtain⟨o1,MQ,ep1,g1,g2,g3,g4,g5,g6⟩:=id S1;refine au (xG (s:={ s with heap:=h1,toks:=tk }) g1 g4 g6 ?_);dsimp only;rw[Z1];rw[ao (by (have h4:(4096:Nat)<=sizeLine:=by decide);lia)];refine au ?_;rw[g5,hr];have CZ:(order.filterMap (MQ[·]?)).size=MQ.size:=by
        have e1:=congrArg Array.size (q9 MQ order);rw[j8,g5] at e1;rw[e1,Ii,<-g5,j8]
       refine wpAny_of_eq (show _=(pure (order.filterMap (MQ[·]?),t'):Sem (Array (Int×Value)×SetTable)) from ?_) ?_
       .show (do
         let Bi:=order.filterMap (MQ[·]?)
         if Bi.size != MQ.size then unsupported "internal:set-table-lost-an-element"
         pure (Bi,t'):Sem (Array (Int×Value)×SetTable))=_
        simp[CZ]
       dsimp only;have Ur:MQ.size<=4096:=by
        have e1:=congrArg Array.size g5;rw[j8] at e1;rw[e1];exact YD.2
       have hfm:(order.filterMap (MQ[·]?)).size=(order.filterMap ((SetTable.insertAt hs (t.put j).2 h)[·]?)).size:=by
        have e1:=congrArg Array.size (q9 MQ order);rw[j8,g5] at e1;exact e1
       refine EH (s:={ s with heap:=h1,toks:=tk }) S1 (by rw[hfm];exact Ij) (by rw[CZ];exact Ur) fun h2 q_ S2=>?_;rw[q9,g5] at S2;exact wpAny_pure (q h2 tk (sO.trans q_) S2)
      .cases qg
     .cases qg
    .rename_i Z0;cases qg;have Z2:(t.put j).1.tooFull=false:=by simpa using Z0
     rw[show (!false&&(t.put j).1.tooFull)=false by rw[Z2];rfl,ao di];exact wpAny_pure (q h1 tk sO S1)
   .cases qg
  .cases qg
end
section
variable {prog:bL} {w:World} {A:br} {E:bV} {s:aR} {S Ia l:Addr} {R:zB}
def lc(h:Heap)(vs:bw)(ys:o0):Prop:=vs.length=ys.length/\∀i v,vs[i]?=some v->∃a o n t u,v=.ref a/\h.get? a=some o/\o.cls=.type "tuple"/\o.data=.seq #[.int (ys.getD i (0,0)).1 t,.int (ys.getD i (0,0)).2 u] n
theorem lc.keeps(p:lc h vs ys)(k:∀b o,(∃xs n,o.data=.seq xs n)->h.get? b=some o->h'.get? b=some o):lc h' vs ys:=
 ⟨p.1,fun i v e=>let ⟨a,o,n,t,u,e1,e2,c,d⟩:=p.2 i v e;⟨a,o,n,t,u,e1,k a o ⟨_,_,d⟩ e2,c,d⟩⟩
def g9(prog:bL)(w:World)(y:lG):Int:=tupleKeyHash (intKind prog w) [y.1,y.2]
theorem Ju(hh:A.handled=none)(hu:A.units+1<cLine)(hlS:l≠S)(Z3:l≠Ia)(Z4:S≠Ia):
  ∀ (k i:Nat) (s:aR) (hs:rL) (t:ni),vs.length-i=k->i<=vs.length->s.heap.IsListIter Ia l i->s.heap.IsList l vs.toArray->lc s.heap vs ys->md s.heap S hs t->
   ((ys.drop i).map (g9 prog w)).foldlM (fun q h=>iq q.1 q.2 h) (hs,t)=some (hsN,tN)->
   (∀h' tk,(∀b o,b≠S->b≠Ia->s.heap.get? b=some o->h'.get? b=some o)->md h' S hsN tN->R (.ok (.ret .none)) { s with heap:=h',toks:=tk })->
   codeAny (model prog w) A (.builtin "set.update.loop" ⟨[.ref S,.ref Ia],[]⟩) R s:=by
 intro k;induction k with
 |zero=>
  intro i s hs t hk hi zq hl hp hS hf hR;have e:i=vs.length:=by lia
  refine lT Iw ?_;rw[qy Bw _];show wpAny _ A.in1 (pyNext (.ref Ia) >>= _) _ _ s;refine au (BW (show A.in1.handled=none from hh) zq hl (by simp;lia) fun h' eb=>?_);show wpAny _ A.in1 (ret Value.none) _ _ _;have hd:ys.drop i=[]:=by rw[List.drop_eq_nil_iff];have:=hp.1;lia
  rw[hd] at hf;cases hf;obtain⟨o,es,ep,q1,q2⟩:=hS;exact wpAny_pure (hR h' s.toks (fun b o hb MR e=>eb b o MR e) ⟨o,es,ep,eb S o Z4 q1,q2⟩)
 |succ k ih=>
  intro i s hs t hk hi zq hl hp hS hf hR;have eX:i<vs.length:=by lia
  refine lT Iw ?_;rw[qy Bw _];show wpAny _ A.in1 (pyNext (.ref Ia) >>= _) _ _ s;have hv:vs[i]?=some vs[i]:=cz eX;refine au (BS zq hl (x:=vs[i]) (by simpa using hv) fun h1 QV sO=>?_);obtain⟨a,o,n,tx,ty,ea,eo,ec,ed⟩:=hp.2 i _ hv;rw[ea];have YE:∀b ob,(∃xs n,ob.data=.seq xs n)->s.heap.get? b=some ob->b≠Ia:=fun b ob ⟨xs,m,z⟩ e z'=>by
   obtain⟨oi,e1,_,d1⟩:=zq;rw[z',e1] at e;cases e;rw[d1] at z;cases z
  have mY:lc h1 vs ys:=hp.keeps fun b ob hb e=>(sO.2 b (YE b ob hb e)).trans e;have VG:md h1 S hs t:=by
   obtain⟨oS,es,ep,q1,q2⟩:=hS;exact⟨oS,es,ep,(sO.2 S Z4).trans q1,q2⟩
  have Bo:h1.IsList l vs.toArray:=by
   obtain⟨ol,q1,q2⟩:=hl;exact⟨ol,(sO.2 l Z3).trans q1,q2⟩
  have VH:h1.get? a=some o:=(sO.2 a (YE a o ⟨_,_,ed⟩ eo)).trans eo;have neS:∀b ob,(∃xs n,ob.data=.seq xs n)->h1.get? b=some ob->b≠S:=fun b ob ⟨xs,m,z⟩ e z'=>by
   obtain⟨oS,es,ep,q1,_,_,q4,_⟩:=VG;rw[z',q1] at e;cases e;rw[q4] at z;cases z
  have Ab:i<ys.length:=by have:=hp.1;lia
  have Z5:ys.drop i=ys[i]::ys.drop (i+1):=qo Ab;have hgy:ys.getD i (0,0)=ys[i]:=by rw[cw,cz Ab];rfl
  rw[Z5,gJ,List.foldlM_cons] at hf;cases qg:iq hs t (g9 prog w ys[i]) with
  |none=>rw[qg] at hf;cases hf
  |some q=>
   obtain⟨oX,t2⟩:=q;rw[qg] at hf;have Pg:((ys.drop (i+1)).map (g9 prog w)).foldlM (fun q h=>iq q.1 q.2 h) (oX,t2)=some (hsN,tN):=hf;show wpAny _ A.in1 (holding [Value.ref a] (setAdd S (.ref a)) >>= _) _ _ _;refine au (gK (MP (s:={ s with heap:=h1 }) (by show A.units+1<cLine;exact hu) VG VH ec ed (neS a o ⟨_,_,ed⟩ VH) (hs':=oX) (t':=t2) (by rw[hgy];exact qg) fun h2 tk q_ S2=>?_));refine wpAny_pure ⟨uN Bw _,?_⟩;refine ih (i+1) { s with heap:=h2,toks:=tk } oX t2 (by lia) eX ?_ ?_ (mY.keeps fun b ob hb e=>(q_.2 b (neS b ob hb e)).trans e) S2 Pg fun h3 Z6 k3 S3=>?_
   .obtain⟨oi,q1,q2⟩:=QV;exact⟨oi,(q_.2 Ia (dI Z4)).trans q1,q2⟩
   .obtain⟨ol,q1,q2⟩:=Bo;exact⟨ol,(q_.2 l hlS).trans q1,q2⟩
   .exact hR h3 Z6 (fun b ob hb MR e=>k3 b ob hb MR ((q_.2 b hb).trans ((sO.2 b MR).trans e))) S3
theorem Jv{vs:bw}{ys:o0}{hsN:Bool->Array Int}{tN:Bool->SetTable}{Q:bV}(hh:A.handled=none)(hu:A.units+8<cLine)(hl:s.heap.IsList l vs.toArray)(hp:lc s.heap vs ys)(Gv:∀led,yk led (ys.map (g9 prog w))=some (hsN led,tN led))(h:∀ (led:Bool) (h':Heap) (tk:Nat),md h' s.heap.objs.size (hsN led) (tN led)->(∀b o,b<s.heap.objs.size->s.heap.get? b=some o->h'.get? b=some o)->Q (.ref s.heap.objs.size) { s with heap:=h',toks:=tk }):
  wpAny (model prog w) A (call (.type "set") [.ref l]) Q E s:=by
 obtain⟨c,tl,ack⟩:=lP.mro;have c1:=lP.made;have c2:=lP.sub;refine qR (codeAny_of_tree ?_);show wpAny _ _ (callAny (.type "set") _) _ _ _;refine wpAny_pure ⟨Code.quiet_builtin _ (by decide +kernel),lT PySem.F.entry_type_call ?_⟩;rw[Around.under_plain (weight_type_call_type "set" [.ref l] []) rfl];have c3:=lP.notType;have c4:=lP.canCreate;have c5:=PySem.F.typeCall_set_1 (.ref l);repeat (any_goals (first|assumption|wp_step))
 refine qQ (code_set_new_1 (.ref l) (E:=E) (Q₁:=fun obj s₁=>∃led:Bool,obj=.ref s.heap.objs.size/\s₁={ s with heap:=s.heap.push { cls:=.type "set",dict:=none,data:=.set #[] 0 (.fresh 0 0 led) } }) fun led=>⟨led,rfl,rfl⟩) fun r s₁ hr=>?_;cases r with
 |error e=>exact hr
 |ok fl=>
  cases fl with
  |next=>exact hr.elim
  |brk=>exact hr.elim
  |cont=>exact hr.elim
  |ret obj=>
   obtain⟨led,rfl,rfl⟩:=hr;generalize Z7:s.heap.push { cls:=.type "set",dict:=none,data:=.set #[] 0 (.fresh 0 0 led) }=hS;have iD:hS.objs.size=s.heap.objs.size+1:=by rw[<-Z7,jc]
   have gS:hS.get? s.heap.objs.size=some { cls:=.type "set",dict:=none,data:=.set #[] 0 (.fresh 0 0 led) }:=by rw[<-Z7];exact cX _ rfl
   have up:∀b o,s.heap.get? b=some o->hS.get? b=some o:=fun b o e=>by rw[<-Z7];exact bP _ e
   have hT:Shared.TypeIs { s with heap:=hS } (.ref s.heap.objs.size) "set":=⟨_,gS,rfl⟩
   have c6:=lP.init.lookup;have c7:=lP.init.bind (.ref s.heap.objs.size);repeat (any_goals (first|assumption|wp_step))
   refine qQ (xz (R:=wants (fun r s₂=>r=.none/\∃h' tk,s₂={ s with heap:=h',toks:=tk }/\md h' s.heap.objs.size (hsN led) (tN led)/\
     (∀b o,b<s.heap.objs.size->s.heap.get? b=some o->h'.get? b=some o)) E) lP.init.plain PySem.F.entry_set_init (check_set_init_1 hT ?_)) fun r₂ s₂ VI=>?_
   .obtain⟨ol,Ik,Ih,nl,YF⟩:=hl;obtain⟨acl,acf,acg,Z8⟩:=ol;simp only at Ih YF;subst Ih;subst YF;have Z9:=up _ _ Ik;have c8:=PySem.F.sub_list_set;have c9:=PySem.F.sub_list_frozenset;have c10:(Value.type "list"==Value.type "dict")=false:=by decide
    have Bo:hS.IsList l vs.toArray:=⟨_,Z9,rfl,nl,rfl⟩
    unfold Builtin.«set.__init__» noKeywords Builtin.Frozenset.updateFrom;generalize hPI:pyIter=PI
    wp_walk
    subst hPI;refine uB Bo ?_;refine au (wpAny_runValue ?_);have eX:l<s.heap.objs.size:=aS Ik;refine Ju (l:=l) (vs:=vs) (ys:=ys) (hsN:=hsN led) (tN:=tN led) (by simp[hh]) (by simp;lia) (bf eX) (by rw[iD];exact bf (dH eX)) (by rw[iD];exact bf (lM _))
     (vs.length-0) 0 _ #[] (.fresh 0 0 led) rfl (cp _) ⟨_,cX _ rfl,rfl,rfl⟩ (Bo.push _) (hp.keeps fun b o _ e=>bP _ (up b o e)) ⟨_,#[],0,bP _ gS,rfl,⟨rfl,rfl⟩,rfl,by simp,rfl⟩ (Gv led) fun h' tk k S'=>?_
    show wpAny _ _ _ _ _ _;refine wpAny_pure ?_;show wpAny _ _ (ret Value.none) _ _ _;refine wpAny_pure ⟨rfl,h',tk,rfl,S',fun b o hb e=>?_⟩;exact k b o (bf hb) (by rw[iD];exact bf (dH hb)) (bP _ (up b o e))
   .cases r₂ with
    |error e=>exact VI
    |ok fl₂=>
     cases fl₂ with
     |next=>exact VI.elim
     |brk=>exact VI.elim
     |cont=>exact VI.elim
     |ret r=>
      obtain⟨rfl,h',tk,rfl,S',k⟩:=VI;repeat (any_goals (first|assumption|wp_step))
      exact h led h' tk S' k
end
def Jw(l:aQ):Nat:=l.foldl (fun a x=>a ||| (1 <<< x)) 0
theorem Gw(l:aQ)(a j:Nat):(l.foldl (fun a x=>a ||| (1 <<< x)) a).testBit j=(a.testBit j||l.contains j):=by
 induction l generalizing a with
 |nil=>simp
 |cons x xs ih=>
  rw[iN,ih,Nat.testBit_or,List.contains_cons];have:(1 <<< x).testBit j=(j==x):=by
   rw[Nat.one_shiftLeft,Nat.testBit_two_pow];by_cases h:x=j
   .simp[h]
   .have h':¬ j=x:=fun e=>h e.symm;simp[h,h']
  rw[this,Bool.or_assoc]
theorem rS(h:Jw l=2 ^ n-1)(hj:j<n):j∈l:=by
 have e:=Gw l 0 j;have h':l.foldl (fun a x=>a ||| (1 <<< x)) 0=2 ^ n-1:=h;rw[h',Nat.testBit_two_pow_sub_one] at e;simp[hj] at e;exact e
def Jx(M:Nat):Nat->Nat->Nat
 |0,i=>i
 |n+1,i=>Jx M n ((i*5+1) % M)
theorem tQ(M a:Nat):∀b i,Jx M (b+a) i=Jx M a (Jx M b i)
 |0,i=>by rw[jJ];rfl
 |b+1,i=>by
  rw[show b+1+a=(b+a)+1 by lia];show Jx M (b+a) _=Jx M a (Jx M b _);exact tQ M a b _
def QW(M:Nat):Nat->Nat->List Nat
 |0,_=>[]
 |n+1,i=>i::QW M n ((i*5+1) % M)
theorem va:∀ {n i},j∈QW M n i->∃k,k<n/\Jx M k i=j
 |0,_,h=>by cases h
 |n+1,i,h=>by
  rcases bq.mp h with z|z
  .exact⟨0,by lia,z.symm⟩
  .obtain⟨k,a,b⟩:=va z;exact⟨k+1,by lia,b⟩
structure Gx(M:Nat):Prop where
 all:Jw (QW M M 0)=2 ^ M-1
 back:Jx M M 0=0
theorem Z_:Gx 8:=⟨by decide +kernel,by decide +kernel⟩
theorem Ph:Gx 32:=⟨by decide +kernel,by decide +kernel⟩
theorem Jy:Gx 128:=⟨by decide +kernel,by decide +kernel⟩
theorem Jz:Gx 512:=⟨by decide +kernel,by decide +kernel⟩
theorem Gx.cover(R:Gx M)(hi:i<M)(hj:j<M):∃n,n<M/\Jx M n i=j:=by
 obtain⟨a,ha,ea⟩:=va (rS R.all hi);obtain⟨b,hb,eb⟩:=va (rS R.all hj);by_cases h:a<=b
 .refine⟨b-a,by lia,?_⟩;rw[<-ea,<-tQ,show a+(b-a)=b by lia,eb]
 .refine⟨M+b-a,by lia,?_⟩;rw[<-ea,<-tQ,show a+(M+b-a)=M+b by lia,tQ,R.back,eb]
def iS(mask:Nat):Nat->Nat×Nat->Nat×Nat
 |0,q=>q
 |n+1,q=>iS mask n (SetTable.leap mask q.1 q.2)
theorem wL(m a:Nat):∀b q,iS m (b+a) q=iS m a (iS m b q)
 |0,q=>by rw[jJ];rfl
 |b+1,q=>by
  rw[show b+1+a=(b+a)+1 by lia];exact wL m a b _
theorem Ad:∀ {n:Nat} {q:Nat×Nat},q.1<m+1->(iS m n q).1<m+1
 |0,_,h=>h
 |n+1,q,h=>Ad (n:=n) (lW _ (Nat.succ_pos _))
theorem EI:∀ {n:Nat} {q:Nat×Nat},(iS m n q).2=q.2 / 32 ^ n
 |0,_=>by simp[iS]
 |n+1,q=>by
  show (iS m n _).2=_;rw[EI];show q.2 / 32 / 32 ^ n=_;rw[BK,Nat.pow_succ,Nat.mul_comm]
theorem wM:∀ {n i:Nat},iS m n (i,0)=(Jx (m+1) n i,0)
 |0,_=>rfl
 |n+1,i=>by
  show iS m n (SetTable.leap m i 0)=_;unfold SetTable.leap;simp only[Nat.zero_div,Nat.add_zero];exact wM
theorem rT(R:Gx (m+1))(hi:i<m+1)(hp:p<2 ^ 64)(hj:j<m+1):∃n,n<m+14/\(iS m n (i,p)).1=j:=by
 have h1:=Ad (m:=m) (n:=13) (q:=(i,p)) hi;have h2:(iS m 13 (i,p)).2=0:=by
  rw[EI];exact Nat.div_eq_of_lt (bv hp (by decide))
 obtain⟨n,hn,e⟩:=R.cover h1 hj;refine⟨13+n,by lia,?_⟩;rw[wL];have:iS m 13 (i,p)=((iS m 13 (i,p)).1,0):=iH rfl h2;rw[this,wM];exact e
theorem EJ(h:Int):SetTable.bits h<2 ^ 64:=by
 unfold SetTable.bits;have a:=uC h (show (2 ^ 64:Int)≠0 by decide);have b:=um h (show (0:Int)<2 ^ 64 by decide);lia
theorem VJ{M:Nat}{l:aQ}(h:l.length<M):∃j,j<M/\j∉l:=by
 have key:∀ (a b:aQ),a.Nodup->(∀x∈a,x∈b)->a.length<=b.length:=by
  intro a;induction a with
  |nil=>intro b _ _;exact cp _
  |cons x xs ih=>
   intro b hn hs;obtain⟨h1,h2⟩:=gI.mp hn;have hx:x∈b:=hs x cK;have:=ih (b.erase x) h2 fun y hy=>(BN (fun (e:y=x)=>h1 (e ▸ hy))).mpr (hs y (dq _ hy));rw[BC hx] at this;have:0<b.length:=ue hx;rw[fj];lia
 apply xq;intro MA;have:=key (List.range M) l jH fun x hx=>xq fun qU=>MA ⟨x,bY.mp hx,qU⟩;rw[dk] at this;lia
def C0(mask i p:Nat):SetTable.Probe:={ j:=i,more:=SetTable.runEnd mask i-i,i:=i,perturb:=p,dummy:=none }
theorem QX(mask i:Nat):SetTable.runEnd mask i-i<=9:=by unfold SetTable.runEnd;split <;> lia
theorem yl{t:ni}(hd:t.dummies=#[])(j:Nat):t.slot j=.empty\/∃i,t.slot j=.live i/\t.place[i]?=some j:=by
 unfold SetTable.slot;dsimp only;split
 .rename_i h;exact .inr ⟨_,rfl,by simpa using h⟩
 .left;rw[hd];rfl
theorem C1{t:ni}(hd:t.dummies=#[]){j:Nat}(h:j∉t.place.toList):t.slot j=.empty:=by
 rcases yl hd j with e|⟨i,_,e2⟩
 .exact e
 .exact absurd (by rw[<-nN] at e2;exact dz e2) h
section
variable {t:ni} {hashAt:ua} {h:Int}
theorem JA(hd:t.dummies=#[])(hh:∀i,i<t.place.size->hashAt i≠h)(i p:Nat):∀ (r:Nat) (j iz:Nat),
  (∃j',SetTable.probe.go t hashAt h (iz+r+1) { j:=j,more:=r,i:=i,perturb:=p,dummy:=none }=some (.empty j' none))\/
  SetTable.probe.go t hashAt h (iz+r+1) { j:=j,more:=r,i:=i,perturb:=p,dummy:=none }=SetTable.probe.go t hashAt h iz (C0 t.mask (SetTable.leap t.mask i p).1 (SetTable.leap t.mask i p).2)
 |0,j,iz=>by
  rcases yl hd j with e|⟨k,e,e2⟩
  .exact .inl ⟨j,by unfold SetTable.probe.go;rw[e]⟩
  .right;have hk:k<t.place.size:=(IC.mp e2).1;conv=>lhs;unfold SetTable.probe.go
   rw[e];simp only[gg,hh k hk,eG];rfl
 |r+1,j,iz=>by
  rcases yl hd j with e|⟨k,e,e2⟩
  .exact .inl ⟨j,by rw[show iz+(r+1)+1=(iz+r+1)+1 by lia];unfold SetTable.probe.go;rw[e]⟩
  .have hk:k<t.place.size:=(IC.mp e2).1;have st:SetTable.probe.go t hashAt h (iz+(r+1)+1) { j:=j,more:=r+1,i:=i,perturb:=p,dummy:=none }=SetTable.probe.go t hashAt h (iz+r+1) { j:=j+1,more:=r,i:=i,perturb:=p,dummy:=none }:=by
    rw[show iz+(r+1)+1=(iz+r+1)+1 by lia];conv=>lhs;unfold SetTable.probe.go
    rw[e];simp only[gg,hh k hk,eG];rfl
   rw[st];exact JA hd hh i p r (j+1) iz
theorem EK(hd:t.dummies=#[])(hh:∀i,i<t.place.size->hashAt i≠h):∀ (m:Nat) (i p iz:Nat),10*(m+1)<=iz->t.slot (iS t.mask m (i,p)).1=.empty->
  ∃j',SetTable.probe.go t hashAt h iz (C0 t.mask i p)=some (.empty j' none)
 |0,i,p,iz,hf,e=>by
  obtain⟨f,rfl⟩:∃f,iz=f+1:=⟨iz-1,by lia⟩
  refine⟨i,?_⟩;have e':t.slot i=.empty:=e;unfold SetTable.probe.go C0;dsimp only;rw[e']
 |m+1,i,p,iz,hf,e=>by
  have hr:=QX t.mask i;obtain⟨f,Ae⟩:∃f,iz=f+(SetTable.runEnd t.mask i-i)+1:=⟨iz-(SetTable.runEnd t.mask i-i)-1,by lia⟩
  rcases JA (hashAt:=hashAt) (h:=h) hd hh i p (SetTable.runEnd t.mask i-i) i f with z|z
  .rw[Ae];exact z
  .rw[Ae];show ∃j',SetTable.probe.go t hashAt h _ { j:=i,more:=_,i:=i,perturb:=p,dummy:=none }=_;rw[z];exact EK hd hh m _ _ f (by lia) e
theorem C2(R:Gx (t.mask+1))(hd:t.dummies=#[])(hs:t.place.size<=t.mask)(hh:∀i,i<t.place.size->hashAt i≠h):∃j,t.probe hashAt h (t.probeStart h)=some (.empty j none):=by
 obtain⟨j,hj,hn⟩:=VJ (M:=t.mask+1) (l:=t.place.toList) (by simpa using Nat.lt_succ_of_le hs);obtain⟨m,hm,e⟩:=rT R (lW (SetTable.bits h) (Nat.succ_pos t.mask)) (EJ h) hj;refine EK hd hh m _ _ _ ?_ (by rw[e];exact C1 hd hn);unfold SetTable.turns;lia
end
theorem rc{α β:Type}{f:α->Option β}:∀ {l:List α},(∀q∈l,(f q).isSome=true)->(l.filterMap f).length=l.length
 |[],_=>rfl
 |q::l,h=>by
  have hq:=h q cK;cases e:f q with
  |none=>rw[e] at hq;cases hq
  |some b=>rw[IG e,fj,fj,rc fun x hx=>h x (dq _ hx)]
theorem wN:∀ (m iz i p:Nat),m<iz->owner.getD (iS mask m (i,p)).1 (some 0)=none->∃j,SetTable.layClean.free mask owner iz i p=some j/\owner.getD j (some 0)=none
 |m,0,_,_,h,_=>by lia
 |m,iz+1,i,p,h,e=>by
  unfold SetTable.layClean.free;cases hf:(List.range (SetTable.runEnd mask i+1-i)).find? fun k=>(owner.getD (i+k) (some 0)).isNone with
  |some k=>
   refine⟨i+k,rfl,?_⟩;have:=Cc hf;simpa using this
  |none=>
   cases m with
   |zero=>
    have h0:(0:Nat)∈List.range (SetTable.runEnd mask i+1-i):=bY.mpr (by unfold SetTable.runEnd;split <;> lia);have:=B1.mp hf 0 h0;have e':owner.getD i (some 0)=none:=e;rw[Nat.add_zero,e'] at this;exact absurd rfl this
   |succ m=>
    exact wN m iz _ _ (by lia) e
structure Af(M:Nat)(owner:Array (Option Nat))(k:Nat):Prop where
 size:owner.size=M
 cnt:owner.toList.countP Option.isSome=k
 lt:∀x,some x∈owner.toList->x<k
theorem C3{l:bA}{j:Nat}{x:Nat}(hj:l[j]?=some none):(l.set j (some x)).countP Option.isSome=l.countP Option.isSome+1:=by
 induction l generalizing j with
 |nil=>cases hj
 |cons a l ih=>
  cases j with
  |zero=>
   obtain rfl:a=none:=by simpa using hj
   simp
  |succ j=>
   rw[List.set_cons_succ,qD,qD,ih (by simpa using hj)];lia
theorem Af.one{mask:Nat}{owner:Array (Option Nat)}{k:Nat}(L:Af (mask+1) owner k)(R:Gx (mask+1))(hk:k<mask+1)(h:Int):
  ∃j,SetTable.layClean.free mask owner (SetTable.turns mask) (SetTable.bits h % (mask+1)) (SetTable.bits h)=some j/\Af (mask+1) (owner.setIfInBounds j (some k)) (k+1):=by
 have MA:∃j,j<mask+1/\owner.toList[j]?=some none:=by
  apply xq;intro MA;have vX:∀x∈owner.toList,x.isSome=true:=by
   intro x hx;obtain⟨j,hj,e⟩:=nQ.mp hx;cases x with
   |some _=>rfl
   |none=>
    refine absurd ⟨j,?_,?_⟩ MA
    .rw[<-L.size];simpa using hj
    .rw[cz hj,e]
  have:=List.countP_eq_length.mpr vX;rw[L.cnt,lJ,L.size] at this;lia
 obtain⟨j0,hj0,e0⟩:=MA;obtain⟨m,hm,em⟩:=rT R (lW (SetTable.bits h) (Nat.succ_pos mask)) (EJ h) hj0;obtain⟨j,ej,en⟩:=wN (mask:=mask) (owner:=owner) m (SetTable.turns mask) (SetTable.bits h % (mask+1)) (SetTable.bits h) (by unfold SetTable.turns;lia)
  (by rw[em,xo,<-nN,e0];rfl)
 refine⟨j,ej,?_⟩;have hjn:owner.toList[j]?=some none:=by
  rw[xo,<-nN] at en;cases hq:owner.toList[j]? with
  |none=>rw[hq] at en;cases en
  |some v=>rw[hq] at en;rw[show v=none from en]
 have VL:(owner.setIfInBounds j (some k)).toList=owner.toList.set j (some k):=by simp
 refine⟨by simp[L.size],by rw[VL,C3 hjn,L.cnt],fun x hx=>?_⟩;rw[VL] at hx;rcases List.mem_or_eq_of_mem_set hx with z|z
 .exact dH (L.lt x z)
 .cases z;exact lM _
theorem EL(R:Gx (mask+1)):∀ (l:dG) (owner:Array (Option Nat)) (k:Nat),Af (mask+1) owner k->k+l.length<=mask->
  ∃JB,l.foldl (fun dN h=>do
   let (owner,k) <- dN
   let j <- SetTable.layClean.free mask owner (SetTable.turns mask) (SetTable.bits h % (mask+1)) (SetTable.bits h)
   pure (owner.setIfInBounds j (some k),k+1)) (some (owner,k))=some (JB,k+l.length)/\Af (mask+1) JB (k+l.length)
 |[],owner,k,L,_=>⟨owner,rfl,L⟩
 |h::l,owner,k,L,hl=>by
  rw[fj] at hl;obtain⟨j,ej,L'⟩:=L.one R (by lia) h;obtain⟨o',e,L2⟩:=EL R l _ _ L' (by lia);refine⟨o',?_,by rw[fj,show k+(l.length+1)=k+1+l.length by lia];exact L2⟩;rw[iN];have:(do
   let (owner,k) <- some (owner,k)
   let j <- SetTable.layClean.free mask owner (SetTable.turns mask) (SetTable.bits h % (mask+1)) (SetTable.bits h)
   pure (owner.setIfInBounds j (some k),k+1):Option (Array (Option Nat)×Nat))=some (owner.setIfInBounds j (some k),k+1):=by
   show (SetTable.layClean.free mask owner (SetTable.turns mask) (SetTable.bits h % (mask+1)) (SetTable.bits h)).bind _=_;rw[ej];rfl
  rw[this,e,fj,show k+(l.length+1)=k+1+l.length by lia]
theorem Ag(R:Gx (mask+1))(hs:rL)(h:hs.size<=mask):∃owner,SetTable.layClean mask hs=some owner/\Af (mask+1) owner hs.size:=by
 have L0:Af (mask+1) (Array.replicate (mask+1) none) 0:=⟨by simp,by simp[List.countP_replicate],fun x hx=>by simp at hx⟩
 obtain⟨o,e,L⟩:=EL R hs.toList _ 0 L0 (by simpa using h);refine⟨o,?_,by simpa using L⟩;unfold SetTable.layClean;rw[<-Array.foldl_toList];have e':=congrArg (Option.map (·.1)) e;exact e'
theorem C4(L:Af M owner n):
  ((List.range M).filterMap fun j=>(owner.getD j none).map (j,·)).length=n/\∀q∈(List.range M).filterMap (fun j=>(owner.getD j none).map (j,·)),q.2<n:=by
 constructor
 .rw[<-L.cnt];have e:owner.toList=(List.range M).map fun j=>owner.getD j none:=by
   apply B_
   .simp[L.size]
   .intro i h1 h2;simp only[uA,B0,Array.getElem_toList];rw[xo,BA (by simpa using h1)];rfl
  conv=>rhs;rw[e]
  rw[List.countP_map];generalize List.range M=l;induction l with
  |nil=>rfl
  |cons a l ih=>
   rw[qD,<-ih];cases hq:owner.getD a none with
   |none=>rw[List.filterMap_cons_none (by rw[hq];rfl),show (Option.isSome ∘ fun j=>owner.getD j none) a=false by show (owner.getD a none).isSome=false;rw[hq];rfl];simp
   |some x=>rw[IG (b:=(a,x)) (by rw[hq];rfl),show (Option.isSome ∘ fun j=>owner.getD j none) a=true by show (owner.getD a none).isSome=true;rw[hq];rfl];simp
 .intro q hq;obtain⟨j,_,e⟩:=qz.mp hq;cases hx:owner.getD j none with
  |none=>rw[hx] at e;cases e
  |some x=>
   rw[hx] at e;cases e;refine L.lt x ?_;rw[xo,<-nN] at hx;cases hy:owner.toList[j]? with
   |none=>rw[hy] at hx;cases hx
   |some v=>rw[hy] at hx;obtain rfl:v=some x:=hx;exact dz hy
structure Ah(hs:rL)(t:ni):Prop where
 dm:t.dummies=#[]
 sz:t.place.size=hs.size
 ms:(t.mask=7/\hs.size<=4)\/(t.mask=31/\hs.size<=18)\/(t.mask=127/\hs.size<=76)\/(t.mask=511/\hs.size<=306)
theorem Ah.rnd(T:Ah hs t):Gx (t.mask+1):=by
 rcases T.ms with ⟨e,_⟩|⟨e,_⟩|⟨e,_⟩|⟨e,_⟩ <;> rw[e]
 .exact Z_
 .exact Ph
 .exact Jy
 .exact Jz
theorem ny(xs:Array α)(p:Nat)(x:α):(SetTable.insertAt xs p x).size=xs.size+1:=by
 unfold SetTable.insertAt;simp;lia
theorem pI(h:y∈(SetTable.insertAt xs p x).toList):y=x\/y∈xs.toList:=by
 unfold SetTable.insertAt at h;rw[gD,nZ,BR,BR] at h;rcases cL.mp h with z|z
 .rcases cL.mp z with z|z
  .right;rw[List.extract_eq_drop_take] at z;exact ui (o_ z)
  .left;simpa using z
 .right;rw[List.extract_eq_drop_take] at z;exact ui (o_ z)
theorem C5{hs:rL}{t:ni}{h:Int}(T:Ah hs t)(hn:h∉hs.toList)(hl:hs.size<300):∃hs' t',iq hs t h=some (hs',t')/\Ah hs' t'/\hs'.size=hs.size+1/\∀x∈hs'.toList,x=h\/x∈hs.toList:=by
 have Ur:t.place.size<=t.mask:=by rw[T.sz];rcases T.ms with ⟨e,z⟩|⟨e,z⟩|⟨e,z⟩|⟨e,z⟩ <;> lia
 have hh:∀i,i<t.place.size->QT hs i≠h:=by
  intro i hi e;rw[T.sz] at hi;unfold QT at e;rw[BA hi] at e;exact hn (by rw[<-e];simp)
 obtain⟨j,hp⟩:=C2 (hashAt:=QT hs) (h:=h) T.rnd T.dm Ur hh;have hg:t.gaveWay=false:=by
  unfold SetTable.gaveWay;rcases T.ms with ⟨e,_⟩|⟨e,_⟩|⟨e,_⟩|⟨e,_⟩ <;> rw[e] <;> rfl
 have q1:(t.put j).1.place=SetTable.insertAt t.place (SetTable.below t.place j) j:=rfl;have q2:(t.put j).1.dummies=#[]:=by
  show (if SetTable.has t.dummies j=true then _ else t.dummies)=_;rw[T.dm];rfl
 have q3:(t.put j).1.mask=t.mask:=rfl;have s1:(SetTable.insertAt hs (t.put j).2 h).size=hs.size+1:=ny _ _ _;have s2:(t.put j).1.place.size=hs.size+1:=by rw[q1,ny,T.sz]
 have fl:(t.put j).1.fill=hs.size+1:=by unfold SetTable.fill;rw[s2,q2];rfl
 have fit:(t.put j).1.fits (SetTable.insertAt hs (t.put j).2 h).size=true:=by
  unfold SetTable.fits;rw[s1,s2,fl,q3];simp;rcases T.ms with ⟨e,z⟩|⟨e,z⟩|⟨e,z⟩|⟨e,z⟩ <;> lia
 unfold iq;rw[hg,ao di,hp];dsimp only;rw[ap (by rw[fit,s1];simp;lia)];by_cases hf:(t.put j).1.tooFull=true
 .rw[ap hf];have Ae:=hf;unfold SetTable.tooFull at Ae;rw[fl,q3] at Ae;have Pg:(hs.size+1)*5>=t.mask*3:=by simpa using Ae
  have gr:SetTable.grown (hs.size+1)=(hs.size+1)*4:=by unfold SetTable.grown;rw[ao (by lia)]
  obtain⟨m2,em2,QY,R2⟩:∃m2,SetTable.sizeAbove (SetTable.grown (hs.size+1))=m2+1/\((m2=31/\hs.size+1<=18)\/(m2=127/\hs.size+1<=76)\/(m2=511/\hs.size+1<=306))/\Gx (m2+1):=by
   rw[gr];rcases T.ms with ⟨e,z⟩|⟨e,z⟩|⟨e,z⟩|⟨e,z⟩
   .have:hs.size=4:=by lia
    exact⟨31,by rw[this];rfl,.inl ⟨rfl,by lia⟩,Ph⟩
   .have:hs.size=18:=by lia
    exact⟨127,by rw[this];rfl,.inr (.inl ⟨rfl,by lia⟩),Jy⟩
   .have:hs.size=76:=by lia
    exact⟨511,by rw[this];rfl,.inr (.inr ⟨rfl,by lia⟩),Jz⟩
   .lia
  have hm3:(SetTable.insertAt hs (t.put j).2 h).size<=m2:=by rw[s1];rcases QY with ⟨e,z⟩|⟨e,z⟩|⟨e,z⟩ <;> lia
  obtain⟨owner,eo,L⟩:=Ag R2 (SetTable.insertAt hs (t.put j).2 h) hm3;obtain⟨VM,lv2⟩:=C4 L;rw[s1] at VM lv2;generalize VN:(List.range (m2+1)).filterMap (fun j=>(owner.getD j none).map (j,·))=live at VM lv2;have er:(t.put j).1.relaid (SetTable.insertAt hs (t.put j).2 h) (SetTable.grown (hs.size+1))=some ({ mask:=m2,place:=(live.map (·.1)).toArray,dummies:=#[],finger:=(t.put j).1.finger,led:=(t.put j).1.led,moves:=(t.put j).1.movedTo m2,plain:=(t.put j).1.plain },(live.map (·.2)).toArray):=by
   unfold SetTable.relaid SetTable.laid;rw[em2];simp only[Nat.add_sub_cancel];rw[eo];show some _=some _;rw[<-VN]
  rw[er];dsimp only;have CZ:((live.map (·.2)).toArray.filterMap ((SetTable.insertAt hs (t.put j).2 h)[·]?)).size=hs.size+1:=by
   rw[<-lJ,xu];show ((live.map (·.2)).filterMap _).length=_;rw[<-VM,List.filterMap_map];refine rc fun q hq=>?_;show ((SetTable.insertAt hs (t.put j).2 h)[q.2]?).isSome=true;rw[BA (by rw[s1];exact lv2 q hq)];rfl
  have emf:∀x,({ mask:=m2,place:=(live.map (·.1)).toArray,dummies:=#[],finger:=(t.put j).1.finger,led:=(t.put j).1.led,moves:=(t.put j).1.movedTo m2,plain:=(t.put j).1.plain }:ni).fits x=(decide (hs.size+1=x)&&decide (hs.size+1<=m2)):=by
   intro x;unfold SetTable.fits SetTable.fill;simp[VM];rw[kQ];simp
  rw[ap (by
   rw[CZ,s1,emf,em2];have:hs.size+1<=m2:=by rw[<-s1];exact hm3
   simp[this];rcases QY with ⟨e,z⟩|⟨e,z⟩|⟨e,z⟩ <;> lia)]
  refine⟨_,_,rfl,⟨rfl,?_,?_⟩,CZ,fun x hx=>?_⟩
  .rw[CZ];simp[VM]
  .rw[CZ];exact .inr QY
  .rw[xu] at hx;obtain⟨k,_,ek⟩:=qz.mp hx;refine pI (p:=(t.put j).2) ?_;rw[<-nN] at ek;exact dz ek
 .rw[ao hf];refine⟨_,_,rfl,⟨q2,by rw[s2,s1],?_⟩,s1,fun x hx=>pI hx⟩;have Ae:¬ (hs.size+1)*5>=t.mask*3:=by
   intro z;refine hf ?_;unfold SetTable.tooFull;rw[fl,q3];simpa using z
  rw[s1,q3];rcases T.ms with ⟨e,z⟩|⟨e,z⟩|⟨e,z⟩|⟨e,z⟩ <;> lia
theorem rV:∀ (l:dG) (hs:rL) (t:ni),Ah hs t->(∀x∈l,x∉hs.toList)->l.Nodup->hs.size+l.length<=300->∃hs' t',l.foldlM (fun q h=>iq q.1 q.2 h) (hs,t)=some (hs',t')/\hs'.size=hs.size+l.length
 |[],hs,t,_,_,_,_=>⟨hs,t,rfl,rfl⟩
 |h::l,hs,t,T,hn,nd,hl=>by
  rw[fj] at hl;obtain⟨n1,n2⟩:=gI.mp nd;obtain⟨Gs,t1,e1,T1,z1,m1⟩:=C5 T (hn h cK) (by lia);obtain⟨oX,t2,e2,z2⟩:=rV l Gs t1 T1 (fun x hx hy=>by
   rcases m1 x hy with e|e
   .exact n1 (e ▸ hx)
   .exact hn x (dq _ hx) e) n2 (by lia)
  refine⟨oX,t2,?_,by rw[z2,z1,fj];lia⟩;rw[List.foldlM_cons];show (iq hs t h).bind _=_;rw[e1];exact e2
theorem Gz(led:Bool)(nd:l.Nodup)(hl:l.length<=300):∃hs t,yk led l=some (hs,t)/\hs.size=l.length:=by
 obtain⟨hs,t,e,z⟩:=rV l #[] (SetTable.fresh 0 0 led) ⟨rfl,rfl,.inl ⟨rfl,by decide⟩⟩ (fun x _ h=>by simp at h) nd (by simpa using hl);exact⟨hs,t,e,by simpa using z⟩
def EM:List Nat->Nat->Bool
 |[],_=>true
 |x::xs,dN=>bif Nat.testBit dN x then false else EM xs (dN ||| (1 <<< x))
theorem Ai:∀ (l:aQ) (dN:Nat),EM l dN=true->l.Nodup/\∀x∈l,dN.testBit x=false
 |[],_,_=>⟨kR,fun x h=>(nomatch h)⟩
 |x::xs,dN,h=>by
  unfold EM at h;cases hb:dN.testBit x with
  |true=>rw[hb] at h;cases h
  |false=>
   rw[hb] at h;obtain⟨nd,hx⟩:=Ai xs _ h;have hor:∀y∈xs,dN.testBit y=false/\y≠x:=by
    intro y hy;have:=hx y hy;rw[Nat.testBit_or,Nat.one_shiftLeft,Nat.testBit_two_pow] at this;rw[Bool.or_eq_false_iff] at this;exact⟨this.1,fun e=>by have:=this.2;simp[e] at this⟩
   refine⟨gI.mpr ⟨fun hm=>(hor x hm).2 rfl,nd⟩,fun y hy=>?_⟩;rcases bq.mp hy with z|z
   .rw[z];exact hb
   .exact(hor y z).1
def vc:List (Int×Int):=(List.range 32).flatMap fun a=>(List.range 32).map fun b=>(Int.ofNat a,Int.ofNat b)
def Pk(h:Int):Nat:=(h % 6554).toNat
theorem GA(P:bL)(w:World):EM (vc.map fun y=>Pk (g9 P w y)) 0=true:=by kernel_rfl
theorem EN(h1:0<=y.1/\y.1<32)(h2:0<=y.2/\y.2<32):y∈vc:=by
 unfold vc;refine B9.mpr ⟨y.1.toNat,bY.mpr (by lia),bB.mpr ⟨y.2.toNat,bY.mpr (by lia),iH ?_ ?_⟩⟩
 .show ((y.1.toNat:Nat):Int)=y.1;lia
 .show ((y.2.toNat:Nat):Int)=y.2;lia
theorem nA:∀ {l:List α},(l.map f).Nodup->∀x∈l,∀y∈l,f x=f y->x=y
 |[],_,_,h,_,_,_=>by cases h
 |a::l,h,x,hx,y,hy,e=>by
  rw[gJ] at h;obtain⟨h1,h2⟩:=gI.mp h;rcases bq.mp hx with z|z <;> rcases bq.mp hy with z'|z'
  .rw[z,z']
  .exact absurd (bB.mpr ⟨y,z',by rw[<-e,z]⟩) h1
  .exact absurd (bB.mpr ⟨x,z,by rw[e,z']⟩) h1
  .exact nA h2 x z y z' e
theorem ym(hx:(0<=x.1/\x.1<32)/\(0<=x.2/\x.2<32))(hy:(0<=y.1/\y.1<32)/\(0<=y.2/\y.2<32))(e:g9 P w x=g9 P w y):x=y:=
 nA (Ai _ _ (GA P w)).1 x (EN hx.1 hx.2) y (EN hy.1 hy.2) (congrArg Pk e)
theorem re:∀ {l:List α},l.Nodup->(∀x∈l,∀y∈l,f x=f y->x=y)->(l.map f).Nodup
 |[],_,_=>kR
 |a::l,h,hf=>by
  obtain⟨h1,h2⟩:=gI.mp h;rw[gJ];refine gI.mpr ⟨fun z=>?_,re h2 fun x hx y hy=>hf x (dq _ hx) y (dq _ hy)⟩;obtain⟨y,hy,e⟩:=bB.mp z;have:=hf y (dq _ hy) a cK e;exact h1 (this ▸ hy)
theorem Aj{P:bL}{w:World}(led:Bool){ys:o0}(nd:ys.Nodup)(hr:∀y∈ys,(0<=y.1/\y.1<32)/\(0<=y.2/\y.2<32))(hl:ys.length<=300):
  ∃hs t,yk led (ys.map (g9 P w))=some (hs,t)/\hs.size=ys.length:=by
 obtain⟨hs,t,e,z⟩:=Gz led (re nd fun x hx y hy e=>ym (P:=P) (w:=w) (hr x hx) (hr y hy) e) (by rw[aT];exact hl);exact⟨hs,t,e,by rw[z,aT]⟩
theorem yn:∀ {as:bR} {its:bw},ba (as.map V.ref) its->its=as.map Value.ref
 |[],_,r=>by cases r;rfl
 |a::as,_,r=>by
  cases r with
  |cons r rr=>
   obtain rfl:=(show _=Value.ref a from r)
   rw[yn rr];rfl
def MS(D:Addr)(n:Nat):HO:=.ext fun h=>∃hs t,md h D hs t/\hs.size=n
section
variable {X:Cx}
def VO(K:a_):List V->Hp->VK->Prop:=fun xs H Q=>∃ (l:Addr) (as:bR) (ys:o0),xs=[.ref l]/\a8 K H l (as.map V.ref)/\as.length=ys.length/\
 (∀i,i<ys.length->Jt K H (as.getD i 0) (ys.getD i (0,0)))/\ys.Nodup/\(∀y∈ys,(0<=y.1/\y.1<32)/\(0<=y.2/\y.2<32))/\ys.length<=300/\∀D,H D=none->Q (.ref D) (upd H D (MS D ys.length))
theorem GB(hc:X.calm=true)(hu:X.A.units+8<cLine):gf X (.type "set") (VO X.K):=by
 intro af s σ H xs us Q I r h;obtain⟨l,as,ys,rfl,hl,e8,hp,nd,rg,h3,q⟩:=h;obtain⟨u1,rfl,r1⟩:=r.one;obtain rfl:u1=Value.ref l:=r1;obtain⟨its,rv,pl,hz⟩:=I.list hl;have e:=yn rv;subst e;have hpi:lc s.heap (as.map Value.ref) ys:=⟨by rw[aT,e8],fun i v hv=>by
  rw[cA] at hv;cases ea:as[i]? with
  |none=>rw[ea] at hv;cases hv
  |some a=>
   rw[ea] at hv;obtain rfl:Value.ref a=v:=cB hv;have hi:i<as.length:=(eR.mp ea).1;obtain⟨o,n,t,u,e1,c,d⟩:=CV I (hp i (by lia));have eg:as.getD i 0=a:=by rw[cw,ea];rfl
   rw[eg] at e1;exact⟨a,o,n,t,u,rfl,e1,c,d⟩⟩
 have Gv:∀led,∃q:Array Int×SetTable,yk led (ys.map (g9 X.prog X.w))=some q/\q.1.size=ys.length:=fun led=>
  let ⟨hs,t,e,z⟩:=Aj (P:=X.prog) (w:=X.w) led nd rg h3;⟨(hs,t),e,z⟩
 refine Jv (I.ok.hd hc) hu pl.isList hpi (hsN:=fun led=>(Gv led).choose.1) (tN:=fun led=>(Gv led).choose.2) (fun led=>(Gv led).choose_spec.1) fun led h' tk S' k=>?_;refine⟨.ref s.heap.objs.size,_,I.z_ (t':=tk) (o:=MS s.heap.objs.size ys.length) (fun b u e=>k b u (aS e) e) (qx (aP _)) ⟨⟨_,_,S',(Gv led).choose_spec.2⟩,?_,fun h1 h2 ⟨hs,t,⟨o,es,ep,q1,q2⟩,z⟩ kk=>⟨hs,t,⟨o,es,ep,kk o q1,q2⟩,z⟩⟩,rfl,q _ I.fresh⟩;obtain⟨o,_,_,q1,_⟩:=S';exact⟨o,q1⟩
theorem Al:gf X (.builtin "len") (fun xs H Q=>∃D n,xs=[.ref D]/\H D=some (MS D n)/\n<=4096/\Q (.int n) H):=by
 intro af s σ H xs us Q I r h;obtain⟨D,n,rfl,e,hn,q⟩:=h;obtain⟨u1,rfl,r1⟩:=r.one;obtain rfl:u1=Value.ref D:=r1;obtain⟨⟨hs,t,⟨o,es,ep,q1,q2,q3,q4,q5,q6⟩,z⟩,_⟩:=(show dB X.prog X.w H s.heap D (MS D n) from I.cY D _ e)
 have iD:es.size=n:=by rw[<-z,<-q5,j8]
 exact call_len_set q1 ⟨q2,q3.1,q3.2⟩ q4 q6 (by rw[iD];lia) ⟨.int n,H,I.tok _,⟨_,by rw[iD]⟩,q⟩
theorem me:gf X (.type "range") (fun xs H Q=>∃n,xs=[.int n]/\∀p,H p=none->Q (.ref p) (upd H p (.Ek 0 n))):=by
 intro af s σ H xs us Q I r h;obtain⟨n,rfl,q⟩:=h;obtain⟨u1,rfl,t,rfl⟩:=r.one;refine call_range_1 ⟨.ref s.heap.objs.size,_,I.laid (o:=.Ek 0 n) (fun b u e=>bP _ e) (aP _) ⟨_,_,_,cX _ rfl⟩,rfl,q _ I.fresh⟩
theorem oz(hc:X.calm=true):gf X (.type "list") (fun xs H Q=>∃ (p:Addr) (n:Nat),xs=[.ref p]/\H p=some (.Ek 0 n)/\n<=1000/\∀l,H l=none->Q (.ref l) (upd H l (.lst ((List.range n).map fun (i:Nat)=>V.int i)))):=by
 intro af s σ H xs us Q I r h;obtain⟨p,n,rfl,e,hn,q⟩:=h;obtain⟨u1,rfl,r1⟩:=r.one;obtain rfl:u1=Value.ref p:=r1;obtain⟨t,u,v,hp⟩:=(show dB X.prog X.w H s.heap p (.Ek 0 n) from I.cY p _ e)
 refine call_list_range (n:=n) (I.ok.hd hc) (show IsRange s.heap p 0 n 1 t u v from hp) (small_one (by lia) (by lia) (by lia) (by lia)) (by rw[rangeSize_one];split <;> lia) (by lia) fun h' tk dN c k g it=>?_;obtain⟨i1,i2⟩:=it;refine⟨.ref s.heap.objs.size,_,I.z_ (t':=tk) (o:=.lst ((List.range n).map fun (i:Nat)=>V.int i)) (fun b u e=>k b u e) (qx (aP _)) ⟨?_,dN.toList,c,?_,by simpa using g⟩,rfl,q _ I.fresh⟩
 .rw[aT,dk];exact aZ hn (by decide)
 .have go:∀ (m:Nat) (l:bw),l.length=m->(∀ (j:Nat) v,l[j]?=some v->∃t,v=Value.int (0+(j:Int)*1) t)->ba ((List.range m).map fun (i:Nat)=>V.int i) l:=by
   intro m;induction m with
   |zero=>intro l hl _;cases l with
    |nil=>exact .nil
    |cons _ _=>cases hl
   |succ m ih=>
    intro l hl hv;have qh:l≠[]:=by intro z;rw[z] at hl;cases hl
    have el:l=l.dropLast++[l.getLast qh]:=(List.dropLast_concat_getLast qh).symm;rw[lw,dt,el];have YF:l.dropLast.length=m:=by rw[List.length_dropLast,hl];rfl
    refine ba.append (ih _ YF fun j v hj=>hv j v ?_) (.cons ?_ .nil)
    .rw[el];have VP:j<l.dropLast.length:=(eR.mp hj).1;rw[j4 VP];exact hj
    .obtain⟨t,ht⟩:=hv m (l.getLast qh) (by
      rw[List.getLast_eq_getElem,cz (by lia:m<l.length)];simp[hl])
     exact⟨t,by rw[ht];simp⟩
  exact go n dN.toList (by simpa using i1) fun j v hj=>i2 j v (by simpa using hj)
end
def jv(e:V->V->Bool):List V->List V->Bool
 |[],[]=>true
 |x::xs,y::ys=>e x y&&jv e xs ys
 |_,_=>false
theorem mf:∀ {xs ys:bg},xs.length=ys.length->jv e xs ys=(List.range xs.length).all fun i=>e (xs.getD i .cI) (ys.getD i .cI)
 |[],[],_=>rfl
 |x::xs,y::ys,h=>by
  have h':xs.length=ys.length:=by simpa using h
  rw[jv,mf h',fj,qt,lV,List.all_map];rfl
 |[],_::_,h=>by simp at h
 |_::_,[],h=>by simp at h
theorem wO:∀ {xs ys:bg},xs.length≠ys.length->jv e xs ys=false
 |[],[],h=>absurd rfl h
 |x::xs,y::ys,h=>by
  have h':xs.length≠ys.length:=fun z=>h (by simp[z]);rw[jv,wO h',Bool.and_false]
 |[],_::_,_=>rfl
 |_::_,[],_=>rfl
section
variable {X:Cx}
def VQ(X:Cx)(H:Hp)(e:V->V->Bool)(x y:V):Prop:=∀ (af:cE) (s:aR) (σ:St) (A:br) (u v:Value),aU X af σ H s->A.units+1<cLine->bW x u->bW y v->SeqAt.EqAt A s u v (e x y)
def aaa(X:Cx)(QG:Bool)(e:V->V->Bool):R2:=fun x y H Q=>∃p q xs ys,x=.ref p/\y=.ref q/\a8 X.K H p xs/\a8 X.K H q ys/\(∀i,i<xs.length->i<ys.length->VQ X H e (xs.getD i .cI) (ys.getD i .cI))/\Q (.bl (if QG then !jv e xs ys else jv e xs ys)) H
theorem JC(I:aU X af σ H s)(hu:A.units+1<cLine)(rx:ba xs us)(ry:ba ys vs)(he:∀i,i<xs.length->i<ys.length->VQ X H e (xs.getD i .cI) (ys.getD i .cI)):∀j (h1:j<us.toArray.size) (h2:j<vs.toArray.size),SeqAt.EqAt A s us.toArray[j] vs.toArray[j] (e (xs.getD j .cI) (ys.getD j .cI)):=by
 intro j h1 h2;have j1:j<xs.length:=by rw[rx.length];simpa using h1
 have j2:j<ys.length:=by rw[ry.length];simpa using h2
 have e1:xs[j]?=some (xs.getD j .cI):=by rw[cw,cz j1];rfl
 have e2:ys[j]?=some (ys.getD j .cI):=by rw[cw,cz j2];rfl
 obtain⟨u,VR,ru⟩:=rx.get e1;obtain⟨v,QZ,rv⟩:=ry.get e2;have eu:us.toArray[j]=u:=by
  have:us[j]?=some us.toArray[j]:=by simp at h1 |-
  rw[VR] at this;exact(cB this).symm
 have ev:vs.toArray[j]=v:=by
  have:vs[j]?=some vs.toArray[j]:=by simp at h2 |-
  rw[QZ] at this;exact(cB this).symm
 rw[eu,ev];exact he j j1 j2 af s σ A u v I hu ru rv
theorem JD(hu:X.A.units+2<cLine):nr X (compareOp .Eq) (aaa X false e):=by
 intro af s σ H x y v u Q I rx ry h;obtain⟨p,q,xs,ys,rfl,rfl,hp,hq,he,k⟩:=h;obtain rfl:v=Value.ref p:=rx;obtain rfl:u=Value.ref q:=ry;obtain⟨us,r1,p1,_⟩:=I.list hp;obtain⟨vs,r2,p2,_⟩:=I.list hq;by_cases hl:xs.length=ys.length
 .refine SeqAt.eq_listAt (e:=fun i=>e (xs.getD i .cI) (ys.getD i .cI)) p1.isList p2.isList (by simp only[ce];rw[<-r1.length,<-r2.length];exact hl) (by lia) (JC I (by show X.A.units+1+1<cLine;lia) r1 r2 he) ⟨.bl _,H,I,rfl,?_⟩;rw[show us.toArray.size=xs.length by rw[ce,r1.length],<-mf hl];exact k
 .refine SeqAt.eq_list_lengthsAt p1.isList p2.isList (by simp only[ce];rw[<-r1.length,<-r2.length];simpa using hl) (by lia) ⟨.bl _,H,I,rfl,?_⟩;have k':=k;rw[wO hl] at k';exact k'
theorem wP(hc:X.calm=true):gf X (.builtin "any") (fun xs H Q=>∃ (p:Addr) (bs:List Bool),xs=[.ref p]/\a8 X.K H p (bs.map V.bl)/\Q (.bl (bs.any id)) H):=by
 intro af s σ H xs us Q I r h;obtain⟨p,bs,rfl,hp,q⟩:=h;obtain⟨u1,rfl,r1⟩:=r.one;obtain rfl:u1=Value.ref p:=r1;obtain⟨its,rv,pl,hz⟩:=I.list hp;have yo:its=bs.map Value.bool:=by
  have go:∀ (bs:List Bool) (its:bw),ba (bs.map V.bl) its->its=bs.map Value.bool:=by
   intro bs;induction bs with
   |nil=>intro its r;cases r;rfl
   |cons b bs ih=>
    intro its r;cases r with
    |cons r rr=>
     obtain rfl:=(show _=Value.bool b from r)
     rw[ih _ rr];rfl
  exact go bs its rv
 subst yo;obtain⟨ob,hob,_⟩:=id pl.isList;have eX:p<s.heap.objs.size:=aS hob;refine call_any_walk (uB pl.isList ⟨s.heap.objs.size,_,_,_,_,_,fun i=>bs.getD i false,rfl,Walks.list (show X.A.in1.handled=none from I.ok.hd hc) _ p (bf eX) _,⟨⟨_,cX _ rfl,rfl,rfl⟩,pl.isList.push _⟩,fun i v s1 Q' E' hv hq=>?_,fun h' tk k=>?_⟩)
 .have Gc:(bs.map Value.bool)[i]?=some v:=by simpa using hv
  rw[cA] at Gc;cases eb:bs[i]? with
  |none=>rw[eb] at Gc;cases Gc
  |some b=>
   rw[eb] at Gc;obtain rfl:Value.bool b=v:=cB Gc;have:bs.getD i false=b:=by rw[cw,eb];rfl
   have Jg:Q' b s1:=by rw[<-this];exact hq
   exact wpAny_pure Jg
 .have keep:∀b o,s.heap.get? b=some o->h'.get? b=some o:=fun b o e=>k b o (by simpa using bf (aS e)) (bP _ e);refine⟨.bl (bs.any id),H,I.kept (t':=tk) keep,?_,q⟩;show Value.bool _=Value.bool _;congr 1;have go:∀ (bs:List Bool),((List.range bs.length).any fun i=>bs.getD i false)=bs.any id:=by
   intro bs;induction bs with
   |nil=>rfl
   |cons b bs ih=>
    rw[fj,qt,lU,List.any_map,lU,<-ih];rfl
  rw[<-go bs];simp
end
def pJ(c:Addr)(qual:Str):HO:=.ext fun h=>h.CodeRec (.ref c) qual
theorem JE(x:h.CodeRec (.ref c) qual):dB Pzz w H h c (pJ c qual):=by
 refine⟨x,?_,?_⟩
 .obtain⟨c',o,vs,t,e,ho,_⟩:=x;cases e;exact⟨o,ho⟩
 .rintro h1 h2 ⟨c',o,vs,t,e,ho,r⟩ k;cases e;exact⟨c,o,vs,t,rfl,k o ho,r⟩
def Pl(f:Addr)(qual:Str)(params:lY)(body:Expr)(scope:Scope)(cells:iP)(c:Addr)(h:Heap):Prop:=
 ∃ (dJ:iP) (pm Am:Value),(∀x a,dJ.lookup x=some a->cells.lookup x=some a)/\(∀x,(x,NameKind.free)∈scope.names->∃a,dJ.lookup x=some a)/\
  h.get? f=some (W.kla_obj "<lambda>" qual params body scope dJ pm c Am)
def v5(f:Addr)(qual:Str)(params:lY)(body:Expr)(scope:Scope)(cells:iP)(c:Addr):HO:=.ext (Pl f qual params body scope cells c)
theorem EO(x:Pl f qual params body scope cells c h):
  dB Pzz w H h f (v5 f qual params body scope cells c):=by
 refine⟨x,?_,?_⟩
 .obtain⟨_,_,_,_,_,e⟩:=x;exact⟨_,e⟩
 .rintro h1 h2 ⟨dJ,pm,Am,a,b,e⟩ k;exact⟨dJ,pm,Am,a,b,k _ e⟩
def dU(lp:Pos)(qual:Str)(P:Addr)(H:Hp):Prop:=H P=some (.jp #[])\/∃c,H P=some (.jp #[rawInt lp.line,rawInt lp.col,.ref c])/\H c=some (pJ c qual)
structure MT(X:Cx)(c P:Addr):Prop where
 code:X.env.code=.ref c
 hd:W.CodeHd X.base c P
 bm:∃bm o,X.mg "__builtins__"=some (.ref bm)/\bm≠builtinsNs/\bm≠mainGlobals/\X.base.get? bm=some o/\o.cls=.type "module"/\o.dict=some builtinsNs/\o.data=.plain
def aab(lp:Pos)(qual:Str)(P:Addr)(params:lY)(body:Expr)(scope:Scope)(cells:iP):TE:=fun _ H Q=>dU lp qual P H/\
 ∀ (f c:Addr) (H2:Hp),dU lp qual P H2->(∀b o,H b=some o->b≠P->H2 b=some o)->H2 c=some (pJ c qual)->H2 f=some (v5 f qual params body scope cells c)->Q (.ref f) H2
theorem An{lp:Pos}{c:Addr}:TriplesOk (#[rawInt lp.line,rawInt lp.col,.ref c]:bD).toList:=trivial
theorem GE:codeAmong lp (#[rawInt lp.line,rawInt lp.col,.ref c]:bD).toList=some (.ref c):=by
 show (if ((lp.line:Int)==(lp.line:Int)&&(lp.col:Int)==(lp.col:Int))=true then some (Value.ref c) else _)=_;simp
section
variable {X:Cx} {c P:Addr} {params:lY} {body:Expr} {scope:Scope} {lp:Pos} {NB:bQ} {src:bA}
theorem MT.at(C:MT X c Pzz)(I:aU X af σ H s)(hP:H Pzz=some (.jp ps)):s.heap.BuiltinsAt X.mg Pzz:=by
 obtain⟨bm,o,b1,b2,b3,b4,b5,b6,b7⟩:=C.bm;refine⟨bm,o,b1,b2,b3,fun z=>?_,I.bk _ _ b4,b5,b6,b7⟩;have:=(I.bs _ _ b4).2;rw[z,hP] at this;cases this
theorem aU.Pm(I:aU X af σ H s):s.heap.Ns mainGlobals X.mg:=I.mod.glob.keeps I.bk
theorem vd(C:MT X c Pzz)(S:ix NB src scope X)(aac:defaultsOf params X.env=([],[]):=by rfl):PE X (.Lambda params body scope lp) (aab lp (X.env.qual++"<lambda>") Pzz params body scope X.env.cells):=by
 intro af s σ H Q I h;obtain⟨tab,h⟩:=h;obtain⟨dJ,ecl,c1,c2⟩:=oy I.ok S;refine W.kla_eval aac ?_;have iD:∀b o,s.heap.get? b=some o->b<s.heap.objs.size:=fun b o e=>aS e;rcases tab with hP|⟨c',hP,zI⟩
 .-- the first time
  have VS:s.heap.get? Pzz=some (W.tabObj #[]):=I.cY Pzz _ hP;have hPL:X.env.locals≠Pzz:=fun z=>by have f:=I.free;rw[z,hP] at f;cases f
  have hPg:mainGlobals≠Pzz:=fun z=>by
   obtain⟨o,es,ep,e,d,_⟩:=I.mod.glob;have:=(I.bs _ _ e).2;rw[z,hP] at this;cases this
  refine W.kla_makeFunction (mg:=X.mg) ecl I.ok.glob I.Pm C.code (C.hd.keeps I.bk) VS (by trivial) rfl hPg (C.at I hP) fun c' Am h' tk hx MU eX aad YG=>?_;have MV:∀b o,b≠Pzz->s.heap.get? b=some o->(h'.push (W.kla_obj "<lambda>" (X.env.qual++"<lambda>") params body scope dJ ((X.mg "__name__").getD .none) c' Am)).get? b=some o:=fun b o hb e=>bP _ (hx b o hb e);have hcP:c'≠Pzz:=gO (bv (iD _ _ VS) MU);have hfP:h'.objs.size≠Pzz:=gO (bv (iD _ _ VS) (aZ MU (kX eX)));have hfc:h'.objs.size≠c':=gO eX;have nf:H h'.objs.size=none:=I.cY.fresh (by lia);have nc:H c'=none:=I.cY.fresh MU
  let H2:Hp:=upd (upd (upd H Pzz (.jp #[rawInt lp.line,rawInt lp.col,.ref c'])) c' (pJ c' (X.env.qual++"<lambda>"))) h'.objs.size (v5 h'.objs.size (X.env.qual++"<lambda>") params body scope X.env.cells c')
  have eP:H2 Pzz=some (.jp #[rawInt lp.line,rawInt lp.col,.ref c']):=by
   show upd _ _ _ _=_;rw[aq hfP.symm,aq hcP.symm,ae]
  have ec:H2 c'=some (pJ c' (X.env.qual++"<lambda>")):=by
   show upd _ _ _ _=_;rw[aq hfc.symm,ae]
  have ef:H2 h'.objs.size=some (v5 h'.objs.size (X.env.qual++"<lambda>") params body scope X.env.cells c'):=ae;have eo:∀b,b≠Pzz->b≠c'->b≠h'.objs.size->H2 b=H b:=fun b h1 h2 h3=>by
   show upd _ _ _ _=_;rw[aq h3,aq h2,aq h1]
  have iA:∀b o,H b=some o->b≠Pzz->H2 b=some o:=fun b o e hb=>by
   rw[eo b hb (am e nc) (am e nf)];exact e
  have I2:aU X af σ H2 { s with heap:=h'.push (W.kla_obj "<lambda>" (X.env.qual++"<lambda>") params body scope dJ ((X.mg "__name__").getD .none) c' Am),toks:=tk }:=by
   refine I.step (g':=s.gens) (d':=s.drawn) (ch:=[]) (fun _ z=>absurd z (by simp)) (fun b o _ _ _ e n=>MV b o (fun z=>by rw[z,hP] at n;cases n) e) (fun b o _ _ _ e n=>⟨o.slots,MV b o (fun z=>by rw[z,hP] at n;cases n) e⟩)
    (fun b o _ e n=>?_) (fun b o _ e=>?_) (fun b xs e=>iA b _ e fun z=>by rw[z,hP] at e;cases e) (fun b o u e=>iA b _ e fun z=>by rw[z,hP] at e;cases e) (fun b ps e=>?_) (fun m hm=>?_) (fun b o e=>?_) I.bare
   .rw[eo b (fun z=>by rw[z,hP] at n;cases n) (bf (bv (iD b o e) MU)) (bf (bv (iD b o e) (aZ MU (kX eX))))];exact n
   .by_cases hb:b=Pzz
    .exact⟨_,by rw[hb];exact bP _ YG⟩
    .exact⟨o,MV b o hb e⟩
   .by_cases hb:b=Pzz
    .rw[hb] at e |-;rw[hP] at e;cases e;exact⟨#[rawInt lp.line,rawInt lp.col,.ref c'],by rw[eP];simp⟩
    .exact⟨#[],by rw[iA b _ e hb];simp⟩
   .exact(hm.extBut hx hPL).push _
   .by_cases hbf:b=h'.objs.size
    .subst hbf;rw[ef] at e;cases e;exact EO ⟨dJ,_,Am,c1,c2,cX _ rfl⟩
    .by_cases ZZ:b=c'
     .subst ZZ;rw[ec] at e;cases e;refine JE ?_;obtain⟨c₂,oc,vs,t,e2,Yv,r⟩:=aad;exact⟨c₂,oc,vs,t,e2,bP _ Yv,r⟩
     .by_cases hbP:b=Pzz
      .subst hbP;rw[eP] at e;cases e;exact bP _ YG
      .rw[eo b hbP ZZ hbf] at e;refine(I.cY b o e).jP (fun d u hd q=>MV d u ?_ q) (fun d q=>iA d _ q fun z=>by rw[z,hP] at q;cases q) fun d xs q=>iA d _ q fun z=>by rw[z,hP] at q;cases q
       rintro rfl;rcases hd with z|z
       .exact hbP z.symm
       .rw[hP] at z;cases z
  exact⟨.ref h'.objs.size,H2,I2,rfl,h _ c' H2 (.inr ⟨c',eP,ec⟩) iA ec ef⟩
 .-- again
  have VS:s.heap.get? Pzz=some (W.tabObj #[rawInt lp.line,rawInt lp.col,.ref c']):=I.cY Pzz _ hP;refine W.kla_makeFunctionHit (mg:=X.mg) ecl I.ok.glob I.Pm C.code (C.hd.keeps I.bk) VS An GE (C.at I hP) fun Am h' tk hk MU=>?_;have nf:H h'.objs.size=none:=I.cY.fresh MU
  let H2:Hp:=upd H h'.objs.size (v5 h'.objs.size (X.env.qual++"<lambda>") params body scope X.env.cells c')
  have ef:H2 h'.objs.size=some (v5 h'.objs.size (X.env.qual++"<lambda>") params body scope X.env.cells c'):=ae;have iA:∀b o,H b=some o->H2 b=some o:=fun b o e=>by
   show upd _ _ _ _=_;rw[aq (am e nf)];exact e
  have MV:∀b o,s.heap.get? b=some o->(h'.push (W.kla_obj "<lambda>" (X.env.qual++"<lambda>") params body scope dJ ((X.mg "__name__").getD .none) c' Am)).get? b=some o:=fun b o e=>bP _ (hk b o e);have I2:aU X af σ H2 { s with heap:=h'.push (W.kla_obj "<lambda>" (X.env.qual++"<lambda>") params body scope dJ ((X.mg "__name__").getD .none) c' Am),toks:=tk }:=by
   refine I.step (g':=s.gens) (d':=s.drawn) (ch:=[]) (fun _ z=>absurd z (by simp)) (fun b o _ _ _ e n=>MV b o e) (fun b o _ _ _ e n=>⟨o.slots,MV b o e⟩)
    (fun b o _ e n=>?_) (fun b o _ e=>⟨o,MV b o e⟩) (fun b xs e=>iA b _ e) (fun b o u e=>iA b _ e) (fun b ps e=>⟨#[],by rw[iA b _ e];simp⟩) (fun m hm=>(hm.keeps hk).push _) (I.cY.laid MV MU (EO ⟨dJ,_,Am,c1,c2,cX _ rfl⟩)) I.bare
   .show upd _ _ _ _=_;rw[aq (bf (bv (iD b o e) MU))];exact n
  exact⟨.ref h'.objs.size,H2,I2,rfl,h _ c' H2 (.inr ⟨c',iA _ _ hP,iA _ _ zI⟩) (fun b o e _=>iA b o e) (iA _ _ zI) ef⟩
end
def C6(X:Cx)(id:String)(ks:bQ)(r:St->List V->List V->Hp->VK->Prop):Prop:=
 ∀ (af:cE) (s:aR) (σ:St) (H:Hp) (vs zs:bg) (us ws:bw) (Q:VK),aU X af σ H s->ba vs us->ba zs ws->r σ vs zs H Q->
  wpAny (model X.prog X.w) X.A (call (.builtin id) us (ks.zip ws)) (EP X af σ Q) X.xe s
def aae(r:St->List V->List V->Hp->VK->Prop)(t tk:TA):TE:=fun σ H Q=>t σ H fun vs H1=>tk σ H1 fun zs H2=>r σ vs zs H2 Q
section
variable {X:Cx} {x:Str} {p pos:Pos} {e:Expr} {es:gZ} {Jh:List Keyword} {t tk:TA} {id:String} {ks:bQ} {r:St->List V->List V->Hp->VK->Prop}
theorem kr(hc:C6 X id ks r)(hg:Gl X x)(hm:X.mg x=none)(hv:bootBuiltins x=some (.builtin id))(ha:PA X (e::es) t)(hkw:PK X Jh tk)(hn:x≠"__name__":=by decide)(Gf:(x==("__debug__":Str))=false:=by decide)(hks:(backToKw pos (keywordEach Jh X.env)).filterMap (·.1)=ks:=by rfl)(he:backTo pos (starEach (e::es) X.env)=(false,eval e X.env)::backTo pos (starEach es X.env):=by rfl)(CP:(backTo pos (starEach (e::es) X.env)).any (·.1)=false:=by rfl)(vX:(backToKw pos (keywordEach Jh X.env)).all (·.1.isSome)=true:=by rfl)(MA:(backToKw pos (keywordEach Jh X.env)).any (·.1.isNone)=false:=by rfl):PE X (.Call (.Name x p) (e::es) Jh pos) (aae r t tk):=by
 intro af s σ H Q I h;refine nX (jQ I hg hm hv ?_ hn Gf);refine PyProof.Rows.callWith_kw (eD (ha pos af s σ H _ I h) fun us s1 ⟨vs,H1,I1,r1,q1⟩=>?_) he CP vX MA;refine eD (hkw pos af s1 σ H1 _ I1 q1) fun ws s2 ⟨zs,H2,I2,rz,q2⟩=>?_;rw[hks];exact hc af s2 σ H2 vs zs us ws Q I2 r1 rz q2
end
def Q3(za zb:Int)(ns out:dG):Prop:=∃ps:List (Int×Int),ps.Perm (ns.map fun z=>((z-za) % zb,z))/\out=ps.map (·.2)/\ps.Pairwise fun p q=>p.1<=q.1
def Q4(X:Cx)(qual:Str)(params:lY)(body:Expr)(scope:Scope)(ia ib:Nat):St->List V->List V->Hp->VK->Prop:=fun σ vs zs H Q=>
 ∃ (l f c:Addr) (ns:dG) (za zb:Int),vs=[.ref l]/\zs=[.ref f]/\a8 X.K H l (ns.map V.int)/\ns.length<64/\H f=some (v5 f qual params body scope X.env.cells c)/\H c=some (pJ c qual)/\
  σ[ia]?=some (some (.int za))/\σ[ib]?=some (some (.int zb))/\0<zb/\∀ (r:Addr) (out:dG),H r=none->Q3 za zb ns out->Q (.ref r) (upd H r (.lst (out.map V.int)))
theorem wQ:∀ {ns:dG} {vs:bw},ba (ns.map V.int) vs->IntsAre vs ns
 |[],_,.nil=>.nil
 |_::_,_,.cons ⟨t,e⟩ r=>by subst e;exact .cons _ t (wQ r)
structure VT(X:Cx)(qual:Str)(params:lY)(body:Expr)(scope:Scope)(y a b:Str)(ia ib:Nat):Prop where
 bd:∃p1 p2 p3 p4 p5,body=.BinOp (.BinOp (.Name y p1) .Sub (.Name a p2) p3) .Mod (.Name b p4) p5
 bind:∀dJ pm c Am v,bindArgs (W.kla_fn "<lambda>" qual params body scope dJ pm (.ref c) Am) ⟨[v],[]⟩=pure [(y,v)]
 na:X.N[ia]?=some a
 nb:X.N[ib]?=some b
 ca:X.env.scope.names.lookup a=some .cell
 cb:X.env.scope.names.lookup b=some .cell
 ly:scope.names.lookup y=some .local
 fa:scope.names.lookup a=some .free
 fb:scope.names.lookup b=some .free
 ma:(a,NameKind.free)∈scope.names
 mb:(b,NameKind.free)∈scope.names
 yp:∀z∈scope.names,z.2≠.cell
 kind:scope.kind=.function
 co:scope.isCoroutine=false
 gen:scope.isGenerator=false
 dy:(y==("__debug__":Str))=false
 da:(a==("__debug__":Str))=false/\(a==("__classdict__":Str))=false
 db:(b==("__debug__":Str))=false/\(b==("__classdict__":Str))=false
theorem C7(S:VT X qual params body scope y a b ia ib)(hr:df k X.A):
  C6 X "sorted" ["key"] (Q4 X qual params body scope ia ib):=by
 intro af s σ H vs zs us ws Q I r rz h;obtain⟨l,f,c,ns,za,zb,rfl,rfl,hl,L8,hf,hc,sa,sb,hb0,q⟩:=h;obtain⟨u1,rfl,r1⟩:=r.one;obtain rfl:u1=Value.ref l:=r1;obtain⟨w1,rfl,rw1⟩:=rz.one;obtain rfl:w1=Value.ref f:=rw1;obtain⟨its,rv,pl,hz⟩:=I.list hl;have hI:=wQ rv;obtain⟨m,F⟩:=I.fr;obtain⟨p1,p2,p3,p4,p5,rfl⟩:=S.bd;obtain⟨dJ,pm,Am,c1,c2,QM⟩:=(I.cY f _ hf).1;have hcr:s.heap.CodeRec (.ref c) qual:=(I.cY c _ hc).1;obtain⟨m',U1,hlk⟩:=I.loc;have VU:∃ca ta,dJ.lookup a=some ca/\s.heap.IsCell ca (some (.int za ta)):=by
  obtain⟨u,⟨ta,rfl⟩,lk⟩:=hlk ia a (.int za) S.na sa (.inr (.inl S.ca));obtain⟨ca,e1⟩:=c2 a S.ma;rcases lk with ⟨z,_⟩|⟨_,ca',e2,e3⟩
  .have z':X.env.scope.names.lookup a=some .local:=z;rw[S.ca] at z';cases z'
  .have e4:=c1 a ca e1;rw[e2] at e4;cases e4;exact⟨ca,ta,e1,e3⟩
 have VV:∃cb tb,dJ.lookup b=some cb/\s.heap.IsCell cb (some (.int zb tb)):=by
  obtain⟨u,⟨tb,rfl⟩,lk⟩:=hlk ib b (.int zb) S.nb sb (.inr (.inl S.cb));obtain⟨cb,e1⟩:=c2 b S.mb;rcases lk with ⟨z,_⟩|⟨_,cb',e2,e3⟩
  .have z':X.env.scope.names.lookup b=some .local:=z;rw[S.cb] at z';cases z'
  .have e4:=c1 b cb e1;rw[e2] at e4;cases e4;exact⟨cb,tb,e1,e3⟩
 obtain⟨ca,ta,ea,ha⟩:=VU;obtain⟨cb,tb,eb,hb⟩:=VV;have YH:∀b' (o:Obj),s.heap.get? b'=some o->(∀es ep,o.data≠.dict es ep)->b'≠X.env.locals:=fun b' o e d z=>by
  obtain⟨o',es,ep,e',d',_⟩:=F.ns;rw[z,e'] at e;cases e;exact d _ _ d'
 have len:(ns.map fun z=>(z-za) % zb).length=its.length:=by rw[aT,hI.length]
 refine ksk_sorted (b:=false) (f:=.ref f) (kz:=ns.map fun z=>(z-za) % zb) F IQ pl.isList len (by rw[hI.length];exact L8) (ksk_s1 _ _) (fun x=>ksk_l1 _ _) (fun x=>ksk_t1 _ _) ?_ ?_
 .-- one key
  intro i v k hv hk h tk own F' N';have at_:∀b' u,b'≠X.env.locals->s.heap.get? b'=some u->h.get? b'=some u:=fun b' u qh e=>by
   cases z:X.base.get? b' with
   |some o=>
    have:=I.bk b' o z;rw[e] at this;cases this;exact F'.keep b' _ z
   |none=>exact(N' (b',u) (gC _ (l3 qh z e))).1
  have aaf:=at_ f _ (YH f _ QM (by intro es ep z;cases z)) QM;have aag:h.CodeRec (.ref c) qual:=by
   obtain⟨c0,o,vs0,t0,e0,ho,hd,hv0⟩:=hcr;refine⟨c0,o,vs0,t0,e0,at_ _ _ (YH _ _ ho (by rw[hd];intro es ep z;cases z)) ho,hd,hv0⟩
  have QL:h.IsCell ca (some (.int za ta)):=by
   obtain⟨o,ho,hd⟩:=ha;exact⟨o,at_ _ _ (YH _ _ ho (by rw[hd];intro es ep z;cases z)) ho,hd⟩
  have v6:h.IsCell cb (some (.int zb tb)):=by
   obtain⟨o,ho,hd⟩:=hb;exact⟨o,at_ _ _ (YH _ _ ho (by rw[hd];intro es ep z;cases z)) ho,hd⟩
  obtain⟨z,tz,rfl,rfl⟩:∃z tz,v=.int z tz/\k=(z-za) % zb:=by
   obtain⟨n,t,e⟩:=hI.all v (dz hv);refine⟨n,t,e,?_⟩;rw[cA] at hk;have hn:=hI.nums;have e1:(its.map numOf)[i]?=some n:=by rw[cA,hv,e];rfl
   rw[hn] at e1;rw[e1] at hk;exact(cB hk).symm
  have JF:X.A.in1.in1.depth<recursionLimit:=by
   have:=hr.dp;show X.A.depth<_;lia
  refine qR (W.kla_callFunE JF aaf rfl S.co S.gen rfl aag ?_);rw[S.bind];refine wpAny_pure (wpAny_newFunctionEnv S.yp (fun x hx=>by rw[dA.mp hx];exact S.ly) (fun h₁ Ao VW=>⟨((I.ok.mod.nolimit).keeps F'.keep).fresh _ VW,?_⟩) S.kind);have Q5:∀b o,h.get? b=some o->h₁.get? b=some o:=fun b o e=>VW.extBut b o (bf (aS e)) (bP _ e);have ha₁:=QL.keeps Q5;have hb₁:=v6.keeps Q5;refine W.kla_codeExpr ?_;refine wpAny_BinOp (wpAny_BinOp ?_);refine qS (B3 S.kind S.ly Ao (v:=.int z tz) (by simp) ?_) S.dy;refine qS (B7 S.kind S.fa ea ha₁ ?_ S.da.2) S.da.1;refine sub_int ?_;refine qS (B7 S.kind S.fb eb hb₁ ?_ S.db.2) S.db.1;refine mod_int' (by lia) ?_;rw[Bx _ (by lia)];refine KskEnd.intro (news':=kZ X.base s.heap X.env.locals++own) ⟨F'.ns.keeps Q5,fun b o e=>Q5 b o (F'.keep b o e),F'.above⟩ (fun p hp=>⟨Q5 _ _ (N' p hp).1,(N' p hp).2⟩) fun p hp=>hp
 .-- the list
  intro D h' tk out cc F' N' eX aah;have hD:=vZ I N' eX;obtain⟨ps,hp,ho,hs⟩:=aah;have CS:∀p∈ps,∃n t,p.2=.int n t:=fun p Up=>by
   have:=hp.mem_iff.mp Up;exact hI.all _ (n_ this).2
  have hz':((ns.map fun z=>(z-za) % zb).zip its).map (fun p=>(p.1,numOf p.2))=ns.map fun z=>((z-za) % zb,z):=by
   have hn:=hI.nums;rw[<-hn];have go:∀ (l:bw),((((l.map numOf).map fun z=>(z-za) % zb).zip l).map fun p=>(p.1,numOf p.2))=(l.map numOf).map fun z=>((z-za) % zb,z):=by
    intro l;induction l with
    |nil=>rfl
    |cons x l ih=>simp only[gJ,List.zip_cons_cons,ih]
   exact go its
  have Jn:ba ((ps.map fun p=>(p.1,numOf p.2)).map (fun p=>V.int p.2)) (ps.map Prod.snd):=by
   have go:∀ (l:List (Int×Value)),(∀p∈l,∃n t,p.2=.int n t)->ba ((l.map fun p=>(p.1,numOf p.2)).map (fun p=>V.int p.2)) (l.map Prod.snd):=by
    intro l;induction l with
    |nil=>intro _;exact .nil
    |cons x l ih=>
     intro hx;refine .cons ?_ (ih fun p hp=>hx p (dq _ hp));obtain⟨n,t,e⟩:=hx x cK;show ∃t,x.2=Value.int (numOf x.2) t;rw[e];exact⟨t,rfl⟩
   exact go ps CS
  have Ap:Q3 za zb ns ((ps.map fun p=>(p.1,numOf p.2)).map (·.2)):=by
   refine⟨ps.map fun p=>(p.1,numOf p.2),?_,rfl,?_⟩
   .rw[<-hz'];exact hp.map _
   .refine gk.mpr (hs.imp fun {p q} z=>?_);simpa using z
  have hDo:h'.get? D=some (seqObj "list" out cc):=(N' _ cK).1;have I2:aU X af σ (upd H D (.lst (((ps.map fun p=>(p.1,numOf p.2)).map (·.2)).map V.int))) { s with heap:=h',toks:=tk }:=by
   refine I.VF F F' (fun p hp=>N' p (dq _ hp)) hD ⟨?_,ps.map Prod.snd,cc,?_,?_⟩
   .have h1:=hp.length_eq;rw[qI,len,uM] at h1;simp only[aT];rw[h1,hI.length];exact aZ (kX L8) (by decide)
   .have ev:=Jn;simp only[dQ] at ev |-;exact ev
   .rw[hDo,<-ho]
  exact⟨.ref D,_,I2,rfl,q D _ (I.cY.u_ hD) Ap⟩
def rf(mg:cr)(base:Heap):Prop:=∃bm o,mg "__builtins__"=some (.ref bm)/\bm≠builtinsNs/\bm≠mainGlobals/\base.get? bm=some o/\o.cls=.type "module"/\o.dict=some builtinsNs/\o.data=.plain
def EQ(ts:bR)(H:Hp):Prop:=(∀P∈ts,H P=some (.jp #[]))/\∀b,H b=none\/(b∈ts/\H b=some (.jp #[]))\/∃o xs,H b=some (.zn o (.lst xs))
theorem GJ{P:bL}{w:World}{K:a_}{mg mb:cr}{CX:Bk}{k:Nat}{fa a:Addr}{fd:eA}{x:Str}{sp:Sp}{s₁:aR}{vs:bw}{ns:dG}{ts:bR}(KX:K.In s₁.heap)(Ao:s₁.heap.Ns mainGlobals mg)(hb:s₁.heap.Ns builtinsNs mb)(hbb:∀x:Str,x≠"__name__"->mb x=bootBuiltins x)(aai:s₁.heap.NoLimit)(hg:s₁.gens=#[])(hbm:rf mg s₁.heap)(VX:∀P∈ts,s₁.heap.get? P=some (W.tabObj #[]))(wz:∀P∈ts,∃c,W.codeHdIn K c P=true)(hkt:∀P∈ts,K.lookup P=none)(ha:s₁.heap.get? a=some { cls:=.type "list",data:=.seq vs.toArray })(hi:IntsAre vs ns)(hl:ns.length<=sizeLine)(hr:df k callerA)(F:∀base:Heap,K.In base->base.Ns mainGlobals mg->rf mg base->bU P w K mg base CX k fa fd [x] sp)(VY:∀ (s:aR) (u:Value),BindsTo s fd ⟨[u],[]⟩ [(x,u)])(LZ:∀H:Hp,EQ ts H->a8 K H a (ns.map V.int)->sp [.ref a] H (fun v _=>v=.bl true) fun _ _ _=>False)(hCX:∀H e s',CX [] H s₁ (fun _ _ _=>False) e s'->False):
  codeAny (model P w) callerA (.call (.ref fa) ⟨[.ref a],[]⟩) (fun r s'=>r=.ok (.ret (.bool true))/\OldK s₁.heap s'.heap/\s'.os=s₁.os/\AllBare s'.gens) s₁:=by
 have rv:=wJ hi;have aaj:=hi.length;have hat:a∉ts:=fun z=>by
  have:=VX a z;rw[ha] at this;cases this
 have VZ:∀H:Hp,EQ ts H->a8 K H a (ns.map V.int)->oo P w H s₁.heap->(∀b,H b≠none->b=a\/b∈ts)->(H a≠none->K.lookup a=none)->
   codeAny (model P w) callerA (.call (.ref fa) ⟨[.ref a],[]⟩) (fun r s'=>r=.ok (.ret (.bool true))/\OldK s₁.heap s'.heap/\s'.os=s₁.os/\AllBare s'.gens) s₁:=by
  intro H hO hS cY hA hK;have yq:∀ {b:Addr} {o:Obj},s₁.heap.get? b=some o->H b=none->(vR s₁.heap H).get? b=some o:=fun e n=>IP e n;have Ul:∀ {b:Addr} {o:Obj},s₁.heap.get? b=some o->(∀v n,o.data≠.seq v n)->(∀v,o.data≠.fields v)->H b=none:=fun {b o} e d1 d2=>by
   cases q:H b with
   |none=>rfl
   |some u=>
    rcases hA b (by rw[q];simp) with e'|e'
    .subst e';rw[ha] at e;cases e;exact absurd rfl (d1 _ _)
    .rw[VX b e'] at e;cases e;exact absurd rfl (d2 _)
  have YI:∀ {b:Addr} {m:cr},s₁.heap.Ns b m->(vR s₁.heap H).Ns b m:=fun {b m} ⟨o,es,ep,e,d,r⟩=>⟨o,es,ep,yq e (Ul e (by rw[d];intro v n z;cases z) (by rw[d];intro v z;cases z)),d,r⟩
  have hKb:K.In (vR s₁.heap H):=fun b o e=>yq (KX b o e) (by
   cases q:H b with
   |none=>rfl
   |some u=>
    rcases hA b (by rw[q];simp) with e'|e'
    .subst e';rw[hK (by rw[q];simp)] at e;cases e
    .rw[hkt b e'] at e;cases e)
  have hB:rf mg (vR s₁.heap H):=by
   obtain⟨bm,o,b1,b2,b3,b4,b5,b6,b7⟩:=hbm;exact⟨bm,o,b1,b2,b3,yq b4 (Ul b4 (by rw[b7];intro v n z;cases z) (by rw[b7];intro v z;cases z)),b5,b6,b7⟩
  have hM:Mod K mg (vR s₁.heap H):=⟨hKb,YI Ao,⟨mb,YI hb,hbb⟩,let ⟨mc,h1,h2⟩:=aai;⟨mc,YI h1,h2⟩⟩
  have e0:CK P w K mg (vR s₁.heap H) callerA [] s₁ H:=⟨rfl,hM,fun b o e=>Mj e,qN (F8 _ _),trivial,fun b hb=>absurd (show b∈([]:bR) from hb) (by simp),cY,.of_eq hg⟩
  refine qQ ((F _ hKb (YI Ao) hB).run callerA [] s₁ H ⟨[.ref a],[]⟩ [.ref a] [.ref a] _ _ hr e0 (VY s₁ (.ref a)) (.cons rfl .nil) (LZ H hO hS)) fun r s' h=>?_;cases r with
  |error e=>exact(hCX H e s' h).elim
  |ok fl=>
   cases fl with
   |next=>exact False.elim h
   |brk=>exact False.elim h
   |cont=>exact False.elim h
   |ret u=>
    obtain⟨v,H',os,bare,un,V0,r',q⟩:=h;have q':v=.bl true:=q;subst q';obtain rfl:u=Value.bool true:=r';refine⟨rfl,⟨fun b o e=>?_,fun b o e=>un.there b o e (by simp)⟩,os,bare⟩;cases q:H b with
    |none=>exact .inl (un.keep b o e q (by intro z;exact absurd (show b∈([]:bR) from z) (by simp)) (by simp))
    |some u=>
     rcases hO.2 b with z|⟨zt,z⟩|⟨ob,xs,z⟩
     .rw[q] at z;cases z
     .obtain⟨more,z2⟩:=un.xR b _ z;have e1:=VX b zt;rw[e] at e1;cases e1;have e2:s'.heap.get? b=some { cls:=.none,data:=.fields (#[]++more) }:=V0 b _ z2;obtain⟨c,hc⟩:=wz b zt;obtain⟨oc,vsc,_,_,_,_,_,_,_,g1,g2,g3,g4,_⟩:=W.codeHd_of_K KX hc;exact .inr (.inl ⟨⟨c,oc,vsc,g1,g2,g3,g4⟩,rfl,#[],more,rfl,e2⟩)
     .have z2:=un.xQ b ob _ z;obtain⟨e1,_⟩:=cY b _ z;obtain⟨e2,_⟩:=V0 b _ z2;rw[e] at e1;cases e1;exact .inl e2
 have ach:∀ (H:Hp),(∀P∈ts,H P=some (.jp #[]))->True:=fun _ _=>trivial
 classical
 cases hk:K.lookup a with
 |some o=>
  have e:=KX a o hk;rw[ha] at e;cases e;refine VZ (fun b=>if b∈ts then some (.jp #[]) else none) ⟨fun P hP=>ap hP,fun b=>?_⟩ (.inr ⟨_,vs.toArray,_,hk,rfl,rfl,rfl,by rw[ce,aaj];exact hl,by simpa using rv⟩) (fun b u z=>?_) (fun b z=>?_) fun z=>absurd (ao hat) z
  .by_cases hb:b∈ts
   .exact .inr (.inl ⟨hb,ap hb⟩)
   .exact .inl (ao hb)
  .by_cases hb:b∈ts
   .have z':=(ap hb).symm.trans z;cases z';exact VX b hb
   .have z':=(ao hb).symm.trans z;cases z'
  .by_cases hb:b∈ts
   .exact .inr hb
   .exact absurd (ao hb) z
 |none=>
  refine VZ (fun b=>if b=a then some (.zn { cls:=.type "list",data:=.seq vs.toArray } (.lst (ns.map V.int))) else if b∈ts then some (.jp #[]) else none) ⟨fun P hP=>?_,fun b=>?_⟩ (.inl (.inr ⟨{ cls:=.type "list",data:=.seq vs.toArray },ap rfl⟩)) (fun b u z=>?_) (fun b z=>?_) fun _=>hk
  .have:P≠a:=fun z=>hat (z ▸ hP);show (if P=a then _ else if P∈ts then _ else _)=_;rw[ao this,ap hP]
  .by_cases hb:b=a
   .exact .inr (.inr ⟨_,_,ap hb⟩)
   .by_cases ht:b∈ts
    .exact .inr (.inl ⟨ht,by show (if b=a then _ else if b∈ts then _ else _)=_;rw[ao hb,ap ht]⟩)
    .exact .inl (by show (if b=a then _ else if b∈ts then _ else _)=_;rw[ao hb,ao ht])
  .by_cases hb:b=a
   .have z':=(ap hb).symm.trans z;cases z';subst hb;exact⟨ha,by rw[aT];exact hl,vs,_,rv,ha⟩
   .have z1:(if b∈ts then some (HO.jp #[]) else none)=some u:=(ao hb).symm.trans z;by_cases ht:b∈ts
    .rw[ap ht] at z1;cases z1;exact VX b ht
    .rw[ao ht] at z1;cases z1
  .by_cases hb:b=a
   .exact .inl hb
   .by_cases ht:b∈ts
    .exact .inr ht
    .exact absurd (by show (if b=a then _ else if b∈ts then _ else _)=_;rw[ao hb,ao ht]) z
theorem JG{l:W.OpenLaw}{n k:Nat}{q:bL}{wI:bQ}{XP:(Str->Option Value)->Heap->Prop}{YP:IJ}{d:DefRec}{K:Params->W.Frag}{CX:World->Bk}{sp:World->Sp}{x:Str}{ts:bR}(hn:l.most=some n)(Uk:n<=sizeLine)(Vv:d.params.defaults=[])(hr:df k callerA)(hY:∀ (w:World) (h:Heap),YP w h->(K w.params).In h)(hT:∀ (w:World) (h:Heap),YP w h->∀Pzz∈ts,h.get? Pzz=some (W.tabObj #[]))(wz:∀ (w:World),∀Pzz∈ts,∃c,W.codeHdIn (K w.params) c Pzz=true)(hkt:∀ (w:World),∀Pzz∈ts,(K w.params).lookup Pzz=none)(F:∀ (w:World) (mg:cr) (fa:Addr) (h:Heap),(K w.params).In h->h.Ns mainGlobals mg->mg d.name=some (.ref fa)->
   ∃fd:FuncData,(∀ (s:aR) (u:Value),BindsTo s fd ⟨[u],[]⟩ [(x,u)])/\
    ∀base:Heap,(K w.params).In base->base.Ns mainGlobals mg->rf mg base->bU l.prog w (K w.params) mg base (CX w) k fa fd [x] (sp w))(LZ:∀ (w:World) (H:Hp) (a:Addr) (ns:dG),ns.length<=n->EQ ts H->a8 (K w.params) H a (ns.map V.int)->sp w [.ref a] H (fun v _=>v=.bl true) fun _ _ _=>False)(hCX:∀ (w:World) (H:Hp) (s:aR) (e:Value) (s':aR),CX w [] H s (fun _ _ _=>False) e s'->False):
  W.WalkO q wI XP YP l.row.toRowW d [] (fun f vs=>PySem.call f vs):=by
 refine Att.z8 hn Vv fun w s₀ s₁ mg mb fa o pm cd pC a vs ns G Y ho hd acm Vw QK Jo e8 hg=>?_;have KX:=hY w _ Y;obtain⟨fd,hb,hF⟩:=F w mg fa _ KX G.T.g Vw;have hB:rf mg s₁.heap:=by
  obtain⟨bm,ob,b1,b2,b3,b4,b5,b6⟩:=G.T.bmain;refine⟨bm,ob,b1,b2,fun z=>?_,b3,b4,b5,b6⟩;obtain⟨o',es,ep,e,Mn,_⟩:=G.T.g;rw[z,e] at b3;cases b3;rw[Mn] at b6;cases b6
 exact GJ KX G.T.g G.T.b G.T.builtins G.T.nolimit hg hB (hT w _ Y) (wz w) (hkt w) QK Jo (aZ e8 Uk) hr hF hb (fun H hO hS=>LZ w H a ns e8 hO hS) fun H e s'=>hCX w H s₁ e s'
structure sU(K:a_)(x qual:Str)(st:Stmt)(f:Addr)(fd:eA)(c:Addr):Prop where
 ex:∃ (oc:Value) (od:jt) (kV pC pm:Value) (an:jt) (ct:Value) (Bm:nh),
  fd=W.fnOf x qual (eE st) (cP st) (aw st) .none kV pC pm an (.ref c) ct/\K.lookup f=some ⟨oc,od,.func fd,Bm⟩/\W.codeIn K (.ref c) qual=true
 kp:W.keepIn K (.ref f)=true
theorem sU.fun{K:a_}{x qual:Str}{st:Stmt}{f:Addr}{fd:eA}{c:Addr}(F:sU K x qual st f fd c):iI K x qual st f fd:=by
 obtain⟨oc,od,kV,pC,pm,an,ct,Bm,e,lk,wz⟩:=F.ex;exact⟨⟨oc,od,kV,pC,pm,an,_,ct,Bm,e,lk,wz⟩,F.kp⟩
theorem sU.ok{x qual:Str}{st:Stmt}{f:Addr}{fd:eA}{c:Addr}{N ps:bQ}{k:Nat}{sp:Sp}(F:sU K x qual st f fd c)(S:aN N ps (aw st))(len:∀vs H Q E,sp vs H Q E->vs.length=ps.length)(zX:∀ (A:br) (outer:j9) (s:aR) (H:Hp) (vs:bg) (Q:VK) (E:XK),df k (A.deeper (envOfC qual (aw st) s.heap.objs.size f (.ref c)))->sp vs H Q E->
   ∃t,Co (l9 bo P w K mg base N qual (aw st) f (.ref c) A outer s H E).Bj (cP st) t/\t { nx:=fun _ H'=>Q .cI H',rt:=Q } (start N vs) H):bU P w K mg base bo (k+1) f fd ps sp:=by
 obtain⟨oc,od,kV,pC,pm,an,ct,Bm,rfl,lk,wz⟩:=F.ex;refine Pc lk wz S len fun A outer s H vs Q E hr LZ=>?_;obtain⟨t,h,q⟩:=zX A outer s H vs Q E hr LZ;exact⟨t,h.Bj,q⟩
theorem ER{x qual:Str}{st:Stmt}{f c:Addr}{oc:Value}{od an:jt}{Bm:nh}{kV pC pm ct:Value}(l:K.lookup f=some ⟨oc,od,.func (W.fnOf x qual (eE st) (cP st) (aw st) .none kV pC pm an (.ref c) ct),Bm⟩)(wz:W.codeIn K (.ref c) qual=true)(kp:W.keepIn K (.ref f)=true):sU K x qual st f (W.fnOf x qual (eE st) (cP st) (aw st) .none kV pC pm an (.ref c) ct) c:=⟨⟨oc,od,kV,pC,pm,an,ct,Bm,rfl,l,wz⟩,kp⟩
theorem pK(kb:K.In base)(hb:rf mg base)(hc:W.codeHdIn K c P'=true):
  MT (l9 CX P w K mg base N qual scope f (.ref c) A outer s H E).Bj c P':=⟨rfl,W.codeHd_of_K kb hc,hb⟩
def tR(sc scX:Scope)(y:Str×NameKind):Bool:=match y.2 with
 |.cell=>(match sc.names.lookup y.1 with|some .cell=>true|_=>false)
 |.local=>(match sc.names.lookup y.1 with|some .local=>true|_=>false)
 |.free=>(match scX.names.lookup y.1 with|some .cell=>true|some .free=>true|_=>false)
 |_=>true
def JI(NB:bQ)(src:bA)(sc:Scope)(N:bQ)(i:Nat):Bool:=match NB[i]?,src[i]? with
 |some x,some (some j)=>(N[j]?==some x)&&(match sc.names.lookup x with|some .free=>true|_=>false)
 |_,_=>true
def ES(sc:Scope):Bool:=match sc.kind with|.function=>true|_=>false
def JJ(NB:bQ)(src:bA)(sc scX:Scope)(N:bQ):Bool:=
 ES sc&&decide NB.Nodup&&(src.length==NB.length)&&(sc.names.all (tR sc scX))&&(List.range NB.length).all (JI NB src sc N)
theorem bz(h:JJ NB src sc X.env.scope X.N=true):ix NB src sc X:=by
 unfold JJ at h;simp only[gm,ur,gg,kO] at h;obtain⟨⟨⟨⟨h1,h2⟩,h3⟩,h4⟩,h5⟩:=h;refine⟨?_,h2,h3,fun y hy z=>?_,fun y hy z=>?_,fun y hy z=>?_,fun i x j e1 e2=>?_⟩
 .unfold ES at h1;split at h1
  .assumption
  .cases h1
 .have:=h4 y hy;obtain⟨n,k⟩:=y;obtain rfl:k=.cell:=z;dsimp only[tR] at this |-;split at this
  .assumption
  .cases this
 .have:=h4 y hy;obtain⟨n,k⟩:=y;obtain rfl:k=.local:=z;dsimp only[tR] at this |-;split at this
  .assumption
  .cases this
 .have:=h4 y hy;obtain⟨n,k⟩:=y;obtain rfl:k=.free:=z;dsimp only[tR] at this |-;split at this
  .exact .inl (by assumption)
  .exact .inr (by assumption)
  .cases this
 .have hi:i<NB.length:=(eR.mp e1).1;have:=h5 i (bY.mpr hi);unfold JI at this;rw[e1,e2] at this;simp only[gm,gg] at this;refine⟨this.1,?_⟩;have t2:=this.2;split at t2
  .assumption
  .cases t2
theorem fZ{K:a_}{a D:Addr}{xs:bg}{g:TG}{tt:TT}{te:TE}{d_:rP}{σB:St}{H0:Hp}(Pv:zJ)(h0:Pv 0 [] σB H0)(hl:∀i ys σ H,i<=xs.length->Pv i ys σ H->a8 K H a xs)(hs:∀i x ys σ H (Kt:j_) (Kf:iu),xs[i]?=some x->Pv i ys σ H->
   (∀v σ2 H4,H4 D=some (.lst ys)->ys.length<sizeLine->Pv (i+1) (ys++[v]) σ2 (upd H4 D (.lst (ys++[v])))->Kt v σ2 H4)->(∀σ2 H3,Pv (i+1) ys σ2 H3->Kf σ2 H3)->
   g x σ H fun σ2 H2=>tt σ2 H2 fun b H3=>if b=true then te σ2 H3 fun v H4=>Kt v σ2 H4 else Kf σ2 H3)(hd:∀ys σ H,Pv xs.length ys σ H->d_ H):iy (I0 K a) g tt te D d_ σB H0:=by
 refine⟨fun i m σ H=>m=xs.length-i/\i<=xs.length/\∃ys,Pv i ys σ H,⟨xs.length,by simp,cp _,[],h0⟩,?_⟩;rintro i m σ H ⟨rfl,hi,ys,p⟩;have q:=hl i ys σ H hi p;by_cases eX:i<xs.length
 .refine .inr ⟨⟨xs,xs[i],q,by simp[eX]⟩,?_⟩;rintro x H' ⟨rfl,y⟩;exact hs i x ys σ _ (fun v σ2 H4=>∃ys,H4 D=some (.lst ys)/\ys.length<sizeLine/\∃m',m'<xs.length-i/\m'=xs.length-(i+1)/\i+1<=xs.length/\∃v7,Pv (i+1) v7 σ2 (upd H4 D (.lst (ys++[v]))))
   (fun σ2 H3=>∃m',m'<xs.length-i/\m'=xs.length-(i+1)/\i+1<=xs.length/\∃v7,Pv (i+1) v7 σ2 H3) (y xs q) p
   (fun v σ2 H4 z1 z2 z3=>⟨ys,z1,z2,_,by lia,rfl,eX,_,z3⟩) (fun σ2 H3 z=>⟨_,by lia,rfl,eX,_,z⟩)
 .have e:i=xs.length:=by lia
  subst e;exact .inl ⟨⟨xs,q,aP _⟩,hd ys σ H p⟩
theorem fJ{lo:Int}{n:Nat}{D:Addr}{g:TG}{tt:TT}{te:TE}{d_:rP}{σB:St}{H0:Hp}(Pv:zJ)(h0:Pv 0 [] σB H0)(hs:∀i ys σ H (Kt:j_) (Kf:iu),i<n->Pv i ys σ H->
   (∀v σ2 H4,H4 D=some (.lst ys)->ys.length<sizeLine->Pv (i+1) (ys++[v]) σ2 (upd H4 D (.lst (ys++[v])))->Kt v σ2 H4)->(∀σ2 H3,Pv (i+1) ys σ2 H3->Kf σ2 H3)->
   g (.int (lo+i)) σ H fun σ2 H2=>tt σ2 H2 fun b H3=>if b=true then te σ2 H3 fun v H4=>Kt v σ2 H4 else Kf σ2 H3)(hd:∀ys σ H,Pv n ys σ H->d_ H):iy (H_ lo n) g tt te D d_ σB H0:=by
 refine⟨fun i m σ H=>m=n-i/\i<=n/\∃ys,Pv i ys σ H,⟨n,by simp,cp _,[],h0⟩,?_⟩;rintro i m σ H ⟨rfl,hi,ys,p⟩;by_cases eX:i<n
 .refine .inr ⟨eX,?_⟩;rintro x H' ⟨rfl,rfl⟩;exact hs i ys σ _ (fun v σ2 H4=>∃ys,H4 D=some (.lst ys)/\ys.length<sizeLine/\∃m',m'<n-i/\m'=n-(i+1)/\i+1<=n/\∃v7,Pv (i+1) v7 σ2 (upd H4 D (.lst (ys++[v]))))
   (fun σ2 H3=>∃m',m'<n-i/\m'=n-(i+1)/\i+1<=n/\∃v7,Pv (i+1) v7 σ2 H3) eX p
   (fun v σ2 H4 z1 z2 z3=>⟨ys,z1,z2,_,by lia,rfl,eX,_,z3⟩) (fun σ2 H3 z=>⟨_,by lia,rfl,eX,_,z⟩)
 .have e:i=n:=by lia
  subst e;exact .inl ⟨aP _,hd ys σ H p⟩
section
variable {κ:Type} [DecidableEq κ]
def iX(dR:List (κ×V))(k:κ):Option V:=(dR.find? fun kv=>decide (kv.1=k)).map (·.2)
def ve(dR:List (κ×V))(k:κ)(v:V):List (κ×V):=
 if (dR.any fun kv=>decide (kv.1=k))=true then dR.map (fun kv=>if kv.1=k then (kv.1,v) else kv) else dR++[(k,v)]
theorem fK{p:κ×V}{r:List (κ×V)}{k:κ}(e:p.1=k):iX (p::r) k=some p.2:=by simp[iX,lR,e]
theorem fN{p:κ×V}{r:List (κ×V)}{k:κ}(e:¬ p.1=k):iX (p::r) k=iX r k:=by simp[iX,lR,e]
theorem pL(k:κ):∀dR:List (κ×V),(dR.any fun kv=>decide (kv.1=k))=(iX dR k).isSome
 |[]=>rfl
 |p::r=>by
  rw[lU];by_cases e:p.1=k
  .simp only[fK e,iO e,Bool.true_or,Option.isSome_some]
  .rw[fN e,gY e,Bool.false_or];exact pL k r
theorem Aq(k j:κ)(y:V):∀dR:List (κ×V),iX (dR.map fun kv=>if kv.1=k then (kv.1,y) else kv) j=(iX dR j).map fun x=>if j=k then y else x
 |[]=>rfl
 |p::r=>by
  have ih:=Aq k j y r;rw[gJ];by_cases h:p.1=k
  .rw[ap h];by_cases e:p.1=j
   .rw[fK (p:=(p.1,y)) e,fK e,n0,ap (e.symm.trans h)]
   .rw[fN (p:=(p.1,y)) e,fN e,ih]
  .rw[ao h];by_cases e:p.1=j
   .rw[fK (p:=p) e,fK e,n0,ao (fun z=>h (e.trans z))]
   .rw[fN (p:=p) e,fN e,ih]
theorem wR(k j:κ)(y:V):∀dR:List (κ×V),iX dR k=none->iX (dR++[(k,y)]) j=if j=k then some y else iX dR j
 |[],_=>by
  by_cases e:k=j
  .rw[ap e.symm];exact fK (p:=(k,y)) e
  .rw[ao (fun z=>e z.symm)];exact fN (p:=(k,y)) e
 |p::r,hn=>by
  rw[List.cons_append];have hk:¬ p.1=k:=fun z=>by rw[fK z] at hn;cases hn
  rw[fN hk] at hn;have ih:=wR k j y r hn;by_cases e:p.1=j
  .rw[fK e,fK e,ao (fun z=>hk (e.trans z))]
  .rw[fN e,fN e,ih]
theorem JK(dR:List (κ×V))(k j:κ)(y:V):iX (ve dR k y) j=if j=k then some y else iX dR j:=by
 unfold ve;by_cases a:(dR.any fun kv=>decide (kv.1=k))=true
 .rw[ap a,Aq];rw[pL] at a;by_cases e:j=k
  .obtain⟨x,hx⟩:=xr.mp a;rw[ap e,e,hx,n0,ap rfl]
  .rw[ao e];cases iX dR j with
   |none=>rfl
   |some x=>rw[n0,ao e]
 .rw[ao a];refine wR k j y dR ?_;rw[pL] at a;cases q:iX dR k with
  |none=>rfl
  |some x=>rw[q] at a;exact(a rfl).elim
theorem Ar(dR:List (κ×V))(k:κ)(v:V):(ve dR k v).length<=dR.length+1:=by
 unfold ve;split
 .rw[aT];lia
 .rw[dh,fj,List.length_nil];lia
theorem pc.rh(r:pc o u):o.isSome=u.isSome:=by
 cases o with
 |none=>cases u with
  |none=>rfl
  |some _=>exact(show False from r).elim
 |some _=>cases u with
  |none=>exact(show False from r).elim
  |some _=>rfl
theorem KV.val{dR:List (κ×V)}{vs:List (κ×Value)}(r:KV dR vs)(k:κ):pc (iX dR k) (valueAt vs k):=by
 unfold KV at r;induction r with
 |nil=>exact True.intro
 |@cons p q ps qs h t ih=>
  obtain⟨h1,h2⟩:=h;by_cases e:p.1=k
  .have e':q.1=k:=h1.symm.trans e;have b:valueAt (q::qs) k=some q.2:=by simp[valueAt,lR,e']
   rw[fK e,b];exact h2
  .have e':¬ q.1=k:=fun z=>e (h1.trans z);have b:valueAt (q::qs) k=valueAt qs k:=by simp[valueAt,lR,e']
   rw[fN e,b];exact ih
end
theorem Pn(r:bW (kV k) u):(cZ Pzz w).is k u=true:=by
 cases k with
 |inl i=>obtain⟨t,e⟩:=(show ∃t,u=Value.int i t from r);subst e;exact zE Pzz w i t
 |inr x=>obtain⟨t,e⟩:=(show ∃t,u=Value.str x t from r);subst e;exact zF Pzz w x t
theorem wS:∀ {ks:List iW} {us:bw},ba (ks.map kV) us->ItemsAre (cZ Pzz w) ks us
 |[],_,r=>by rw[List.map_nil] at r;cases r;exact .nil
 |k::ks,_,r=>by
  rw[gJ] at r;cases r with
  |cons h t=>exact .cons (Pn h) (wS t)
abbrev KT(H:Hp):List (List iW×V)->List (List iW×Addr×Value)->Prop:=Paired fun p q=>p.1=q.1/\H q.2.1=some (.tup (p.1.map kV))/\bW p.2 q.2.2
theorem KT.val{H:Hp}{dR:List (List iW×V)}{xs:List (List iW×Addr×Value)}(r:KT H dR xs)(k:List iW):pc (iX dR k) ((atKey xs k).map (·.2)):=by
 induction r with
 |nil=>exact True.intro
 |@cons p q ps qs h t ih=>
  obtain⟨h1,_,h2⟩:=h;by_cases e:p.1=k
  .have e':q.1=k:=h1.symm.trans e;have b:atKey (q::qs) k=some q.2:=by simp[atKey,lR,e']
   rw[fK e,b];exact h2
  .have e':¬ q.1=k:=fun z=>e (h1.trans z);have b:atKey (q::qs) k=atKey qs k:=by simp[atKey,lR,e']
   rw[fN e,b];exact ih
theorem KT.aak(r:KT H dR xs)(k:List iW)(ry:bW y u):
  KT H (dR.map fun kv=>if kv.1=k then (kv.1,y) else kv) (xs.map (putAt k u)):=by
 induction r with
 |nil=>exact .nil
 |@cons p q ps qs h t ih=>
  rw[gJ,gJ];refine .cons ?_ ih;obtain⟨h1,h2,h3⟩:=h;unfold putAt;by_cases e:p.1=k
  .rw[ap e,ap (h1.symm.trans e)];exact⟨h1,h2,ry⟩
  .rw[ao e,ao (fun z=>e (h1.trans z))];exact⟨h1,h2,h3⟩
theorem KT.put(r:KT H dR xs)(k:List iW)(hb:H b=some (.tup (k.map kV)))(ry:bW y u):
  KT H (ve dR k y) (storedH xs k b u):=by
 have e:(dR.any fun kv=>decide (kv.1=k))=(atKey xs k).isSome:=by
  rw[pL,(r.val k).rh,Option.isSome_map]
 unfold ve storedH;rw[e];by_cases q:(atKey xs k).isSome=true
 .rw[ap q,ap q];exact r.aak k ry
 .rw[ao q,ao q];exact Paired.snoc r ⟨rfl,hb,ry⟩
theorem KT.keeps(r:KT H dR xs)(ht:∀b ys,H b=some (.tup ys)->H' b=some (.tup ys)):KT H' dR xs:=
 Paired.Qo r fun _ _ z=>⟨z.1,ht _ _ z.2.1,z.2.2⟩
section
variable {P:bL} {w:World} {H:Hp} {h:Heap} {a:Addr}
theorem Po(ok:oo Pzz w H h)(e:Rd H a u):dB Pzz w H h a u:=e.ok ok
theorem V1(ok:oo Pzz w H h)(e:Rd H a (.dK dR)):dR.length<=sizeLine/\(a==sysModules)=false/\∃vs,KV dR vs/\h.DictOf (cZ Pzz w) a vs:=
 show dB Pzz w H h a (.dK dR) from Po ok e
theorem rj(ok:oo Pzz w H h)(e:H a=some (.tup (ks.map kV))):(tupleKind (cZ Pzz w)).is h ks a:=by
 obtain⟨_,its,r,o,h1,h2,n,h3,_⟩:=(show dB Pzz w H h a (.tup (ks.map kV)) from ok a _ e)
 exact⟨o,its.toArray,n,h1,h2,h3,by simpa using wS r⟩
theorem V2(ok:oo Pzz w H h)(e:Rd H a (.dT dR)):dR.length<=sizeLine/\(a==sysModules)=false/\
  ∃xs,KT H dR xs/\h.DictOfH (tupleKind (cZ Pzz w)) a xs:=by
 obtain⟨z,y,xs,r,o,es,ep,h1,h2,h3,h4,h5⟩:=(show dB Pzz w H h a (.dT dR) from Po ok e)
 refine⟨z,y,xs,r,o,es,ep,h1,h2,h3,h4,fun x hx=>?_,h5⟩;have all:∀ {l:List (List iW×V)} {m:List (List iW×Addr×Value)},KT H l m->∀x∈m,(tupleKind (cZ Pzz w)).is h x.1 x.2.1:=by
  intro l m q;induction q with
  |nil=>intro x hx;exact nomatch hx
  |@cons p q ps qs hq t ih=>
   intro x hx;rcases bq.mp hx with e|hx
   .subst e;exact rj ok (by rw[<-hq.1];exact hq.2.1)
   .exact ih x hx
 exact all r x hx
end
def JM(H:Hp)(a:Addr)(y:V)(r:Option V):Prop:=
 (∃dR k,Rd H a (.dK dR)/\y=kV k/\r=iX dR k)\/∃dR k b,Rd H a (.dT dR)/\y=.ref b/\H b=some (.tup (k.map kV))/\r=iX dR k
theorem JM.t(e:H a=some (.dT dR))(eb:H b=some (.tup (k.map kV))):JM H a (.ref b) (iX dR k):=.inr ⟨dR,k,b,.inl e,rfl,eb,rfl⟩
section
variable {X:Cx} {af:cE} {σ:St} {H:Hp} {s:aR} {a:Addr} {y v:V} {u r:Value} {o:Option V} {A:br} {E:bV}
theorem aal(hu:A.units+1<cLine)(I:aU X af σ H s)(g:JM H a y o)(ry:bW y u)(h:∀s',aU X af σ H s'->Q (.bool o.isSome) s'):
  wpAny (model X.prog X.w) A (compareOp .In u (.ref a)) Q E s:=by
 rcases g with ⟨dR,k,e,ey,l⟩|⟨dR,k,b,e,ey,eb,l⟩
 .subst ey;obtain⟨z,hd,vs,V3,dd⟩:=V1 I.cY e;refine wpAny_in_of (Pn ry) hd dd.mapOf ?_;rw[<-(V3.val k).rh,<-l];exact h _ (I.tok _)
 .subst ey;cases (show u=Value.ref b from ry);obtain⟨z,hd,xs,V3,dd⟩:=V2 I.cY e;refine wpAny_in_heap (tupleKind_room_in1 hu) (rj I.cY eb) hd dd ?_;have q:=(V3.val k).rh;rw[Option.isSome_map] at q;rw[<-q,<-l];exact h _ (I.tok _)
end
section
variable {X:Cx} {af:cE} {σ:St} {H:Hp} {s:aR} {a:Addr} {dR:List (iW×V)} {k:iW} {u:Value} {A:br} {E:bV}
end
def V4(ty td:TE):TE:=fun σ H Q=>ty σ H fun y H1=>td σ H1 fun x H2=>∃a o,x=.ref a/\JM H2 a y o/\Q (.bl o.isSome) H2
section
variable {X:Cx} {o i e value:Expr} {pos F9 My:Pos} {td ty tv:TE}
theorem Q6(hu:X.A.units+1<cLine)(hi:PE X i ty)(ho:PE X o td):PC X .In i o (V4 ty td):=by
 intro af s σ H Q I h;refine eD (hi af s σ H _ I h) fun iv s1 ⟨y,H1,I1,ry,q1⟩=>eD (ho af s1 σ H1 _ I1 q1) fun u s2 ⟨x,H2,I2,rx,a,ov,ex,g,q2⟩=>?_;subst ex;obtain rfl:u=Value.ref a:=rx;exact aal hu I2 g ry fun s3 I3=>⟨.bl ov.isSome,H2,I3,rfl,q2⟩
end
section
variable {X:Cx} {pos:Pos}
end
section
variable {X:Cx} {af:cE} {σ:St} {H:Hp} {s:aR} {a:Addr} {y d:V} {u r:Value} {o:Option V} {A:br} {E:bV}
end
section
variable {X:Cx} {o e f:Expr} {xW yd:Pos} {td ty tx:TE}
end
section
variable {X:Cx} {af:cE} {σ:St} {H:Hp} {s:aR} {a:Addr} {dR:List (iW×V)} {A:br} {E:bV}
end
section
variable {X:Cx} {af:cE} {σ:St} {H:Hp} {s:aR} {a:Addr} {y:V} {u:Value} {A:br} {E:bV}
end
section
variable {X:Cx}
end
section
variable {κ:Type} [DecidableEq κ]
end
section
variable {X:Cx}
theorem vf:∀ {xs:bg} {its:bw},ba xs its->xs.all g7=true->its.countP (ya x)=xs.countP (fun z=>uY z x)
 |[],_,.nil,_=>rfl
 |y::xs,_,.cons (b:=u) r rr,f=>by
  have fy:g7 y=true:=by rw[lV,gm] at f;exact f.1
  have fx:xs.all g7=true:=by rw[lV,gm] at f;exact f.2
  have h1:[u].any (ya x)=[y].any (fun z=>uY z x):=mP (.cons r .nil) (by simp[fy]);have h2:ya x u=uY y x:=by simpa using h1
  rw[qD,qD,vf rr fx,h2]
def Q7:V->List V->Hp->VK->Prop:=fun x vs H Q=>∃ (l:Addr) (xs:bg) (y:V),x=.ref l/\vs=[y]/\H l=some (.lst xs)/\g7 y=true/\xs.all g7=true/\Q (.int (xs.countP fun z=>uY z y)) H
theorem As:YB X "list.count" Q7:=by
 intro af s σ H x vs v us Q I rx rv h;obtain⟨l,xs,y,rfl,rfl,hH,fy,fs,q⟩:=h;cases rx;obtain⟨u,rfl,ru⟩:=rv.one;obtain⟨z,its,n,r,hl,e⟩:=I.ye hH;refine on F.slot_list_count ⟨_,e,rfl⟩ F.entry_list_count (F.args_list_count_2 _ _) (SeqAt.list_countAt l its.toArray n none #[] u (ya y)) ⟨e,fun w hw=>km ru fy r fs w (by simpa using hw),?_⟩;refine⟨.int _,H,I.tok _,⟨s.toks,?_⟩,q⟩;rw[show its.toArray.toList=its by simp,vf r fs]
end
theorem aU.MW(I:aU X af σ H s)(fe:hZ X af H e)(fi:hZ X af H it)(k:∀b o,b≠e->b≠it->s.heap.get? b=some o->h'.get? b=some o)(ke:∃o,h'.get? e=some o)(ki:∃o,h'.get? it=some o)(hp:s.heap.objs.size<=p)(hl:xs.length<=sizeLine)(r:ba xs its)(ht:h'.get? p=some { cls:=.type "tuple",data:=.seq its.toArray }):aU X af σ (upd H p (.tup xs)) { s with heap:=h',toks:=t' }:=by
 have hn:=I.cY.fresh hp;obtain⟨e0,e1,e2,e3,e4,e5⟩:=fe;obtain⟨i0,i1,i2,i3,i4,i5⟩:=fi;have ne:∀b o,s.heap.get? b=some o->b≠p:=fun b o q=>bf (bv (aS q) hp);have ET:∀b o,H b=some o->b≠e/\b≠it:=fun b o q=>⟨(fun z=>by rw[z,e0] at q;cases q),(fun z=>by rw[z,i0] at q;cases q)⟩
 refine I.step (g':=s.gens) (d':=s.drawn) (ch:=[e,it]) (fun b hb=>?_) (fun b o _ _ hb q _=>?_) (fun b o _ _ hb q _=>⟨o.slots,?_⟩) (fun b o hb q n=>by rw[aq (ne b o q)];exact n) (fun b o hb q=>⟨o,?_⟩)
  (fun b ys q=>by rw[aq (am q hn)];exact q) (fun b o u q=>by rw[aq (am q hn)];exact q) (fun b ps q=>⟨#[],by rw[aq (am q hn),q];simp⟩) (fun m hm=>?_) (fun b o q=>?_) I.bare
 .rcases bq.mp hb with rfl|hb
  .exact⟨e3,e1,e4,e5⟩
  .rw[dA.mp hb];exact⟨i3,i1,i4,i5⟩
 .exact k b o (fun z=>hb (z ▸ cK)) (fun z=>hb (z ▸ dq _ cK)) q
 .exact k b o (fun z=>hb (z ▸ cK)) (fun z=>hb (z ▸ dq _ cK)) q
 .exact k b o (fun z=>hb (z ▸ cK)) (fun z=>hb (z ▸ dq _ cK)) q
 .obtain⟨o,es,ep,q,d,r'⟩:=hm;exact⟨o,es,ep,k _ _ e1.symm i1.symm q,d,r'⟩
 .by_cases hb:b=p
  .subst hb;rw[ae] at q;cases q;exact⟨hl,its,r,_,ht,rfl,_,rfl,rfl⟩
  .rw[aq hb] at q;refine(I.cY b o q).jP (fun c u hc z=>k c u ?_ ?_ z) (fun c z=>by rw[aq (am z hn)];exact z) fun c ys z=>by rw[aq (am z hn)];exact z
   .rcases hc with rfl|hc
    .exact(ET _ _ q).1
    .exact(ET _ _ hc).1
   .rcases hc with rfl|hc
    .exact(ET _ _ q).2
    .exact(ET _ _ hc).2
section
variable {X:Cx}
end
section
variable {prog:bL} {w:World} {A:br} {E:bV} {s:aR}
theorem oA(zq:s.heap.IsTupleIter it t i)(ht:s.heap.IsTuple t xs)(hx:xs[i]?=some x)(q:∀h',h'.IsTupleIter it t (i+1)->Heap.SameBut it s.heap h'->Q x { s with heap:=h' }):wpAny (model prog w) A (Builtin.SmallTypes.nextOf (.ref it)) Q E s:=by
 obtain⟨o,h1,h2,h3⟩:=id zq;obtain⟨p,k1,_,n,k3⟩:=ht;unfold Builtin.SmallTypes.nextOf;refine au (o5 (name:=Str.ofString "__next__") zq.typeIs F.slot_tuple_iterator_next (lN F.slot_tuple_iterator_next zq.typeIs F.entry_tuple_iterator_next ?_ (F.args_tuple_iterator_next_1 _)));change wpAny _ _ (field (.ref it) 0 >>= _) _ _ s;refine au (gc h1 h3 (x:=.ref t) rfl ?_);change wpAny _ _ (if (Value.ref t==Value.none)=true then _ else _) _ _ s;rw[ao (by exact di)];change wpAny _ _ (field (.ref it) 1 >>= _) _ _ s;refine au (gc h1 h3 (x:=.int i 0) rfl ?_);change wpAny _ _ (seqItems? (.ref t) >>= _) _ _ s;refine au (iF k1 k3 ?_);simp only[gE,hx];refine au (wpAny_setField h1 h3 (by simp) (wpAny_pure ⟨x,rfl,wpAny_pure (q _ ?_ (qA ..))⟩));refine⟨_,nU _ h1 (Obj.isFreed_of_fields (Obj.data_mapFields h3 _)),(Obj.cls_mapFields ..).trans h2,?_⟩;rw[Obj.data_mapFields h3];simp[rawInt]
theorem rm(hh:A.handled=none)(zq:s.heap.IsTupleIter it t i)(ht:s.heap.IsTuple t xs)(hx:xs[i]?=none)(q:∀h' e,Heap.ExtBut it s.heap h'->(∃o,h'.get? e=some o/\o.cls=.type "StopIteration")->E (.ref e) { s with heap:=h' }):wpAny (model prog w) A (Builtin.SmallTypes.nextOf (.ref it)) Q E s:=by
 obtain⟨o,h1,h2,h3⟩:=id zq;obtain⟨p,k1,_,n,k3⟩:=ht;unfold Builtin.SmallTypes.nextOf;refine au (o5 (name:=Str.ofString "__next__") zq.typeIs F.slot_tuple_iterator_next (lN F.slot_tuple_iterator_next zq.typeIs F.entry_tuple_iterator_next ?_ (F.args_tuple_iterator_next_1 _)));change wpAny _ _ (field (.ref it) 0 >>= _) _ _ s;refine au (gc h1 h3 (x:=.ref t) rfl ?_);change wpAny _ _ (if (Value.ref t==Value.none)=true then _ else _) _ _ s;rw[ao (by exact di)];change wpAny _ _ (field (.ref it) 1 >>= _) _ _ s;refine au (gc h1 h3 (x:=.int i 0) rfl ?_);change wpAny _ _ (seqItems? (.ref t) >>= _) _ _ s;refine au (iF k1 k3 ?_);simp only[gE,hx];refine au (fv (au (wpAny_setField h1 h3 (by simp) ?stop)));case stop=>
  change wpAny _ _ (newExc (.type "StopIteration") [] >>= _) _ _ _;refine au ?_;simp only[newExc,newTuple];refine au (kK (au (m:=firstArgMember _ _) (wpAny_of_eq (a:=Value.none) (by simp only[firstArgMember];rfl) (kK ?_ (by size_fits)))) (by size_fits));simp only[raiseNew];refine au (wpAny_handled ?_);rw[show A.in1.handled=none from hh];exact au (wpAny_pure (wpAny_throw (q _ _ (fun b u hb z=>bP _ (bP _ ((nM _ _ (dI hb)).trans z))) ⟨_,cX _ rfl,rfl⟩)))
theorem At(hh:A.handled=none)(it t:Addr)(qh:t≠it)(xs:bD):Draws prog w A it [it,t] xs.size (fun i v=>xs[i]?=some v) (fun i h=>h.IsTupleIter it t i/\h.IsTuple t xs) where
 live:=fun _ _ st=>let ⟨o,ho,_⟩:=st.1;⟨o,ho⟩
 frame:=fun _ _ _ st hk=>⟨st.1.at fun o e=>hk it (by simp) o e,let ⟨o,e,r⟩:=st.2;⟨o,hk t (by simp) o e,r⟩⟩
 item:=fun i s Q E hi st q=>by
  refine oA st.1 st.2 (x:=xs[i]) (by simp[hi]) fun h' a b=>?_;obtain⟨o,e,r⟩:=st.2;exact q _ h' s.toks (by simp[hi]) ⟨a,o,(b.2 t qh).trans e,r⟩ b
 done:=fun s Q E st q=>rm hh st.1 st.2 (by simp) q
end
theorem GK(t:Addr)(xs:bD):
  Meets (Builtin.«enumerate.__new__» ⟨[.type "enumerate",.ref t],[]⟩) (fun _ R s=>s.heap.IsTuple t xs/\
   R (.ok (.ret (.ref (s.heap.push { cls:=.type "tuple_iterator",data:=.fields #[.ref t,.int 0 0] }).objs.size)))
    { s with heap:=(s.heap.push { cls:=.type "tuple_iterator",data:=.fields #[.ref t,.int 0 0] }).push { cls:=.type "enumerate",data:=.fields #[.none,.bool false,.ref s.heap.objs.size,rawInt 0,.none,.none] } }):=
 .of_wp fun prog w A R s h=>by
  obtain⟨hp,g,d,tk,os⟩:=s;obtain⟨hT,h⟩:=h;have hs:=sub_enumerate
  wp_walk
  refine wpAny_stack_any fun st=>wpAny_pure ?_;split
  .rename_i c _ _ _ _ _;cases (c==Value.type "enumerate") <;> (wp_walk using uy hT;exact⟨_,rfl,h⟩)
  .wp_walk using uy hT
   exact⟨_,rfl,h⟩
theorem C8(ht:s.heap.IsTuple t xs)(h:∀h',IsEnum h' (s.heap.objs.size+1) s.heap.objs.size 0 .none->h'.IsTupleIter s.heap.objs.size t 0->(∀b o,s.heap.get? b=some o->h'.get? b=some o)->Q (.ref (s.heap.objs.size+1)) { s with heap:=h' }):
  wpAny (model prog w) A (call (.type "enumerate") [.ref t]) Q E s:=by
 refine callType_new F.called_enumerate (by decide) (F.typeCall_enumerate_1 _) (F.newCall_enumerate_1 _) (fun obj=>F.args_object_init_2 obj _) F.entry_enumerate_new (GK t xs) ⟨ht,?_⟩;have hz:(s.heap.push { cls:=.type "tuple_iterator",data:=.fields #[.ref t,.int 0 0] }).objs.size=s.heap.objs.size+1:=jc ..;have he:IsEnum ((s.heap.push { cls:=.type "tuple_iterator",data:=.fields #[.ref t,.int 0 0] }).push
   { cls:=.type "enumerate",data:=.fields #[.none,.bool false,.ref s.heap.objs.size,rawInt 0,.none,.none] }) (s.heap.objs.size+1) s.heap.objs.size 0 .none:=by
  have q:=cX (s.heap.push { cls:=.type "tuple_iterator",data:=.fields #[.ref t,.int 0 0] }) (o:={ cls:=.type "enumerate",data:=.fields #[.none,.bool false,.ref s.heap.objs.size,rawInt 0,.none,.none] }) rfl;rw[hz] at q;exact q
 show _/\_;rw[hz];exact⟨⟨_,he,rfl⟩,h _ he ⟨_,bP _ (cX _ rfl),rfl,rfl⟩ fun b o x=>bP _ (bP _ x)⟩
def GN(K:a_)(a:Addr):It:=
 ⟨fun i H=>∃xs x,cu K H a xs/\xs[i]?=some x,fun i H x H'=>∃p v,x=.ref p/\H p=none/\H'=upd H p (.tup [.int i,v])/\∀xs,cu K H a xs->xs[i]?=some v,fun i H=>∃xs,cu K H a xs/\xs.length<=i⟩
theorem C9{P:bL}{w:World}{K:a_}{es:gZ}{x1:Nat}{pos:Pos}(a e it:Addr)(qh:e≠it)(hae:a≠e)(hai:a≠it):
  zO P w K (.Tuple es x1 pos) (GN K a) [e,it] e (fun i h=>(∃iA,IsEnum h e it (i:Int) iA)/\h.IsTupleIter it a i) where
 mem:=by simp
 obj:=fun i h st b hb=>by
  obtain⟨⟨iA,he⟩,⟨o,q,c,d⟩⟩:=st;rcases bq.mp hb with rfl|hb
  .exact⟨_,he,fun v z=>by
    have z':Data.fields _=Data.cell v:=z;cases z'⟩
  .rw[dA.mp hb];exact⟨o,q,fun v z=>by rw[d] at z;cases z⟩
 keep:=fun i h h' st k=>by
  obtain⟨⟨iA,he⟩,hi⟩:=st;exact⟨⟨iA,k e (by simp) _ he⟩,hi.at fun o q=>k it (by simp) o q⟩
 item:=by
  intro X hP hw hK hc i af s σ H E I hf st hg;subst hP hw hK;obtain⟨xs,x,hq,hx⟩:=hg;obtain⟨its,rv,p,hz⟩:=I.tuple hq;obtain⟨u,hu,ru⟩:=rv.get hx;obtain⟨⟨iA,he⟩,hi⟩:=st;have eX:i<its.toArray.size:=by
   have:=(eR.mp hu).1;simpa using this
  have D:=At (prog:=X.prog) (w:=X.w) (A:=X.A.in1) (I.ok.hd hc) it a hai its.toArray;refine wpAny_pyNext_enum_itemD D he ⟨hi,p⟩ eX qh (by simp[qh,hae.symm]) fun u' h' tk sM ho qg ht iD k=>?_;have eu:u'=u:=by
   have h1:its.toArray[i]?=some u:=by simpa using hu
   rw[h1] at sM;exact(cB sM).symm
  subst eu;refine⟨_,rfl,wpAny_letOwnedTupleGo_enum ho fun h2 V5 oX=>?_⟩;have hpe:s.heap.objs.size≠e:=gO (aS he);have Ab:h2.IsTupleIter it a (i+1):=qg.1.at fun o q=>(oX.2 it qh.symm).trans q;have fe:=hf e (by simp);have fi:=hf it (by simp);have I2:aU X af σ (upd H s.heap.objs.size (.tup [.int i,x])) { s with heap:=h2,toks:=tk+1 }:=by
   refine I.MW (its:=[.int i tk,u']) fe fi (fun b o h1 h3 q=>(oX.2 b h1).trans (k b o h1 h3 q)) ⟨_,V5⟩ ?_ (aP _) (by show 2<=sizeLine;decide) (.cons ⟨_,rfl⟩ (.cons ru .nil)) ((oX.2 _ hpe).trans ht);obtain⟨o,q,_⟩:=Ab;exact⟨o,q⟩
  refine⟨.ref s.heap.objs.size,_,I2,rfl,⟨_,x,rfl,I.cY.fresh (aP _),rfl,fun ys hy=>by rw[I.ik hy hq];exact hx⟩,⟨⟨u',V5⟩,Ab⟩,fun b hb=>?_⟩;have f0:=(hf b hb).1;rw[aq]
  .exact f0
  .rcases bq.mp hb with rfl|hb
   .exact hpe.symm
   .rw[dA.mp hb];obtain⟨o,q,_⟩:=hi;exact bf (aS q)
 done:=by
  intro X hP hw hK hc i af s σ H E I hf st hg;subst hP hw hK;obtain⟨xs,hq,hx⟩:=hg;obtain⟨its,rv,p,hz⟩:=I.tuple hq;obtain⟨f0,f1,f2,f3,f4,f5⟩:=hf it (by simp);obtain⟨⟨iA,he⟩,hi⟩:=st;have hl:=rv.length;unfold pyNext;have hT:s.TypeIs (.ref e) "enumerate":=⟨_,he,rfl⟩
  refine au (kW (o5 (name:=Str.ofString "__next__") hT F.slot_enumerate_next (lN F.slot_enumerate_next hT F.entry_enumerate_next ?_ (F.args_enumerate_next_1 _))));change wpAny _ _ (field (.ref e) 2 >>= _) _ _ _;refine au (gc he rfl (x:=.ref it) rfl (au (rm (I.ok.hd hc) hi p (by simp;lia) fun h' x eb qU=>?_)));obtain⟨o,ho,Ih⟩:=qU;exact au (Ck (T:="StopIteration") (b:=true) ⟨o,ho,Ih⟩ isSubtype_stop (wpAny_pure ⟨rfl,I.turned (t':=s.toks) (fun b o hb e=>eb b o hb e) f0 f1 f3 f4 f5⟩))
 self:=fun _ _ _ _ _ st h=>by
  obtain⟨⟨iA,he⟩,_⟩:=st;exact wpAny_pyIter_enum he h
section
variable {X:Cx}
def Q8(K:a_)(ta:TA):TI:=fun σ H R=>ta σ H fun vs H1=>∃a xs,vs=[.ref a]/\cu K H1 a xs/\R (GN K a) H1
theorem Au(hg:Gl X "enumerate")(hm:X.mg "enumerate"=none)(ha:PA X [a] ta)(hs:starEach [a] X.env=[(false,eval a X.env)]:=by rfl):
  PI X (.Tuple es x1 My) (.Call (.Name "enumerate" p) [a] [] pos) (Q8 X.K ta):=by
 intro af s σ H R I h;refine Call_ (jQ I hg hm (by decide +kernel:bootBuiltins "enumerate"=some (.type "enumerate")) (qk (eD (ha pos af s σ H _ I h) fun us s1 ⟨vs,H1,I1,r1,q1⟩=>?_) hs rfl));obtain⟨l,xs,rfl,hl,q⟩:=q1;obtain⟨u1,rfl,V6⟩:=r1.one;obtain rfl:u1=Value.ref l:=V6;obtain⟨its,rv,pt,hz⟩:=I1.tuple hl;have eX:l<s1.heap.objs.size:=by obtain⟨o,e,_⟩:=pt;exact aS e
 refine C8 (show s1.heap.IsTuple l its.toArray from pt) fun h' he hi k=>?_;have qh:s1.heap.objs.size+1≠s1.heap.objs.size:=Nat.succ_ne_self _;refine wpAny_pyIter_enum he ?_;have I2:aU X af σ H1 { s1 with heap:=h' }:=I1.kept (t':=s1.toks) k;refine⟨s1.heap.objs.size+1,[s1.heap.objs.size+1,s1.heap.objs.size],_,_,H1,rfl,I2,C9 l _ _ qh (bf (dH eX)) (bf eX),⟨⟨_,he⟩,hi⟩,fun b hb=>?_,q⟩;have v6:s1.heap.objs.size<=b:=by
  rcases bq.mp hb with rfl|hb
  .exact xP _
  .rw[dA.mp hb];exact aP _
 exact I1.zN v6 (I1.cY.fresh v6)
theorem GQ{K:a_}{a:Addr}{xs:bg}{g:TG}{tb:TS}{D:Cn}{σ:St}{H:Hp}(Pv:IT)(h0:Pv 0 σ H)(hl:∀i σ H,i<=xs.length->Pv i σ H->cu K H a xs)(hs:∀i x p σ H,xs[i]?=some x->Pv i σ H->H p=none->g (.ref p) σ (upd H p (.tup [.int i,x])) fun σ2 H2=>tb { D with nx:=Pv (i+1),ct:=Pv (i+1),bk:=D.nx } σ2 H2)(hd:∀σ H,Pv xs.length σ H->D.nx σ H):
  ∃W:Nat->Nat->St->Hp->Prop,(∃m,W 0 m σ H)/\∀i m σ H,W i m σ H->
   ((GN K a).stop i H/\D.nx σ H)\/((GN K a).go i H/\∃N:St->Hp->Prop,(∀σ' H',N σ' H'->∃m',m'<m/\W (i+1) m' σ' H')/\∀x H',(GN K a).Uj i H x H'->g x σ H' fun σ2 H2=>tb { D with nx:=N,ct:=N,bk:=D.nx } σ2 H2):=by
 refine⟨fun i m σ H=>m=xs.length-i/\i<=xs.length/\Pv i σ H,⟨xs.length,by simp,cp _,h0⟩,?_⟩;rintro i m σ H ⟨rfl,hi,p⟩;have q:=hl i σ H hi p;by_cases eX:i<xs.length
 .refine .inr ⟨⟨xs,xs[i],q,by simp[eX]⟩,Pv (i+1),fun σ' H' p'=>⟨xs.length-(i+1),by lia,rfl,eX,p'⟩,fun x H' y=>?_⟩;obtain⟨pp,v,rfl,hn,rfl,hv⟩:=y;exact hs i v pp σ _ (hv xs q) p hn
 .have e:i=xs.length:=by lia
  subst e;exact .inl ⟨⟨xs,q,aP _⟩,hd σ H p⟩
theorem C_{K:a_}{a D:Addr}{xs:bg}{g:TG}{tt:TT}{te:TE}{d_:rP}{σB:St}{H0:Hp}(Pv:zJ)(h0:Pv 0 [] σB H0)(hl:∀i ys σ H,i<=xs.length->Pv i ys σ H->cu K H a xs)(hs:∀i x p ys σ H (Kt:j_) (Kf:iu),xs[i]?=some x->Pv i ys σ H->H p=none->
   (∀v σ2 H4,H4 D=some (.lst ys)->ys.length<sizeLine->Pv (i+1) (ys++[v]) σ2 (upd H4 D (.lst (ys++[v])))->Kt v σ2 H4)->(∀σ2 H3,Pv (i+1) ys σ2 H3->Kf σ2 H3)->
   g (.ref p) σ (upd H p (.tup [.int i,x])) fun σ2 H2=>tt σ2 H2 fun b H3=>if b=true then te σ2 H3 fun v H4=>Kt v σ2 H4 else Kf σ2 H3)(hd:∀ys σ H,Pv xs.length ys σ H->d_ H):iy (GN K a) g tt te D d_ σB H0:=by
 refine⟨fun i m σ H=>m=xs.length-i/\i<=xs.length/\∃ys,Pv i ys σ H,⟨xs.length,by simp,cp _,[],h0⟩,?_⟩;rintro i m σ H ⟨rfl,hi,ys,p⟩;have q:=hl i ys σ H hi p;by_cases eX:i<xs.length
 .refine .inr ⟨⟨xs,xs[i],q,by simp[eX]⟩,?_⟩;rintro x H' ⟨pp,v,rfl,hn,rfl,hv⟩;exact hs i v pp ys σ _ (fun v σ2 H4=>∃ys,H4 D=some (.lst ys)/\ys.length<sizeLine/\∃m',m'<xs.length-i/\m'=xs.length-(i+1)/\i+1<=xs.length/\∃v7,Pv (i+1) v7 σ2 (upd H4 D (.lst (ys++[v]))))
   (fun σ2 H3=>∃m',m'<xs.length-i/\m'=xs.length-(i+1)/\i+1<=xs.length/\∃v7,Pv (i+1) v7 σ2 H3) (hv xs q) p hn
   (fun v σ2 H4 z1 z2 z3=>⟨ys,z1,z2,_,by lia,rfl,eX,_,z3⟩) (fun σ2 H3 z=>⟨_,by lia,rfl,eX,_,z⟩)
 .have e:i=xs.length:=by lia
  subst e;exact .inl ⟨⟨xs,q,aP _⟩,hd ys σ H p⟩
end
section
variable {X:Cx} {tg:Expr}
end
theorem yr:typeLookup (.type "list") "keys"=pure none:=by rw[xK,xx];kernel_rfl
theorem sV:typeLookup (.type "list") "__getattr__"=pure none:=by rw[xK,xx];kernel_rfl
theorem vg(l:Addr)(u:Tok)(items:bD)(n:Nat):
  Meets (Builtin.«object.__getattribute__» ⟨[.ref l,.str "keys" u],[]⟩) (fun A R s=>s.heap.get? l=some { cls:=.type "list",data:=.seq items n }/\raisesAttr (.ref l) "keys" A R s):=
 Meets.of_wp fun prog w A R s hs=>by
  obtain⟨hp,g,d,tk,os⟩:=s;obtain⟨hl,hs⟩:=hs;have hT:(⟨hp,g,d,tk,os⟩:aR).TypeIs (.ref l) "list":=⟨_,hl,rfl⟩
  have f1:=yr;unfold Builtin.«object.__getattribute__»;repeat (any_goals (first|assumption|wp_step))
  exact wpAny_raiseAttrError hs.1 hs.2 (attrMsg_fits (by decide +kernel) (by decide +kernel))
theorem Q9(hA:A.handled=none)(hl:s.heap.get? l=some { cls:=.type "list",data:=.seq items n })(h:∀h' tk,(∀b o,s.heap.get? b=some o->h'.get? b=some o)->Q none { s with heap:=h',toks:=tk }):wpAny (model prog w) A (getAttr? (.ref l) "keys") Q E s:=by
 obtain⟨hp,g,d,tk,os⟩:=s;have hT:∀tk,(⟨hp,g,d,tk,os⟩:aR).TypeIs (.ref l) "list":=fun _=>⟨_,hl,rfl⟩
 have f1:=sub_AttributeError;have f3:=F.slot_list_getattribute.lookup;have f4:=F.slot_list_getattribute.bind (.ref l);have f5:=sV;unfold getAttr? getAttrBy?;refine au (wpAny_mkText ?_);refine au (kW ?_);unfold getAttrBy;repeat (any_goals (first|assumption|((with_reducible show wpAny _ _ (call (Value.builtin "list.__getattribute__") _ _) _ _ _);refine on F.slot_list_getattribute (hT _) F.entry_list_ga (F.args_list_getattribute_2 _ _) (vg l _ items n) ⟨hl,hA,fun h' tk' e hx=>?_⟩)|wp_step))
 obtain⟨t',u',he⟩:=hx.there;show wpAny _ _ (getattributeRaised _ _ _ _ _ _ _) _ _ _;unfold getattributeRaised;repeat (any_goals (first|assumption|wp_step))
 exact h _ _ hx.keeps
theorem rW:entryFor table "dict.update.loop"=some Builtin.«dict.update.loop»:=entryFor_of_tree (by kernel_rfl)
theorem jw:plainId "dict.update.loop"=true:=by decide +kernel
section
variable {prog:bL} {w:World} {A:br} {E:bV} {s:aR} {R:zB} {l d Ia:Addr}
end
section
variable {prog:bL} {w:World} {A:br} {E:bV} {s:aR} {l:Addr}
end
section
variable {X:Cx}
theorem GR(hc:X.calm=true):gf X (.builtin "all") (fun xs H Q=>∃ (p:Addr) (bs:List Bool),xs=[.ref p]/\a8 X.K H p (bs.map V.bl)/\Q (.bl (bs.all id)) H):=by
 intro af s σ H xs us Q I r h;obtain⟨p,bs,rfl,hp,q⟩:=h;obtain⟨u1,rfl,r1⟩:=r.one;obtain rfl:u1=Value.ref p:=r1;obtain⟨its,rv,pl,hz⟩:=I.list hp;have yo:its=bs.map Value.bool:=by
  have go:∀ (bs:List Bool) (its:bw),ba (bs.map V.bl) its->its=bs.map Value.bool:=by
   intro bs;induction bs with
   |nil=>intro its r;cases r;rfl
   |cons b bs ih=>
    intro its r;cases r with
    |cons r rr=>
     obtain rfl:=(show _=Value.bool b from r)
     rw[ih _ rr];rfl
  exact go bs its rv
 subst yo;obtain⟨ob,hob,_⟩:=id pl.isList;have eX:p<s.heap.objs.size:=aS hob;refine call_all_walk (uB pl.isList ⟨s.heap.objs.size,_,_,_,_,_,fun i=>bs.getD i true,rfl,Walks.list (show X.A.in1.handled=none from I.ok.hd hc) _ p (bf eX) _,⟨⟨_,cX _ rfl,rfl,rfl⟩,pl.isList.push _⟩,fun i v s1 Q' E' hv hq=>?_,fun h' tk k=>?_⟩)
 .have Gc:(bs.map Value.bool)[i]?=some v:=by simpa using hv
  rw[cA] at Gc;cases eb:bs[i]? with
  |none=>rw[eb] at Gc;cases Gc
  |some b=>
   rw[eb] at Gc;obtain rfl:Value.bool b=v:=cB Gc;have:bs.getD i true=b:=by rw[cw,eb];rfl
   have Jg:Q' b s1:=by rw[<-this];exact hq
   exact wpAny_pure Jg
 .have keep:∀b o,s.heap.get? b=some o->h'.get? b=some o:=fun b o e=>k b o (by simpa using bf (aS e)) (bP _ e);refine⟨.bl (bs.all id),H,I.kept (t':=tk) keep,?_,q⟩;show Value.bool _=Value.bool _;congr 1;have go:∀ (bs:List Bool),((List.range bs.length).all fun i=>bs.getD i true)=bs.all id:=by
   intro bs;induction bs with
   |nil=>rfl
   |cons b bs ih=>
    rw[fj,qt,lV,List.all_map,lV,<-ih];rfl
  rw[<-go bs];simp
end
structure d9(P:bL)(w:World)(K:a_)(mg:cr)(base:Heap)(CX:Bk)(k:Nat)(x:Str)(ps:bQ)(sp:Sp):Prop where
 ex:∃f fd,mg x=some (.ref f)/\W.keepIn K (.ref f)=true/\lx K fd ps []/\bU P w K mg base CX k f fd ps sp
theorem aH(C:d9 X.prog X.w X.K X.mg X.base CX k x ps sp)(hr:df k X.A)(hx:ot CX X E)(ha:PA X (e::es) t)(hg:Gl X x:=by rfl)(Gf:(x==("__debug__":Str))=false:=by decide)(he:starEach (e::es) X.env=(false,eval e X.env)::starEach es X.env:=by rfl)(Ic:(backTo pos (starEach es X.env)).any (·.1)=false:=by rfl):
  PE X (.Call (.Name x p) (e::es) [] pos) (rR sp [] E t):=by
 obtain⟨f,fd,a,b,c,d⟩:=C.ex;exact Mz d hr hg a b c .nil hx ha Gf he Ic
theorem aj(h:H D=none):aI H (upd H D o):=fun b u e=>by rw[aq (am e h)];exact e
def aO(p:Addr)(H H':Hp):Prop:=∀b o,H b=some o->b≠p->H' b=some o
theorem aO.refl:aO p H H:=fun _ _ h _=>h
theorem aO.trans(a:aO p H H1)(b:aO p H1 H2):aO p H H2:=fun c o h n=>b c o (a c o h n) n
theorem aO.upd:aO p H (upd H p o):=fun b u h n=>by rw[aq n];exact h
theorem aO.of(s:aI H H'):aO p H H':=fun b o h _=>s b o h
theorem aO.free(s:aO p H H')(hp:H' p≠none)(h:H' q=none):H q=none:=by
 cases z:H q with
 |none=>rfl
 |some o=>
  by_cases e:q=p
  .subst e;exact absurd h hp
  .rw[s q o z e] at h;cases h
theorem eJ(h:j<n):Jj n (j:Int)=some j:=by
 unfold Jj;rw[ap (by lia),ap (by lia)];simp
theorem GS(h:as.length=n):(as++[t]).getD j 0=if j=n then t else as.getD j 0:=by
 rw[cw,cw];by_cases hj:j=n
 .subst hj;subst h;rw[ap rfl,rN (aP _),uL];rfl
 .rw[ao hj];by_cases eX:j<as.length
  .rw[j4 eX]
  .rw[rN (by lia),f9 (by simp;lia),f9 (by lia)]
def Holds(H:Hp)(as:bR)(n:Nat)(o:Nat->HO):Prop:=as.length=n/\∀j,j<n->H (as.getD j 0)=some (o j)
theorem Holds.nil:Holds H [] 0 o:=⟨rfl,fun j hj=>absurd hj (by lia)⟩
theorem Holds.snoc(h:Holds H as n o)(ht:H t=some (o n)):Holds H (as++[t]) (n+1) o:=by
 refine⟨by rw[dh,h.1];rfl,fun j hj=>?_⟩;rw[GS h.1];by_cases e:j=n
 .rw[ap e,e];exact ht
 .rw[ao e];exact h.2 j (by lia)
theorem Holds.mono(h:Holds H as n o)(e:∀j,j<n->H (as.getD j 0)=some (o j)->H' (as.getD j 0)=some (o j)):Holds H' as n o:=⟨h.1,fun j hj=>e j hj (h.2 j hj)⟩
end
end L2
namespace PyProof.Rows
open PySem
def jx:Bool->Keyed->Array Keyed->Nat->Nat->Nat->StateT SortSt Sem (Option Nat):=sortPriv% PySem.Builtin.gallop
def vh:Array Keyed->Array Keyed->StateT SortSt Sem (Array Keyed):=sortPriv% PySem.Builtin.mergeLo
def vi:Array Keyed->Array Keyed->StateT SortSt Sem (Array Keyed):=sortPriv% PySem.Builtin.mergeHi
def jU:Nat->StateT SortSt Sem Unit:=sortPriv% PySem.Builtin.setMinGallop
def L9(prog:bL)(w:World)(A:br)(s:aR)(κ:SortKind)(a₀:bu)(key:lZ):Prop:=
 ∀x y,x∈a₀.toList->y∈a₀.toList->∀ (Q:IL) (E:bV),Q (decide (key x<key y)) s->wpAny (model prog w) A (keyLt' κ x.1 y.1) Q E s
structure SQ(κ:SortKind)(a₀:bu)(pd:i7)(st:bZ):Prop where
 perm:(arrOf st).Perm a₀
 kind:kindOf st=κ
 failed:failedOf st=none
 pend:pendingOf st=pd
def kk(key:lZ)(a:bu)(i:Nat):Int:=(a[i]?.map key).getD 0
def So(key:lZ)(a:bu)(lo hi:Nat):Prop:=∀i j,lo<=i->i<=j->j<hi->kk key a i<=kk key a j
theorem mh(h:i<a.size):kk key a i=key a[i]:=by unfold kk;rw[eL a i h];rfl
theorem Av(h:a[i]?=b[j]?):kk key a i=kk key b j:=by unfold kk;rw[h]
section
variable {prog:bL} {w:World} {A:br} {E:bV} {s:aR} {κ:SortKind} {a₀:bu} {pd:i7} {key:lZ}
theorem SQ.size{st:bZ}(h:SQ κ a₀ pd st):(arrOf st).size=a₀.size:=h.perm.size_eq
theorem SQ.setArr{st:bZ}(h:SQ κ a₀ pd st){xs:bu}(hp:xs.Perm (arrOf st)):SQ κ a₀ pd (setArr st xs):=⟨hp.trans h.perm,h.kind,h.failed,h.pend⟩
theorem SQ.at{st:bZ}(h:SQ κ a₀ pd st){i:Nat}(hi:i<a₀.size):∃p,(arrOf st)[i]?=some p/\p∈a₀.toList:=by
 have vO:i<(arrOf st).size:=by rw[h.size];exact hi
 exact⟨(arrOf st)[i],eL _ i vO,(j3.mp h.perm).mem_iff.mp (by simp)⟩
theorem Q_{st:bZ}{x y:Keyed}{Q:zC}(hC:L9 prog w A s κ a₀ key)(hk:kindOf st=κ)(hx:x∈a₀.toList)(hy:y∈a₀.toList)(h:Q (some (decide (key x<key y))) st):wpS (model prog w) A E s (lt' x y) Q st:=by
 rw[lt'_eq];refine aB (fz ?_);rw[hk];refine aB (jO (kW (hC x y hx hy _ _ ⟨rfl,?_⟩)));exact aK h
theorem bE{st:bZ}{arr:bu}{i:Nat}{p:Keyed}{Q:Keyed->SortSt->Prop}(hi:arr[i]?=some p)(h:Q p st):wpS (model prog w) A E s (elem' arr i) Q st:=by
 rw[elem'_eq,hi];exact aK h
theorem pM{st:bZ}{i j:Nat}{Q:zC}(hC:L9 prog w A s κ a₀ key)(hB:SQ κ a₀ pd st)(hi:i<a₀.size)(hj:j<a₀.size)(h:∀b,b=decide (kk key (arrOf st) i<kk key (arrOf st) j)->Q (some b) st):wpS (model prog w) A E s (ltAt' i j) Q st:=by
 obtain⟨p,e1,m1⟩:=hB.at hi;obtain⟨q,e2,m2⟩:=hB.at hj;rw[ltAt'_eq];refine aB (fz ?_);refine aB (bE e1 (aB (bE e2 (Q_ hC hB.kind m1 m2 (h _ ?_)))));unfold kk;rw[e1,e2];rfl
theorem tS{st:bZ}{i j:Nat}{Q:wu}(hB:SQ κ a₀ pd st)(hj:j<=a₀.size)(h:∀aF,SQ κ a₀ pd aF->(∀k,(arrOf aF)[k]?=if i<=k/\k<j then (arrOf st)[i+j-1-k]? else (arrOf st)[k]?)->Q () aF):wpS (model prog w) A E s (reverseSlice' i j) Q st:=by
 rw[reverseSlice'_eq];exact gh (h _ (hB.setArr (mirror_perm _ _ _ _)) (getElem?_mirror_all (by rw[hB.size];exact hj)))
theorem JN{st:bZ}{i j:Nat}{Q:wu}(hB:SQ κ a₀ pd st)(hi:i<a₀.size)(hj:j<=i)(h:∀aF,SQ κ a₀ pd aF->(∀k,(arrOf aF)[k]?=if k=j then (arrOf st)[i]? else if j<k/\k<=i then (arrOf st)[k-1]? else (arrOf st)[k]?)->Q () aF):wpS (model prog w) A E s (moveDown' i j) Q st:=by
 rw[moveDown'_eq];refine gh (h _ (hB.setArr (bubble_perm _ _ _)) fun k=>?_);have:=getElem?_bubble (xs:=arrOf st) (src:=i) (by rw[hB.size];exact hi) (i-j) (by lia) k;rw[show i-(i-j)=j by lia] at this;exact this
end
def Ra(lo dv n:Nat):StateT SortSt Sem (Option Nat):=do
 reverseSlice' lo (lo+n)
 let mut n:=n
 for _ in [n:dv] do
  let some lh <- ltAt' (lo+n) (lo+n-1)|return none
  if lh then break
  n:=n+1
 return some n
def Rb(lo dv n:Nat):StateT SortSt Sem (Option Nat):=do
 rule "list.sort.descending-run"
 let mut n:=n+1
 let mut neq:=0
 for _ in [n:dv] do
  let some lh <- ltAt' (lo+n) (lo+n-1)|return none
  if lh then
   if neq > 0 then reverseSlice' (lo+n-(neq+1)) (lo+n)
   neq:=0
  else
   let some Rc <- ltAt' (lo+n-1) (lo+n)|return none
   if Rc then break
   neq:=neq+1
  n:=n+1
 if neq > 0 then reverseSlice' (lo+n-(neq+1)) (lo+n)
 Ra lo dv n
theorem v8(lo dv:Nat):countRun' lo dv=(do
 let mut n:=1
 for _ in [1:dv] do
  let some lh <- ltAt' (lo+n) (lo+n-1)|return none
  if lh then break
  n:=n+1
 if n==dv then return some n
 if n > 1 then
  let some aam <- ltAt' lo (lo+n-1)|return none
  if aam then return some n
  reverseSlice' lo (lo+n)
 Rb lo dv n):=rfl
section
variable {prog:bL} {w:World} {A:br} {E:bV} {s:aR} {κ:SortKind} {a₀:bu} {pd:i7} {key:lZ} {ar:bu}
theorem gj(h:∀k,b[k]?=if i<=k/\k<j then a[i+j-1-k]? else a[k]?)(k:Nat):kk key b k=if i<=k/\k<j then kk key a (i+j-1-k) else kk key a k:=by
 unfold kk;rw[h k];split <;> rfl
end
section
variable {prog:bL} {w:World} {A:br} {E:bV} {s:aR} {κ:SortKind} {a₀:bu} {pd:i7} {ck nu:lZ}
structure Nu(nu:lZ)(a₀:bu):Prop where
 up:∀i j,i<j->j<a₀.size->kk nu a₀ i<kk nu a₀ j
 bd:∀x∈a₀.toList,0<=nu x/\nu x<64
structure SK(κ:SortKind)(a₀:bu)(pd:i7)(nu:lZ)(k:Nat)(st:bZ):Prop where
 q:SQ κ a₀ pd st
 rest:∀j,k<=j->(arrOf st)[j]?=a₀[j]?
 nu:∀i j,i<k->k<=j->j<a₀.size->kk nu (arrOf st) i<kk nu (arrOf st) j
theorem SK.bd{k:Nat}{st:bZ}(N:Nu nu a₀)(h:SK κ a₀ pd nu k st){i:Nat}(hi:i<a₀.size):0<=kk nu (arrOf st) i/\kk nu (arrOf st) i<64:=by
 obtain⟨p,e,m⟩:=h.q.at hi;unfold kk;rw[e];exact N.bd p m
theorem SK.later{k:Nat}{st:bZ}(N:Nu nu a₀)(h:SK κ a₀ pd nu k st){i j:Nat}(hi:k<=i)(zL:i<j)(hj:j<a₀.size):kk nu (arrOf st) i<kk nu (arrOf st) j:=by
 rw[Av (h.rest i hi),Av (h.rest j (by lia))];exact N.up i j zL hj
theorem SK.up{k:Nat}{st:bZ}(N:Nu nu a₀)(h:SK κ a₀ pd nu k st){m:Nat}(hm:k<=m):SK κ a₀ pd nu m st:=
 ⟨h.q,fun j hj=>h.rest j (by lia),fun i j hi hj hz=>by
  by_cases c:i<k
  .exact h.nu i j c (by lia) hz
  .exact h.later N (by lia) (by lia) hz⟩
theorem SK.lt{k:Nat}{st:bZ}(N:Nu nu a₀)(h:SK κ a₀ pd nu k st){i j:Nat}(hi:i<j)(hk:k<=j)(hj:j<a₀.size):kk nu (arrOf st) i<kk nu (arrOf st) j:=by
 by_cases c:i<k
 .exact h.nu i j c hk hj
 .exact h.later N (by lia) hi hj
def zu(ck nu:lZ)(a:bu)(hi:Nat):Prop:=∀i j,i<=j->j<hi->64*kk ck a i+kk nu a i<=64*kk ck a j+kk nu a j
def Il(ck nu:lZ)(a:bu)(hi:Nat):Prop:=∀i j,i<=j->j<hi->64*kk ck a j+kk nu a j<=64*kk ck a i+kk nu a i
theorem JO{st:bZ}{n ok:Nat}{Q:IM}(hC:L9 prog w A s κ a₀ ck)(N:Nu nu a₀)(hn:n<=a₀.size)(h1:1<=ok)(cY:ok<=n)(hB:SK κ a₀ pd nu ok st)(hs:zu ck nu (arrOf st) ok)(h:∀aF,SK κ a₀ pd nu n aF->zu ck nu (arrOf aF) n->Q true aF):wpS (model prog w) A E s (binarySort' 0 n ok) Q st:=by
 rw[binarySort'_eq];simp only[jJ];rw[show max ok 1=ok by lia];refine aB (dL (fm (I:=fun k c aF=>c=(none,())/\SK κ a₀ pd nu k aF/\zu ck nu (arrOf aF) k) (Q:=fun c aF=>c=(none,())/\SK κ a₀ pd nu n aF/\zu ck nu (arrOf aF) n) ?_ (fun c aF hh=>?_) ⟨rfl,hB,hs⟩) ?_)
 .rintro k c aF hk1 Pp ⟨rfl,Aw,so⟩;refine aB (dL (fm (I:=fun x c rn=>(∃l r,c=(none,l,r)/\l<=r/\r<=k/\r<=l+(k-x)/\(∀i,i<l->64*kk ck (arrOf aF) i+kk nu (arrOf aF) i<=64*kk ck (arrOf aF) k+kk nu (arrOf aF) k)/\(∀i,r<=i->i<k->64*kk ck (arrOf aF) k+kk nu (arrOf aF) k<=64*kk ck (arrOf aF) i+kk nu (arrOf aF) i))/\rn=aF)
   (Q:=fun c rn=>(∃l r,c=(none,l,r)/\l<=k/\(∀i,i<l->64*kk ck (arrOf aF) i+kk nu (arrOf aF) i<=64*kk ck (arrOf aF) k+kk nu (arrOf aF) k)/\(∀i,l<=i->i<k->64*kk ck (arrOf aF) k+kk nu (arrOf aF) k<=64*kk ck (arrOf aF) i+kk nu (arrOf aF) i))/\rn=aF) ?_ ?_ ⟨⟨_,_,rfl,cp _,aP _,by lia,fun i h=>by lia,fun i h h'=>by lia⟩,rfl⟩) ?_)
  .rintro x c lD _ hx ⟨⟨l,r,rfl,aan,hr,Us,f1,f2⟩,rfl⟩;dsimp only;by_cases Ax:l>=r
   .rw[ap Ax];exact aK ⟨⟨_,_,rfl,by lia,f1,fun i hi vO=>f2 i (by lia) vO⟩,rfl⟩
   .rw[ao Ax];refine aB (pM hC Aw.q (by lia) (by lia) fun b eb=>?_);have nn:=Aw.lt N (i:=(l+r) / 2) (j:=k) (by lia) (aP _) (by lia);have b1:=Aw.bd N (i:=(l+r) / 2) (by lia);have b2:=Aw.bd N (i:=k) (by lia);cases b
    .have e:=ul eb.symm;refine aK ⟨⟨_,_,rfl,by lia,hr,by lia,fun i hi=>?_,f2⟩,rfl⟩;have:=so i ((l+r) / 2) (by lia) (by lia);lia
    .have e:=fu eb.symm;refine aK ⟨⟨_,_,rfl,by lia,by lia,by lia,f1,fun i hi vO=>?_⟩,rfl⟩;have:=so ((l+r) / 2) i (by lia) (by lia);lia
  .rintro c lD ⟨⟨l,r,rfl,aan,hr,Us,f1,f2⟩,rfl⟩;exact⟨⟨_,_,rfl,by lia,f1,fun i hi vO=>f2 i (by lia) vO⟩,rfl⟩
  .rintro c lD ⟨⟨l,r,rfl,hl,f1,f2⟩,rfl⟩;dsimp only;refine aB (JN Aw.q (by lia) (by lia) fun jq i6 hg=>aK ?_);have ee:∀ (key:lZ) i,kk key (arrOf jq) i=if i=l then kk key (arrOf lD) k else if l<i/\i<=k then kk key (arrOf lD) (i-1) else kk key (arrOf lD) i:=fun key i=>by
    unfold kk;rw[hg i];split
    .rfl
    .split <;> rfl
   refine⟨rfl,⟨i6,fun j hj=>?_,fun i j hi hj hz=>?_⟩,fun i j h2 h3=>?_⟩
   .rw[hg j,ao (by lia),ao (by lia)];exact Aw.rest j (by lia)
   .rw[ee nu j,ao (by lia),ao (by lia),ee nu i];split
    .exact Aw.lt N (by lia) (by lia) hz
    .split
     .exact Aw.lt N (by lia) (by lia) hz
     .exact Aw.lt N (by lia) (by lia) hz
   .rw[ee ck,ee ck,ee nu,ee nu];by_cases c1:i=l
    .rw[ap c1,ap c1];by_cases c2:j=l
     .rw[ap c2,ap c2];exact om _
     .have c4:l<j/\j<=k:=by lia
      rw[ao c2,ao c2,ap c4,ap c4];exact f2 (j-1) (by lia) (by lia)
    .rw[ao c1,ao c1];by_cases c3:l<i/\i<=k
     .have c2:¬ j=l:=by lia
      have c4:l<j/\j<=k:=by lia
      rw[ap c3,ap c3,ao c2,ao c2,ap c4,ap c4];exact so _ _ (by lia) (by lia)
     .rw[ao c3,ao c3];by_cases c2:j=l
      .rw[ap c2,ap c2];exact f1 i (by lia)
      .rw[ao c2,ao c2];by_cases c4:l<j/\j<=k
       .rw[ap c4,ap c4];exact so _ _ (by lia) (by lia)
       .rw[ao c4,ao c4];exact so _ _ (by lia) (by lia)
 .obtain⟨h2,h3,h4⟩:=hh;have e:max ok n=n:=by lia
  rw[e] at h3 h4;exact⟨h2,h3,h4⟩
 .rintro c aF ⟨rfl,Aw,so⟩;exact aK (h aF Aw so)
theorem Ay{st:bZ}{dv n:Nat}{Q:Option (Option Nat)×Nat->SortSt->Prop}(hC:L9 prog w A s κ a₀ ck)(N:Nu nu a₀)(hn:dv<=a₀.size)(h1:1<=n)(h2:n<=dv)(hB:SK κ a₀ pd nu n st)(so:zu ck nu (arrOf st) n)(h:∀m,n<=m->m<=dv->zu ck nu (arrOf st) m->(m=dv\/kk ck (arrOf st) m<kk ck (arrOf st) (m-1))->Q (none,m) st):
  wpS (model prog w) A E s (forIn [n:dv] ((none:Option (Option Nat)),n) fun _ r=>do
   let some lh <- ltAt' r.2 (r.2-1)|pure (ForInStep.done (some none,r.2))
   if lh then pure (ForInStep.done (none,r.2)) else pure (ForInStep.yield (none,r.2+1))) Q st:=by
 refine dL (fm (I:=fun i c aF=>aF=st/\c=(none,i)/\zu ck nu (arrOf st) i) (Q:=fun c aF=>aF=st/\∃m,c=(none,m)/\n<=m/\m<=dv/\zu ck nu (arrOf st) m/\(m=dv\/kk ck (arrOf st) m<kk ck (arrOf st) (m-1))) ?_ ?_ ⟨rfl,rfl,so⟩) ?_
 .rintro i c Bp Pq Ab ⟨rfl,rfl,Ps⟩;dsimp only;have nn:=hB.lt N (i:=i-1) (j:=i) (by lia) (by lia) (by lia);refine aB (pM hC hB.q (by lia) (by lia) fun b eb=>?_);cases b
  .have e:=ul eb.symm;refine aK ⟨rfl,rfl,fun x y wT hy=>?_⟩;by_cases c1:y<i
   .exact Ps x y wT c1
   .have:y=i:=by lia
    subst this;by_cases c2:x=y
    .rw[c2];exact om _
    .have:=Ps x (y-1) (by lia) (by lia);lia
  .exact aK ⟨rfl,_,rfl,by lia,by lia,Ps,.inr (fu eb.symm)⟩
 .rintro c Bp ⟨rfl,rfl,Ps⟩;have:max n dv=dv:=by lia
  rw[this] at Ps |-;exact⟨rfl,_,rfl,by lia,by lia,Ps,.inl rfl⟩
 .rintro c Bp ⟨rfl,m,rfl,m1,m2,Ps,e⟩;exact h m m1 m2 Ps e
theorem SK.rev{st aF:bZ}{b i:Nat}(N:Nu nu a₀)(hB:SK κ a₀ pd nu b st)(hb:b<=i)(hi:i<=a₀.size)(hq:SQ κ a₀ pd aF)(hg:∀k,(arrOf aF)[k]?=if b<=k/\k<i then (arrOf st)[b+i-1-k]? else (arrOf st)[k]?):SK κ a₀ pd nu i aF:=
 ⟨hq,fun j hj=>by rw[hg j,ao (by lia)];exact hB.rest j (by lia),fun x j hx hj hz=>by
  rw[gj hg,gj hg,ao (by lia:¬ (b<=j/\j<i))];split
  .exact hB.lt N (by lia) (by lia) hz
  .exact hB.lt N (by lia) (by lia) hz⟩
theorem Il.rev{st aF:bZ}{b i:Nat}(N:Nu nu a₀)(hB:SK κ a₀ pd nu b st)(hb:b<=i)(hi:i<=a₀.size)(hg:∀k,(arrOf aF)[k]?=if b<=k/\k<i then (arrOf st)[b+i-1-k]? else (arrOf st)[k]?)(de:Il ck nu (arrOf st) b)(d1:∀x y,x<b->b<=y->y<i->kk ck (arrOf st) y<kk ck (arrOf st) x)(d2:∀x,b<=x->x<i->kk ck (arrOf st) x=kk ck (arrOf st) (i-1)):Il ck nu (arrOf aF) i:=fun x y wT hy=>by
 rw[gj hg,gj hg,gj hg,gj hg];by_cases cy:b<=y
 .rw[ap (by lia:b<=y/\y<i),ap (by lia:b<=y/\y<i)];have by1:=hB.bd N (i:=b+i-1-y) (by lia);by_cases cx:b<=x
  .rw[ap (by lia:b<=x/\x<i),ap (by lia:b<=x/\x<i)];have e1:=d2 (b+i-1-x) (by lia) (by lia);have e2:=d2 (b+i-1-y) (by lia) (by lia);by_cases c:x=y
   .rw[c];exact om _
   .have:=hB.later N (i:=b+i-1-y) (j:=b+i-1-x) (by lia) (by lia) (by lia);lia
  .rw[ao (by lia:¬ (b<=x/\x<i)),ao (by lia:¬ (b<=x/\x<i))];have:=d1 x (b+i-1-y) (by lia) (by lia) (by lia);have bx:=hB.bd N (i:=x) (by lia);lia
 .rw[ao (by lia:¬ (b<=y/\y<i)),ao (by lia:¬ (b<=y/\y<i)),ao (by lia:¬ (b<=x/\x<i)),ao (by lia:¬ (b<=x/\x<i))];exact de x y wT (by lia)
theorem yt{a:bu}{b:Nat}:∀k,a[k]?=if b<=k/\k<b+1 then a[b+(b+1)-1-k]? else a[k]?:=fun k=>by
 split
 .rename_i c;rw[show b+(b+1)-1-k=k by lia]
 .rfl
theorem Az{st:bZ}{dv n:Nat}{Q:zD}(hC:L9 prog w A s κ a₀ ck)(N:Nu nu a₀)(hn:dv<=a₀.size)(h1:1<=n)(h2:n<=dv)(hB:SK κ a₀ pd nu n st)(de:Il ck nu (arrOf st) n)(h:∀n aF,SK κ a₀ pd nu n aF->1<=n->n<=dv->zu ck nu (arrOf aF) n->Q (some n) aF):wpS (model prog w) A E s (Ra 0 dv n) Q st:=by
 unfold Ra;simp only[jJ];refine aB (tS hB.q (by lia) fun lD Ij hg=>?_);have qj:SK κ a₀ pd nu n lD:=⟨Ij,fun j hj=>by rw[hg j,ao (by lia)];exact hB.rest j hj,fun i j hi hj hz=>by
  rw[gj hg,gj hg,ao (by lia:¬ (0<=j/\j<n))];split
  .exact hB.nu _ _ (by lia) hj hz
  .exact hB.nu _ _ hi hj hz⟩
 refine aB (Ay hC N hn h1 h2 qj (fun i j zL hj=>?_) fun m m1 m2 so _=>?_)
 .rw[gj hg,gj hg,gj hg,gj hg,ap (by lia),ap (by lia),ap (by lia),ap (by lia)];exact de _ _ (by lia) (by lia)
 .exact aK (h m lD (qj.up N m1) (by lia) m2 so)
theorem AA{st:bZ}{dv n:Nat}{Q:zD}(hC:L9 prog w A s κ a₀ ck)(N:Nu nu a₀)(hn:dv<=a₀.size)(h1:1<=n)(h2:n<dv)(hB:SK κ a₀ pd nu n st)(de:Il ck nu (arrOf st) n)(d1:∀x,x<n->kk ck (arrOf st) n<kk ck (arrOf st) x)(h:∀n aF,SK κ a₀ pd nu n aF->1<=n->n<=dv->zu ck nu (arrOf aF) n->Q (some n) aF):wpS (model prog w) A E s (Rb 0 dv n) Q st:=by
 unfold Rb;simp only[jJ];refine aB (jO (fv ⟨rfl,?_⟩));refine aB (dL (fm (I:=fun i c aF=>∃q b,c=(none,i,q)/\i=b+(q+1)/\SK κ a₀ pd nu b aF/\Il ck nu (arrOf aF) b/\(∀x y,x<b->b<=y->y<i->kk ck (arrOf aF) y<kk ck (arrOf aF) x)/\∀x,b<=x->x<i->kk ck (arrOf aF) x=kk ck (arrOf aF) (i-1))
  (Q:=fun c aF=>∃i q b,c=(none,i,q)/\i<=dv/\i=b+(q+1)/\SK κ a₀ pd nu b aF/\Il ck nu (arrOf aF) b/\(∀x y,x<b->b<=y->y<i->kk ck (arrOf aF) y<kk ck (arrOf aF) x)/\∀x,b<=x->x<i->kk ck (arrOf aF) x=kk ck (arrOf aF) (i-1)) ?_ ?_ ⟨0,n,rfl,rfl,hB,de,fun x y hx hy YJ=>by rw[show y=n by lia];exact d1 x hx,fun x hx qU=>by rw[show x=n by lia];rfl⟩) ?_)
 .rintro i c jq Pq Ab ⟨q,b,rfl,rfl,i6,Pu,d3,e3⟩;dsimp only;have step:∀aF,SQ κ a₀ pd aF->(∀k,(arrOf aF)[k]?=if b<=k/\k<b+(q+1) then (arrOf jq)[b+(b+(q+1))-1-k]? else (arrOf jq)[k]?)->kk ck (arrOf jq) (b+(q+1))<kk ck (arrOf jq) (b+(q+1)-1)->
    SK κ a₀ pd nu (b+(q+1)) aF/\Il ck nu (arrOf aF) (b+(q+1))/\(∀x y,x<b+(q+1)->b+(q+1)<=y->y<b+(q+1)+1->kk ck (arrOf aF) y<kk ck (arrOf aF) x):=fun aF hq hg lt=>by
   refine⟨i6.rev N (by lia) (by lia) hq hg,Il.rev N i6 (by lia) (by lia) hg Pu d3 e3,fun x y hx hy YJ=>?_⟩;rw[show y=b+(q+1) by lia,gj hg,gj hg,ao (by lia)];split
   .rw[e3 (b+(b+(q+1))-1-x) (by lia) (by lia)];exact lt
   .have:=d3 x (b+(q+1)-1) (by lia) (by lia) (by lia);lia
  refine aB (pM hC i6.q (by lia) (by lia) fun b3 eb3=>?_);cases b3
  .have e3':=ul eb3.symm;dsimp only;rw[ao (by decide)];refine aB (pM hC i6.q (by lia) (by lia) fun b4 eb4=>?_);cases b4
   .have e4':=ul eb4.symm;have eq:kk ck (arrOf jq) (b+(q+1))=kk ck (arrOf jq) (b+(q+1)-1):=by lia
    refine aK ⟨q+1,b,rfl,rfl,i6,Pu,fun x y hx hy YJ=>?_,fun x hx qU=>?_⟩
    .by_cases c:y<b+(q+1)
     .exact d3 x y hx hy c
     .rw[show y=b+(q+1) by lia,eq];exact d3 x _ hx (by lia) (by lia)
    .rw[show b+(q+1)+1-1=b+(q+1) by lia];by_cases c:x<b+(q+1)
     .rw[e3 x hx c,eq]
     .rw[show x=b+(q+1) by lia]
   .exact aK ⟨_,_,_,rfl,by lia,rfl,i6,Pu,d3,e3⟩
  .have e3':=fu eb3.symm;dsimp only;rw[ap rfl];split
   .rename_i cq;rw[show b+(q+1)-(q+1)=b by lia];refine aB (tS i6.q (by lia) fun sW hq4 hg=>aK ?_);obtain⟨s1,s2,s3⟩:=step sW hq4 hg e3';exact⟨0,b+(q+1),rfl,rfl,s1,s2,s3,fun x hx qU=>by rw[show x=b+(q+1) by lia];rfl⟩
   .rename_i cq;have cq:q=0:=by lia
    subst cq;obtain⟨s1,s2,s3⟩:=step jq i6.q yt e3';exact aK ⟨0,b+(0+1),rfl,rfl,s1,s2,s3,fun x hx qU=>by rw[show x=b+(0+1) by lia];rfl⟩
 .rintro c jq ⟨q,b,rfl,e,i6,Pu,d3,e3⟩;have:max (n+1) dv=dv:=by lia
  rw[this] at e d3 e3 |-;exact⟨_,_,_,rfl,by lia,e,i6,Pu,d3,e3⟩
 .rintro c jq ⟨i,q,b,rfl,hi,rfl,i6,Pu,d3,e3⟩;dsimp only;split
  .rename_i cq;rw[show b+(q+1)-(q+1)=b by lia];refine aB (tS i6.q (by lia) fun sW hq4 hg=>?_);exact Az hC N hn (by lia) hi (i6.rev N (by lia) (by lia) hq4 hg) (Il.rev N i6 (by lia) (by lia) hg Pu d3 e3) h
  .rename_i cq;have cq:q=0:=by lia
   subst cq;exact Az hC N hn (by lia) hi (i6.rev N (by lia) (by lia) i6.q yt) (Il.rev N i6 (by lia) (by lia) yt Pu d3 e3) h
theorem Da{st:bZ}{dv:Nat}{Q:zD}(hC:L9 prog w A s κ a₀ ck)(N:Nu nu a₀)(hn:dv<=a₀.size)(h1:1<=dv)(hB:SK κ a₀ pd nu 0 st)(h:∀n aF,SK κ a₀ pd nu n aF->1<=n->n<=dv->zu ck nu (arrOf aF) n->Q (some n) aF):wpS (model prog w) A E s (countRun' 0 dv) Q st:=by
 rw[v8];simp only[jJ];refine aB (Ay hC N hn (aP 1) h1 (hB.up N (cp 1)) (fun i j zL hj=>by rw[show i=j by lia];exact om _) fun n n1 n2 so e=>?_);dsimp only;by_cases e1:(n==dv)=true
 .rw[ap e1];exact aK (h n st (hB.up N (by lia)) n1 n2 so)
 rw[ao e1];have g1:¬ (n=dv):=by simpa using e1
 have eX:kk ck (arrOf st) n<kk ck (arrOf st) (n-1):=e.resolve_left g1;by_cases e2:n > 1
 .rw[ap e2];refine aB (pM hC hB.q (by lia) (by lia) fun b2 eb=>?_);cases b2
  .have e3:=ul eb.symm;dsimp only;rw[ao (by decide)];have eq:∀k,0<=k->k<n->kk ck (arrOf st) k=kk ck (arrOf st) (n-1):=fun k _ Pp=>by
    have a1:=so 0 k (by lia) Pp;have a2:=so k (n-1) (by lia) (by lia);have c0:=hB.bd N (i:=0) (by lia);have c1:=hB.bd N (i:=k) (by lia);have c2:=hB.bd N (i:=n-1) (by lia);lia
   refine aB (tS hB.q (by lia) fun lD Ij hg=>?_);have YK:∀k,(arrOf lD)[k]?=if 0<=k/\k<n then (arrOf st)[0+n-1-k]? else (arrOf st)[k]?:=hg
   refine AA hC N hn n1 (by lia) (hB.rev N (by lia) (by lia) Ij YK) (Il.rev N hB (by lia) (by lia) YK (fun i j zL hj=>by lia) (fun x y hx _ _=>by lia) eq) (fun x hx=>?_) h;rw[gj YK,gj YK,ao (by lia:¬ (0<=n/\n<n)),ap (by lia:0<=x/\x<n),eq (0+n-1-x) (by lia) (by lia)];exact eX
  .exact aK (h n st (hB.up N (by lia)) n1 n2 so)
 .rw[ao e2];have:n=1:=by lia
  subst this;refine AA hC N hn n1 (by lia) (hB.up N (by lia)) (fun i j zL hj=>by rw[show i=j by lia];exact om _) (fun x hx=>?_) h;rw[show x=1-1 by lia];exact eX
theorem vj{st:bZ}{Q:wu}(hC:L9 prog w A s κ a₀ ck)(N:Nu nu a₀)(ha:arrOf st=a₀)(hk:kindOf st=κ)(hf:failedOf st=none)(Re:pendingOf st=#[])(h2:2<=a₀.size)(L8:a₀.size<64)(h:∀aF,(arrOf aF).Perm a₀->failedOf aF=none->zu ck nu (arrOf aF) a₀.size->Q () aF):wpS (model prog w) A E s sortRuns' Q st:=by
 rw[sortRuns'_eq];refine aB (fz ?_);dsimp only;have hmr:minRun' a₀.size a₀.size 0=a₀.size:=by
  obtain⟨f,hf⟩:∃f,a₀.size=f+1:=⟨a₀.size-1,by lia⟩
  have:minRun' (f+1) a₀.size 0=a₀.size:=by rw[minRun'_succ,ap L8];rfl
  rwa [<-hf] at this
 rw[ha];simp only[hmr];have hB:SK κ a₀ #[] nu 0 st:=⟨⟨by rw[ha],hk,hf,Re⟩,fun j _=>by rw[ha],fun i j hi _ _=>absurd hi (n9 _)⟩
 refine aB (dL (fm
  (I:=fun x c aF=>(x=0/\c=(none,0)/\SK κ a₀ #[] nu 0 aF)\/(1<=x/\c=(none,a₀.size)/\SQ κ a₀ #[(0,a₀.size,0)] aF/\zu ck nu (arrOf aF) a₀.size))
  (Q:=fun c aF=>c=(none,a₀.size)/\SQ κ a₀ #[(0,a₀.size,0)] aF/\zu ck nu (arrOf aF) a₀.size) ?step ?d_ (.inl ⟨rfl,rfl,hB⟩)) ?post)
 case d_=>
  rintro c aF (⟨hx,_,_⟩|⟨_,hc,hD⟩)
  .lia
  .exact⟨hc,hD⟩
 case step=>
  rintro x c aF _ hx (⟨rfl,rfl,Aw⟩|⟨hx1,rfl,hD⟩)
  .dsimp only;rw[ao (by lia)];simp only[uK,uM,jJ];have d_:∀ {jq:bZ},SK κ a₀ #[] nu a₀.size jq->zu ck nu (arrOf jq) a₀.size->SQ κ a₀ #[(0,a₀.size,0)] (setPending jq ((pendingOf jq).push (0,a₀.size,0)))/\zu ck nu (arrOf (setPending jq ((pendingOf jq).push (0,a₀.size,0)))) a₀.size:=fun {jq} k so=>⟨⟨k.q.perm,k.q.kind,k.q.failed,by show (pendingOf jq).push _=_;rw[k.q.pend];rfl⟩,so⟩
   refine aB (Da hC N (aP _) (by lia) Aw fun m lD qj hm1 QY oX=>?_);dsimp only;by_cases eX:m<a₀.size
   .rw[ap eX];refine aB (jO (fv ⟨rfl,?_⟩));refine aB (JO hC N (aP _) hm1 QY qj oX fun jq i6 QP=>?_);simp only[uG,iM,eG];refine aB (fz ?_);have hb:(pendingOf jq).back?=none:=by rw[i6.q.pend];rfl
    rw[hb];dsimp only;exact aB (gh (aK (.inr ⟨by lia,rfl,d_ i6 QP⟩)))
   .rw[ao eX];have hm:m=a₀.size:=by lia
    subst hm;refine aB (fz ?_);have hb:(pendingOf lD).back?=none:=by rw[qj.q.pend];rfl
    rw[hb];dsimp only;exact aB (gh (aK (.inr ⟨by lia,rfl,d_ qj oX⟩)))
  .dsimp only;rw[ap (aP _)];exact aK ⟨rfl,hD⟩
 case post=>
  rintro c aF ⟨rfl,hD⟩;dsimp only;refine aB (dL (fm (I:=fun _ c rn=>rn=aF/\c=(none,())) (Q:=fun c rn=>rn=aF/\c=(none,())) ?_ (fun _ _ hh=>hh) ⟨rfl,rfl⟩) ?_)
  .rintro x c rn _ _ ⟨rfl,rfl⟩;refine aB (fz ?_);rw[ap (by rw[hD.1.pend];exact aP 1)];exact aK ⟨rfl,rfl⟩
  .rintro c rn ⟨rfl,rfl⟩;exact aK (h _ hD.1.perm hD.1.failed hD.2)
end
def mi(prog:bL)(w:World)(A:br)(s:aR)(κ:SortKind)(a₀:bu):Prop:=
 ∀x y,x∈a₀.toList->y∈a₀.toList->∀ (Q:IL) (E:bV),(∀b,Q b s)->wpAny (model prog w) A (keyLt' κ x.1 y.1) Q E s
section
variable {prog:bL} {w:World} {A:br} {E:bV} {s:aR} {κ:SortKind} {a₀:bu} {pd:i7}
theorem pN{st:bZ}{x y:Keyed}{Q:zC}(hC:mi prog w A s κ a₀)(hk:kindOf st=κ)(hx:x∈a₀.toList)(hy:y∈a₀.toList)(h:∀b,Q (some b) st):wpS (model prog w) A E s (lt' x y) Q st:=by
 rw[lt'_eq];refine aB (fz ?_);rw[hk];refine aB (jO (kW (hC x y hx hy _ _ fun b=>⟨rfl,?_⟩)));exact aK (h b)
theorem fP{st:bZ}{i j:Nat}{Q:zC}(hC:mi prog w A s κ a₀)(hB:SQ κ a₀ pd st)(hi:i<a₀.size)(hj:j<a₀.size)(h:∀b,Q (some b) st):wpS (model prog w) A E s (ltAt' i j) Q st:=by
 obtain⟨p,e1,m1⟩:=hB.at hi;obtain⟨q,e2,m2⟩:=hB.at hj;rw[ltAt'_eq];refine aB (fz ?_);exact aB (bE e1 (aB (bE e2 (pN hC hB.kind m1 m2 h))))
theorem g_{st:bZ}{i j:Nat}{Q:wu}(hB:SQ κ a₀ pd st)(h:∀aF,SQ κ a₀ pd aF->Q () aF):wpS (model prog w) A E s (reverseSlice' i j) Q st:=by
 rw[reverseSlice'_eq];exact gh (h _ (hB.setArr (mirror_perm _ _ _ _)))
theorem GT{st:bZ}{i j:Nat}{Q:wu}(hB:SQ κ a₀ pd st)(h:∀aF,SQ κ a₀ pd aF->Q () aF):wpS (model prog w) A E s (moveDown' i j) Q st:=by
 rw[moveDown'_eq];exact gh (h _ (hB.setArr (bubble_perm _ _ _)))
theorem JP{st:bZ}{lo n ok:Nat}{Q:IM}(hC:mi prog w A s κ a₀)(hn:lo+n<=a₀.size)(hB:SQ κ a₀ pd st)(h:∀aF,SQ κ a₀ pd aF->Q true aF):wpS (model prog w) A E s (binarySort' lo n ok) Q st:=by
 rw[binarySort'_eq];refine aB (dL (fm (I:=fun _ c aF=>c=(none,())/\SQ κ a₀ pd aF) (Q:=fun c aF=>c=(none,())/\SQ κ a₀ pd aF) ?_ (fun c aF hh=>hh) ⟨rfl,hB⟩) ?_)
 .rintro k c aF hk1 Pp ⟨rfl,Aw⟩;dsimp only;refine aB (dL (fm (I:=fun _ c rn=>(∃l r,c=(none,l,r)/\r<=k)/\SQ κ a₀ pd rn) (Q:=fun c rn=>(∃l r,c=(none,l,r)/\r<=k)/\SQ κ a₀ pd rn) ?_ (fun c aF hh=>hh) ⟨⟨_,_,rfl,aP _⟩,Aw⟩) ?_)
  .rintro x c lD _ _ ⟨⟨l,r,rfl,hr⟩,qj⟩;dsimp only;by_cases Ax:l>=r
   .rw[ap Ax];exact aK ⟨⟨_,_,rfl,hr⟩,qj⟩
   .rw[ao Ax];refine aB (fP hC qj (by lia) (by lia) fun b=>?_);cases b
    .exact aK ⟨⟨_,_,rfl,hr⟩,qj⟩
    .exact aK ⟨⟨_,_,rfl,by lia⟩,qj⟩
  .rintro c lD ⟨⟨l,r,rfl,hr⟩,qj⟩;dsimp only;exact aB (GT qj fun jq i6=>aK ⟨rfl,i6⟩)
 .rintro c aF ⟨rfl,Aw⟩;exact aK (h aF Aw)
end
theorem Db(left:Bool)(key:Keyed)(arr:bu)(base n oB:Nat):jx left key arr base n oB=(do
 let yu (i:Nat):StateT SortSt Sem (Option Bool):=do
  let x <- elem' arr (base+i)
  if left then lt' x key else return (<-lt' key x).map (!·)
 let mut lastofs:=0
 let mut ofs:=1
 let mut lo:=0
 let mut hi:=0
 let some right <- yu oB|return none
 if right then
  let vk:=n-oB
  for _ in [0:n] do
   if ofs>=vk then break
   let some more <- yu (oB+ofs)|return none
   if !more then break
   lastofs:=ofs
   ofs:=2*ofs+1
  lo:=oB+lastofs+1
  hi:=oB+min ofs vk
 else
  let vk:=oB+1
  for _ in [0:n] do
   if ofs>=vk then break
   let some JQ <- yu (oB-ofs)|return none
   if JQ then break
   lastofs:=ofs
   ofs:=2*ofs+1
  lo:=oB+1-min ofs vk
  hi:=oB-lastofs
 for _ in [0:n] do
  if lo>=hi then break
  let m:=lo+(hi-lo) / 2
  let some more <- yu m|return none
  if more then lo:=m+1 else hi:=m
 return some hi):=rfl
section
variable {prog:bL} {w:World} {A:br} {E:bV} {s:aR} {κ:SortKind} {a₀:bu} {pd:i7}
theorem jh{st:bZ}{left:Bool}{key:Keyed}{arr:bu}{j:Nat}{Q:zC}(hC:mi prog w A s κ a₀)(hk:kindOf st=κ)(vU:key∈a₀.toList)(wU:∀x∈arr.toList,x∈a₀.toList)(hj:j<arr.size)(h:∀b,Q (some b) st):
  wpS (model prog w) A E s (do
  let x <- elem' arr j
  if left then lt' x key else return (<-lt' key x).map (!·)) Q st:=by
 have hm:arr[j]∈a₀.toList:=wU _ (by simp);refine aB (bE (eL arr j hj) ?_);cases left
 .rw[ao (by decide)];exact aB (pN hC hk vU hm fun b=>aK (h (!b)))
 .rw[ap rfl];exact pN hC hk hm vU h
theorem im{st:bZ}{left:Bool}{key:Keyed}{arr:bu}{base n oB:Nat}{Q:zD}(hC:mi prog w A s κ a₀)(hk:kindOf st=κ)(vU:key∈a₀.toList)(wU:∀x∈arr.toList,x∈a₀.toList)(hn:base+n<=arr.size)(hh:oB<n)(h:∀k,k<=n->Q (some k) st):wpS (model prog w) A E s (jx left key arr base n oB) Q st:=by
 rw[Db];refine aB (jh hC hk vU wU (by lia) fun right=>?_);cases right
 .dsimp only;rw[ao (by decide)];refine aB (dL (fm (I:=fun _ c aF=>(∃l o,c=(none,l,o))/\st=aF) (Q:=fun c aF=>(∃l o,c=(none,l,o))/\st=aF) ?_ (fun c aF hh=>hh) ⟨⟨_,_,rfl⟩,rfl⟩) ?_)
  .rintro x c aF _ _ ⟨⟨l,o,rfl⟩,rfl⟩;dsimp only;by_cases Ax:o>=oB+1
   .rw[ap Ax];exact aK ⟨⟨_,_,rfl⟩,rfl⟩
   .rw[ao Ax];refine aB (jh hC hk vU wU (by lia) fun JQ=>?_);cases JQ
    .exact aK ⟨⟨_,_,rfl⟩,rfl⟩
    .exact aK ⟨⟨_,_,rfl⟩,rfl⟩
  .rintro c aF ⟨⟨l,o,rfl⟩,rfl⟩;dsimp only;refine aB (dL (fm (I:=fun _ c aF=>(∃l u,c=(none,l,u)/\u<=n)/\st=aF) (Q:=fun c aF=>(∃l u,c=(none,l,u)/\u<=n)/\st=aF) ?_ (fun c aF hh=>hh) ⟨⟨_,_,rfl,by lia⟩,rfl⟩) ?_)
   .rintro x c aF _ _ ⟨⟨l,u,rfl,hu⟩,rfl⟩;dsimp only;by_cases Ax:l>=u
    .rw[ap Ax];exact aK ⟨⟨_,_,rfl,hu⟩,rfl⟩
    .rw[ao Ax];refine aB (jh hC hk vU wU (by lia) fun more=>?_);cases more
     .exact aK ⟨⟨_,_,rfl,by lia⟩,rfl⟩
     .exact aK ⟨⟨_,_,rfl,hu⟩,rfl⟩
   .rintro c aF ⟨⟨l,u,rfl,hu⟩,rfl⟩;exact aK (h u hu)
 .dsimp only;rw[ap rfl];refine aB (dL (fm (I:=fun _ c aF=>(∃l o,c=(none,l,o))/\st=aF) (Q:=fun c aF=>(∃l o,c=(none,l,o))/\st=aF) ?_ (fun c aF hh=>hh) ⟨⟨_,_,rfl⟩,rfl⟩) ?_)
  .rintro x c aF _ _ ⟨⟨l,o,rfl⟩,rfl⟩;dsimp only;by_cases Ax:o>=n-oB
   .rw[ap Ax];exact aK ⟨⟨_,_,rfl⟩,rfl⟩
   .rw[ao Ax];refine aB (jh hC hk vU wU (by lia) fun more=>?_);cases more
    .exact aK ⟨⟨_,_,rfl⟩,rfl⟩
    .exact aK ⟨⟨_,_,rfl⟩,rfl⟩
  .rintro c aF ⟨⟨l,o,rfl⟩,rfl⟩;dsimp only;refine aB (dL (fm (I:=fun _ c aF=>(∃l u,c=(none,l,u)/\u<=n)/\st=aF) (Q:=fun c aF=>(∃l u,c=(none,l,u)/\u<=n)/\st=aF) ?_ (fun c aF hh=>hh) ⟨⟨_,_,rfl,by lia⟩,rfl⟩) ?_)
   .rintro x c aF _ _ ⟨⟨l,u,rfl,hu⟩,rfl⟩;dsimp only;by_cases Ax:l>=u
    .rw[ap Ax];exact aK ⟨⟨_,_,rfl,hu⟩,rfl⟩
    .rw[ao Ax];refine aB (jh hC hk vU wU (by lia) fun more=>?_);cases more
     .exact aK ⟨⟨_,_,rfl,by lia⟩,rfl⟩
     .exact aK ⟨⟨_,_,rfl,hu⟩,rfl⟩
   .rintro c aF ⟨⟨l,u,rfl,hu⟩,rfl⟩;exact aK (h u hu)
end
structure SM(κ:SortKind)(ar:bu)(pd:i7)(st:bZ):Prop where
 arr:arrOf st=ar
 kind:kindOf st=κ
 failed:failedOf st=none
 pend:pendingOf st=pd
abbrev sX:=Option (Array Keyed)
abbrev wV:=StateT SortSt Sem
def AB{τ:Type}(c:Bool)(d:Prop)[Decidable d](r:bu)(t:τ):wV (ForInStep (sX×τ)):=if c then pure (.done (some r,t)) else if d then pure (.done (none,t)) else pure (.yield (none,t))
def mgO{α β γ:Type}(N:Nat)(f:Nat->sX×α×β×γ×Nat×Nat->wV (ForInStep (sX×α×β×γ×Nat×Nat)))(g:sX×α×β×γ×Nat×Nat×Nat->wV (ForInStep (sX×α×β×γ×Nat×Nat×Nat)))(s:sX×α×β×γ×Nat):wV (ForInStep (sX×α×β×γ×Nat)):=do
 let t <- forIn [0:N] ((none,s.2.1,s.2.2.1,s.2.2.2.1,0,0):sX×α×β×γ×Nat×Nat) fun _ t=>f s.2.2.2.2 t
 match t.1 with
 |some r=>pure (.done (some r,t.2.1,t.2.2.1,t.2.2.2.1,s.2.2.2.2))
 |none=>do
  liftM (rule "list.sort.gallop")
  let u <- forIn [0:N] ((none,t.2.1,t.2.2.1,t.2.2.2.1,s.2.2.2.2+1,t.2.2.2.2.1,t.2.2.2.2.2):sX×α×β×γ×Nat×Nat×Nat) fun _ u=>g u
  match u.1 with
  |some r=>pure (.done (some r,u.2.1,u.2.2.1,u.2.2.2.1,u.2.2.2.2.1))
  |none=>do
   jU (u.2.2.2.2.1+1)
   pure (.yield (none,u.2.1,u.2.2.1,u.2.2.2.1,u.2.2.2.2.1+1))
def YL{α β γ:Type}(N:Nat)(f:Nat->sX×α×β×γ×Nat×Nat->wV (ForInStep (sX×α×β×γ×Nat×Nat)))(g:sX×α×β×γ×Nat×Nat×Nat->wV (ForInStep (sX×α×β×γ×Nat×Nat×Nat)))(x:α)(y:β)(z:γ):wV (Array Keyed):=do
 let st <- get
 let s <- forIn [0:N] ((none,x,y,z,gallopOf st):sX×α×β×γ×Nat) fun _ s=>mgO N f g s
 match s.1 with
 |some r=>pure r
 |none=>liftM (unsupported "internal:list.sort.merge-bound")
section
variable {prog:bL} {w:World} {A:br} {E:bV} {s:aR} {κ:SortKind} {a₀:bu} {pd:i7} {ar:bu} {F:Array Keyed->Prop}
def GP{τ:Type}(κ:SortKind)(ar:bu)(pd:i7)(F:Array Keyed->Prop)(D J:τ->Prop)(r:ForInStep (sX×τ))(st:bZ):Prop:=SM κ ar pd st/\
 ((∃x t,r=.done (some x,t)/\F x)\/(∃t,r=.done (none,t)/\D t)\/∃t,r=.yield (none,t)/\J t)
theorem hU{τ:Type}{D J:τ->Prop}{st:bZ}{x:bu}{t:τ}(m:SM κ ar pd st)(h:F x):wpS (model prog w) A E s (pure (.done (some x,t))) (GP κ ar pd F D J) st:=aK ⟨m,.inl ⟨_,_,rfl,h⟩⟩
theorem ku{τ:Type}{D J:τ->Prop}{c:Bool}{d:Prop}[Decidable d]{r:bu}{t:τ}{st:bZ}(m:SM κ ar pd st)(h1:c=true->F r)(h2:c=false->D t/\J t):wpS (model prog w) A E s (AB c d r t) (GP κ ar pd F D J) st:=by
 unfold AB;cases c
 .rw[ao di];split
  .exact aK ⟨m,.inr (.inl ⟨_,rfl,(h2 rfl).1⟩)⟩
  .exact aK ⟨m,.inr (.inr ⟨_,rfl,(h2 rfl).2⟩)⟩
 .rw[ap rfl];exact hU m (h1 rfl)
theorem rp{τ:Type}{D:τ->Prop}{J:Nat->τ->Prop}{N:Nat}{f:sX×τ->wV (ForInStep (sX×τ))}{t:τ}{st:bZ}{Q:sX×τ->SortSt->Prop}(m:SM κ ar pd st)(hJ:J 0 t)(up:∀t,J N t->D t)(b:∀t st,SM κ ar pd st->∀i,J i t->wpS (model prog w) A E s (f (none,t)) (GP κ ar pd F D (J (i+1))) st)(h1:∀x t aF,SM κ ar pd aF->F x->Q (some x,t) aF)(h2:∀t aF,SM κ ar pd aF->D t->Q (none,t) aF):wpS (model prog w) A E s (forIn [0:N] ((none,t):sX×τ) fun _ c=>f c) Q st:=by
 refine fm (I:=fun i c aF=>c.1=none/\SM κ ar pd aF/\J i c.2) ?_ ?_ ⟨rfl,m,hJ⟩
 .rintro i ⟨_,t⟩ aF _ _ ⟨rfl,m',j⟩;refine dL (b t aF m' i j) ?_;rintro r lD ⟨m2,⟨x,t,rfl,h⟩|⟨t,rfl,h⟩|⟨t,rfl,h⟩⟩
  .exact h1 _ _ _ m2 h
  .exact h2 _ _ m2 h
  .exact⟨rfl,m2,h⟩
 .rintro⟨_,t⟩ aF ⟨rfl,m',j⟩;rw[Nat.max_eq_right (cp _)] at j;exact h2 _ _ m' (up _ j)
theorem EU{α β γ:Type}{N:Nat}{f:Nat->sX×α×β×γ×Nat×Nat->wV (ForInStep (sX×α×β×γ×Nat×Nat))}{g:sX×α×β×γ×Nat×Nat×Nat->wV (ForInStep (sX×α×β×γ×Nat×Nat×Nat))}{x:α}{y:β}{z:γ}{J:Nat->α->β->γ->Prop}{st:bZ}{Q:IN}(m:SM κ ar pd st)(h0:J 0 x y z)(dn:∀i k x y z,J (i+k) x y z->J i x y z)(no:∀x y z,¬ J N x y z)(N1:1<=N)(hf:∀mg n k x y z p st,SM κ ar pd st->J (n+k) x y z->wpS (model prog w) A E s (f mg (none,x,y,z,p)) (GP κ ar pd F (fun t=>J (n+1) t.1 t.2.1 t.2.2.1) fun t=>J (n+(k+1)) t.1 t.2.1 t.2.2.1) st)(hg:∀n x y z p st,SM κ ar pd st->J n x y z->wpS (model prog w) A E s (g (none,x,y,z,p)) (GP κ ar pd F (fun t=>J n t.1 t.2.1 t.2.2.1) fun t=>J n t.1 t.2.1 t.2.2.1) st)(h:∀x aF,F x->SM κ ar pd aF->Q x aF):wpS (model prog w) A E s (YL N f g x y z) Q st:=by
 unfold YL;refine aB (fz ?_);refine aB (rp (F:=F) (D:=fun _=>False) (J:=fun n (t:α×β×γ×Nat)=>J n t.1 t.2.1 t.2.2.1) m h0 (fun t h=>no _ _ _ h) ?_ (fun x t st m hx=>aK (h _ _ hx m)) fun t st m j=>j.elim);intro t st m i j;unfold mgO;refine aB (rp (F:=F) (D:=fun t=>J (i+1) t.1 t.2.1 t.2.2.1) (J:=fun n (t:α×β×γ×Nat×Nat)=>J (i+n) t.1 t.2.1 t.2.2.1) m j (fun t h=>dn _ (N-1) _ _ _ (by rw[show i+1+(N-1)=i+N by lia];exact h)) (fun t st m n j=>hf _ _ _ _ _ _ _ _ m j) (fun x t st m hx=>hU m hx) ?_);intro t st m j;refine aB (jO (fv ⟨rfl,?_⟩));refine aB (rp (F:=F) (D:=fun t=>J (i+1) t.1 t.2.1 t.2.2.1) (J:=fun n (t:α×β×γ×Nat×Nat×Nat)=>J (i+1) t.1 t.2.1 t.2.2.1) m j (fun _ h=>h) (fun t st m n j=>hg _ _ _ _ _ _ m j) (fun x t st m hx=>hU m hx) ?_);intro t st m j;refine aB (gh ?_);exact aK ⟨⟨m.arr,m.kind,m.failed,m.pend⟩,.inr (.inr ⟨_,rfl,j⟩)⟩
end
abbrev mj(a b out:bu)(ia ib:Nat):=out++a.extract ia a.size++b.extract ib b.size
abbrev yv(a b out:bu)(ia ib:Nat):=out++b.extract ib b.size++a.extract ia a.size
abbrev Pw ρ:=sX×Array Keyed×Nat×Nat×ρ
def loW(a b:bu)(mg:Nat)(t:Pw (Nat×Nat)):wV (ForInStep (Pw (Nat×Nat))):=do
 let x <- elem' b t.2.2.2.1
 let y <- elem' a t.2.2.1
 let some w <- lt' x y|pure (.done (some (mj a b t.2.1 t.2.2.1 t.2.2.2.1),t.2.1,t.2.2.1,t.2.2.2.1,t.2.2.2.2.1,t.2.2.2.2.2))
 if w then do
  let x <- elem' b t.2.2.2.1
  AB (t.2.2.2.1+1==b.size) (t.2.2.2.2.2+1>=mg) (mj a b (t.2.1.push x) t.2.2.1 (t.2.2.2.1+1)) (t.2.1.push x,t.2.2.1,t.2.2.2.1+1,0,t.2.2.2.2.2+1)
 else do
  let x <- elem' a t.2.2.1
  AB (t.2.2.1+1+1==a.size) (t.2.2.2.2.1+1>=mg) (yv a b (t.2.1.push x) (t.2.2.1+1) t.2.2.2.1) (t.2.1.push x,t.2.2.1+1,t.2.2.2.1,t.2.2.2.2.1+1,0)
def loC(a b out:bu)(ia ib mg ac bc:Nat):wV (ForInStep (Pw (Nat×Nat×Nat))):=do
 let x <- elem' a ia
 AB (ia+1+1==a.size) ((ac<7&&bc<7)=true) (yv a b (out.push x) (ia+1) ib) (out.push x,ia+1,ib,mg,ac,bc)
def loB(a b out:bu)(ia ib mg ac bc:Nat):wV (ForInStep (Pw (Nat×Nat×Nat))):=do
 let x <- elem' b ib
 if ib+1==b.size then pure (.done (some (mj a b (out.push x) ia (ib+1)),out.push x,ia,ib+1,mg,ac,bc))
 else do
  let y <- elem' a ia
  let some k <- jx true y b (ib+1) (b.size-(ib+1)) 0|pure (.done (some (mj a b (out.push x) ia (ib+1)),out.push x,ia,ib+1,mg,ac,bc))
  if k > 0 then
   if ib+1+k==b.size then pure (.done (some (mj a b (out.push x++b.extract (ib+1) (ib+1+k)) ia (ib+1+k)),out.push x++b.extract (ib+1) (ib+1+k),ia,ib+1+k,mg,ac,k))
   else loC a b (out.push x++b.extract (ib+1) (ib+1+k)) ia (ib+1+k) mg ac k
  else loC a b (out.push x) ia (ib+1) mg ac k
def loA(a b out:bu)(ia ib mg ac bc:Nat):wV (ForInStep (Pw (Nat×Nat×Nat))):=do
 jU mg
 let y <- elem' b ib
 let some k <- jx false y a ia (a.size-ia) 0|pure (.done (some (mj a b out ia ib),out,ia,ib,mg,ac,bc))
 if k > 0 then
  if ia+k+1==a.size then pure (.done (some (yv a b (out++a.extract ia (ia+k)) (ia+k) ib),out++a.extract ia (ia+k),ia+k,ib,mg,k,bc))
  else if ia+k==a.size then pure (.done (some (mj a b (out++a.extract ia (ia+k)) (ia+k) ib),out++a.extract ia (ia+k),ia+k,ib,mg,k,bc))
  else loB a b (out++a.extract ia (ia+k)) (ia+k) ib mg k bc
 else loB a b out ia ib mg k bc
def loG(a b:bu)(t:Pw (Nat×Nat×Nat)):wV (ForInStep (Pw (Nat×Nat×Nat))):=
 if t.2.2.2.2.1 > 1 then loA a b t.2.1 t.2.2.1 t.2.2.2.1 (t.2.2.2.2.1-1) t.2.2.2.2.2.1 t.2.2.2.2.2.2 else loA a b t.2.1 t.2.2.1 t.2.2.2.1 t.2.2.2.2.1 t.2.2.2.2.2.1 t.2.2.2.2.2.2
theorem AC(a b:bu):vh a b=(do
 liftM (rule "list.sort.merge-lo")
 let x <- elem' b 0
 if 1==b.size then pure (mj a b #[x] 0 1) else if 0+1==a.size then pure (yv a b #[x] 0 1) else YL (a.size+b.size) (loW a b) (loG a b) #[x] 0 1):=by kernel_rfl
def PI(a b out:bu)(ia ib:Nat):Prop:=out.toList.Perm (a.toList.take ia++b.toList.take ib)
theorem AD{l:List Keyed}{i:Nat}(h:i<l.length):l.take (i+1)=l.take i++[l[i]]:=by rw[gW,cz h];rfl
theorem PI.wW{a b out:bu}{ia ib:Nat}(h:PI a b out ia ib)(hi:ia<a.size):PI a b (out.push a[ia]) (ia+1) ib:=by
 unfold PI at h |-;rw[nZ,AD (by simpa using hi),dP];refine(h.append_right _).trans ?_;rw[dP];refine lH _ ?_;have:a.toList[ia]'(by simpa using hi)=a[ia]:=by simp
 rw[this];exact j5
theorem PI.wX{a b out:bu}{ia ib:Nat}(h:PI a b out ia ib)(hi:ib<b.size):PI a b (out.push b[ib]) ia (ib+1):=by
 unfold PI at h |-;rw[nZ,AD (by simpa using hi),<-dP];have:b.toList[ib]'(by simpa using hi)=b[ib]:=by simp
 rw[this];exact h.append_right _
theorem fQ{a:bu}{i j:Nat}:(a.extract i j).toList=(a.toList.drop i).take (j-i):=by
 rw[BR,List.extract_eq_take_drop]
theorem PI.GU{a b out:bu}{ia ib:Nat}(h:PI a b out ia ib)(k:Nat):PI a b (out++a.extract ia (ia+k)) (ia+k) ib:=by
 unfold PI at h |-;rw[gD,fQ,Nat.add_sub_cancel_left,List.take_add,dP];refine(h.append_right _).trans ?_;rw[dP];exact lH _ j5
theorem PI.GV{a b out:bu}{ia ib:Nat}(h:PI a b out ia ib)(k:Nat):PI a b (out++b.extract ib (ib+k)) ia (ib+k):=by
 unfold PI at h |-;rw[gD,fQ,Nat.add_sub_cancel_left,List.take_add,<-dP];exact h.append_right _
theorem PI.done{a b out:bu}{ia ib:Nat}(h:PI a b out ia ib):(out++a.extract ia a.size++b.extract ib b.size).Perm (a++b):=by
 rw[j3];unfold PI at h;rw[gD,gD,gD,fQ,fQ];have e1:(a.toList.drop ia).take (a.size-ia)=a.toList.drop ia:=qr (by simp);have e2:(b.toList.drop ib).take (b.size-ib)=b.toList.drop ib:=qr (by simp);rw[e1,e2];refine((h.append_right _).append_right _).trans ?_;conv=>rhs;rw[<-nL ia a.toList,<-nL ib b.toList]
 rw[dP,dP,dP];refine lH _ ?_;rw[<-dP,<-dP];exact xt _ j5
theorem PI.last{a b out:bu}{ia ib:Nat}(h:PI a b out ia ib):(out++b.extract ib b.size++a.extract ia a.size).Perm (a++b):=by
 refine Array.Perm.trans ?_ h.done;rw[j3];rw[gD,gD,gD,gD,dP,dP];exact lH _ j5
section
variable {prog:bL} {w:World} {A:br} {E:bV} {s:aR} {κ:SortKind} {a₀:bu} {pd:i7} {ar:bu} {a b out:bu} {ia ib mg ac bc n:Nat} {st:bZ}
def JL(a b:bu)(n:Nat)(out:bu)(ia ib:Nat):Prop:=PI a b out ia ib/\ia+1<a.size/\ib<b.size/\n<=ia+ib
abbrev GL{ρ:Type}(κ:SortKind)(ar:bu)(pd:i7)(a b:bu)(n m:Nat):ForInStep (Pw ρ)->SortSt->Prop:=GP κ ar pd (fun x=>x.Perm (a++b)) (fun t=>JL a b n t.1 t.2.1 t.2.2.1) fun t=>JL a b m t.1 t.2.1 t.2.2.1
theorem EV(hB:SM κ ar pd st)(h:JL a b n out ia ib):wpS (model prog w) A E s (loC a b out ia ib mg ac bc) (GL κ ar pd a b n n) st:=by
 obtain⟨p,la,lb,li⟩:=h;refine aB (bE (eL a ia (by lia)) ?_);have p:=p.wW (show ia<a.size by lia);refine ku hB (fun _=>p.last) fun f=>?_;have g:=qH f;have j:JL a b n (out.push a[ia]) (ia+1) ib:=⟨p,by lia,lb,by lia⟩
 exact⟨j,j⟩
theorem EW(hC:mi prog w A s κ a₀)(ha:∀x∈a.toList,x∈a₀.toList)(hb:∀x∈b.toList,x∈a₀.toList)(hB:SM κ ar pd st)(h:JL a b n out ia ib):wpS (model prog w) A E s (loB a b out ia ib mg ac bc) (GL κ ar pd a b n n) st:=by
 obtain⟨p,la,lb,li⟩:=h;refine aB (bE (eL b ib lb) ?_);have p:=p.wX lb;split
 .exact hU hB p.done
 next f=>
 have g:ib+1≠b.size:=by simpa using f
 refine aB (bE (eL a ia (by lia)) ?_);refine aB (im hC hB.kind (ha _ (by simp)) hb (by lia) (by lia) fun k hk=>?_);dsimp only;split
 .split
  .exact hU hB (p.GV k).done
  next f=>
  have g:ib+1+k≠b.size:=by simpa using f
  exact EV hB ⟨p.GV k,la,by lia,by lia⟩
 .exact EV hB ⟨p,la,by lia,by lia⟩
theorem MX(hC:mi prog w A s κ a₀)(ha:∀x∈a.toList,x∈a₀.toList)(hb:∀x∈b.toList,x∈a₀.toList)(hB:SM κ ar pd st)(h:JL a b n out ia ib):wpS (model prog w) A E s (loA a b out ia ib mg ac bc) (GL κ ar pd a b n n) st:=by
 obtain⟨p,la,lb,li⟩:=h;refine aB (gh ?_);refine aB (bE (eL b ib lb) ?_);have qj:SM κ ar pd (SortSt.mk' (kindOf st) (arrOf st) (pendingOf st) mg (failedOf st)):=⟨hB.arr,hB.kind,hB.failed,hB.pend⟩
 refine aB (im hC qj.kind (hb _ (by simp)) ha (by lia) (by lia) fun k hk=>?_);dsimp only;split
 .split
  .exact hU qj (p.GU k).last
  next f=>
  split
  .exact hU qj (p.GU k).done
  next f'=>
  have g:ia+k+1≠a.size:=by simpa using f
  have g':ia+k≠a.size:=by simpa using f'
  exact EW hC ha hb qj ⟨p.GU k,by lia,lb,by lia⟩
 .exact EW hC ha hb qj ⟨p,la,lb,li⟩
theorem MY{k:Nat}(hC:mi prog w A s κ a₀)(ha:∀x∈a.toList,x∈a₀.toList)(hb:∀x∈b.toList,x∈a₀.toList)(hB:SM κ ar pd st)(h:JL a b (n+k) out ia ib){q:Nat×Nat}:wpS (model prog w) A E s (loW a b mg (none,out,ia,ib,q)) (GL κ ar pd a b (n+1) (n+(k+1))) st:=by
 obtain⟨p,la,lb,li⟩:=h;refine aB (bE (eL b ib lb) (aB (bE (eL a ia (by lia)) (aB (pN hC hB.kind (hb _ (by simp)) (ha _ (by simp)) fun w=>?_)))));cases w
 .refine aB (bE (eL a ia (by lia)) ?_);have p:=p.wW (show ia<a.size by lia);refine ku hB (fun _=>p.last) fun f=>?_;have g:=qH f;exact⟨⟨p,by dsimp only;lia,lb,by dsimp only;lia⟩,p,by dsimp only;lia,lb,by dsimp only;lia⟩
 .refine aB (bE (eL b ib lb) ?_);have p:=p.wX lb;refine ku hB (fun _=>p.done) fun f=>?_;have g:=qH f;exact⟨⟨p,la,by dsimp only at g |-;lia,by dsimp only;lia⟩,p,la,by dsimp only at g |-;lia,by dsimp only;lia⟩
theorem AE{Q:IN}(hC:mi prog w A s κ a₀)(hB:SM κ ar pd st)(ha:∀x∈a.toList,x∈a₀.toList)(hb:∀x∈b.toList,x∈a₀.toList)(a1:1<=a.size)(b1:1<=b.size)(h:∀out aF,out.Perm (a++b)->SM κ ar pd aF->Q out aF):wpS (model prog w) A E s (vh a b) Q st:=by
 rw[AC];refine aB (jO (fv ⟨rfl,?_⟩));refine aB (bE (eL b 0 (by lia)) ?_);have p0:PI a b #[b[0]] 0 1:=by
  have:PI a b #[] 0 0:=by unfold PI;simp
  exact this.wX (by lia)
 split
 .exact aK (h _ _ p0.done hB)
 next f=>
 split
 .exact aK (h _ _ p0.last hB)
 next f'=>
 have g:1≠b.size:=by simpa using f
 have g':0+1≠a.size:=by simpa using f'
 refine EU (J:=JL a b) hB ⟨p0,by lia,by lia,by lia⟩ (fun i k x y z h=>⟨h.1,h.2.1,h.2.2.1,by have:=h.2.2.2;lia⟩) (fun x y z h=>by have:=h.2;lia) (by lia) (fun mg n k x y z p st m j=>MY hC ha hb m j) (fun n x y z p st m j=>?_) h;unfold loG;split <;> exact MX hC ha hb m j
end
abbrev mm(a b out:bu)(na nb:Nat):=a.extract 0 na++b.extract 0 nb++out.reverse
abbrev tT(a b out:bu)(na nb:Nat):=b.extract 0 nb++a.extract 0 na++out.reverse
abbrev Px ρ:=sX×Nat×Nat×Array Keyed×ρ
def hiW(a b:bu)(mg:Nat)(t:Px (Nat×Nat)):wV (ForInStep (Px (Nat×Nat))):=do
 let x <- elem' b (t.2.2.1-1)
 let y <- elem' a (t.2.1-1)
 let some w <- lt' x y|pure (.done (some (mm a b t.2.2.2.1 t.2.1 t.2.2.1),t.2.1,t.2.2.1,t.2.2.2.1,t.2.2.2.2.1,t.2.2.2.2.2))
 if w then do
  let x <- elem' a (t.2.1-1)
  AB (t.2.1-1==0) (t.2.2.2.2.1+1>=mg) (mm a b (t.2.2.2.1.push x) (t.2.1-1) t.2.2.1) (t.2.1-1,t.2.2.1,t.2.2.2.1.push x,t.2.2.2.2.1+1,0)
 else do
  let x <- elem' b (t.2.2.1-1)
  AB (t.2.2.1-1==1) (t.2.2.2.2.2+1>=mg) (tT a b (t.2.2.2.1.push x) t.2.1 (t.2.2.1-1)) (t.2.1,t.2.2.1-1,t.2.2.2.1.push x,0,t.2.2.2.2.2+1)
def hiC(a b:bu)(na nb:Nat)(out:bu)(mg ac bc:Nat):wV (ForInStep (Px (Nat×Nat×Nat))):=do
 let x <- elem' a (na-1)
 AB (na-1==0) ((ac<7&&bc<7)=true) (mm a b (out.push x) (na-1) nb) (na-1,nb,out.push x,mg,ac,bc)
def hiB(a b:bu)(na nb:Nat)(out:bu)(mg ac bc:Nat):wV (ForInStep (Px (Nat×Nat×Nat))):=do
 let x <- elem' b (nb-1)
 if nb-1==1 then pure (.done (some (tT a b (out.push x) na (nb-1)),na,nb-1,out.push x,mg,ac,bc))
 else do
  let y <- elem' a (na-1)
  let some k <- jx true y b 0 (nb-1) (nb-1-1)|pure (.done (some (mm a b (out.push x) na (nb-1)),na,nb-1,out.push x,mg,ac,bc))
  if nb-1-k > 0 then
   if k==1 then pure (.done (some (tT a b (out.push x++(b.extract k (nb-1)).reverse) na k),na,k,out.push x++(b.extract k (nb-1)).reverse,mg,ac,nb-1-k))
   else if k==0 then pure (.done (some (mm a b (out.push x++(b.extract k (nb-1)).reverse) na k),na,k,out.push x++(b.extract k (nb-1)).reverse,mg,ac,nb-1-k))
   else hiC a b na k (out.push x++(b.extract k (nb-1)).reverse) mg ac (nb-1-k)
  else hiC a b na (nb-1) (out.push x) mg ac (nb-1-k)
def hiA(a b:bu)(na nb:Nat)(out:bu)(mg ac bc:Nat):wV (ForInStep (Px (Nat×Nat×Nat))):=do
 jU mg
 let y <- elem' b (nb-1)
 let some k <- jx false y a 0 na (na-1)|pure (.done (some (mm a b out na nb),na,nb,out,mg,ac,bc))
 if na-k > 0 then
  if k==0 then pure (.done (some (mm a b (out++(a.extract k na).reverse) k nb),k,nb,out++(a.extract k na).reverse,mg,na-k,bc))
  else hiB a b k nb (out++(a.extract k na).reverse) mg (na-k) bc
 else hiB a b na nb out mg (na-k) bc
def hiG(a b:bu)(t:Px (Nat×Nat×Nat)):wV (ForInStep (Px (Nat×Nat×Nat))):=
 if t.2.2.2.2.1 > 1 then hiA a b t.2.1 t.2.2.1 t.2.2.2.1 (t.2.2.2.2.1-1) t.2.2.2.2.2.1 t.2.2.2.2.2.2 else hiA a b t.2.1 t.2.2.1 t.2.2.2.1 t.2.2.2.2.1 t.2.2.2.2.2.1 t.2.2.2.2.2.2
theorem AF(a b:bu):vi a b=(do
 liftM (rule "list.sort.merge-hi")
 let x <- elem' a (a.size-1)
 if a.size-1==0 then pure (mm a b #[x] (a.size-1) b.size) else if b.size==1 then pure (tT a b #[x] (a.size-1) b.size) else YL (a.size+b.size) (hiW a b) (hiG a b) (a.size-1) b.size #[x]):=by kernel_rfl
def PH(a b out:bu)(na nb:Nat):Prop:=out.toList.Perm (a.toList.drop na++b.toList.drop nb)
theorem PH.wW{a b out:bu}{na nb:Nat}(h:PH a b out na nb)(h1:1<=na)(hi:na-1<a.size):PH a b (out.push a[na-1]) (na-1) nb:=by
 unfold PH at h |-;have e:a.toList.drop (na-1)=a[na-1]::a.toList.drop na:=by
  have:=qo (l:=a.toList) (i:=na-1) (by simpa using hi);rw[this,Nat.sub_add_cancel h1];simp
 rw[nZ,e];refine(h.append_right _).trans ?_;exact j5
theorem PH.wX{a b out:bu}{na nb:Nat}(h:PH a b out na nb)(h1:1<=nb)(hi:nb-1<b.size):PH a b (out.push b[nb-1]) na (nb-1):=by
 unfold PH at h |-;have e:b.toList.drop (nb-1)=b[nb-1]::b.toList.drop nb:=by
  have:=qo (l:=b.toList) (i:=nb-1) (by simpa using hi);rw[this,Nat.sub_add_cancel h1];simp
 rw[nZ,e];refine(h.append_right _).trans ?_;rw[dP];exact lH _ j5
theorem pO{l:List Keyed}{i j:Nat}(h:i<=j):l.drop i=(l.drop i).take (j-i)++l.drop j:=by
 have:=(nL (j-i) (l.drop i)).symm;rw[List.drop_drop,show i+(j-i)=j by lia] at this;exact this
theorem PH.GU{a b out:bu}{na nb:Nat}(h:PH a b out na nb){k:Nat}(hk:k<=na):PH a b (out++(a.extract k na).reverse) k nb:=by
 unfold PH at h |-;rw[gD,BQ,fQ];conv=>rhs;rw[pO hk]
 refine((h.append_left _).trans ?_ |> fun z=>(List.Perm.trans j5 ((B4 _).append_right _)).trans z);rw[dP]
theorem PH.GV{a b out:bu}{na nb:Nat}(h:PH a b out na nb){k:Nat}(hk:k<=nb):PH a b (out++(b.extract k nb).reverse) na k:=by
 unfold PH at h |-;rw[gD,BQ,fQ];conv=>rhs;rw[pO hk]
 refine(h.append_right _).trans ?_;rw[dP];refine lH _ ?_;exact j5.trans ((B4 _).append_right _)
theorem V7{a:bu}{j:Nat}:(a.extract 0 j).toList=a.toList.take j:=by rw[fQ,Ch,uK]
theorem PH.done{a b out:bu}{na nb:Nat}(h:PH a b out na nb):(a.extract 0 na++b.extract 0 nb++out.reverse).Perm (a++b):=by
 rw[j3];unfold PH at h;rw[gD,gD,gD,BQ,V7,V7];conv=>rhs;rw[<-nL na a.toList,<-nL nb b.toList]
 refine(lH _ ((B4 _).trans h)).trans ?_;rw[dP,dP];refine lH _ ?_;rw[<-dP,<-dP];exact xt _ j5
theorem PH.first{a b out:bu}{na nb:Nat}(h:PH a b out na nb):(b.extract 0 nb++a.extract 0 na++out.reverse).Perm (a++b):=by
 refine Array.Perm.trans ?_ h.done;rw[j3];rw[gD,gD,gD,gD];exact xt _ j5
section
variable {prog:bL} {w:World} {A:br} {E:bV} {s:aR} {κ:SortKind} {a₀:bu} {pd:i7} {ar:bu} {a b out:bu} {na nb mg ac bc n:Nat} {st:bZ}
def JH(a b:bu)(n na nb:Nat)(out:bu):Prop:=PH a b out na nb/\1<=na/\2<=nb/\na<=a.size/\nb<=b.size/\n+na+nb<=a.size+b.size
abbrev GH{ρ:Type}(κ:SortKind)(ar:bu)(pd:i7)(a b:bu)(n m:Nat):ForInStep (Px ρ)->SortSt->Prop:=GP κ ar pd (fun x=>x.Perm (a++b)) (fun t=>JH a b n t.1 t.2.1 t.2.2.1) fun t=>JH a b m t.1 t.2.1 t.2.2.1
theorem EX(hB:SM κ ar pd st)(p:PH a b out na nb)(la:1<=na)(lb:2<=nb)(ma:na<=a.size)(mb:nb<=b.size)(li:n+na+nb<=a.size+b.size+1):wpS (model prog w) A E s (hiC a b na nb out mg ac bc) (GH κ ar pd a b n n) st:=by
 refine aB (bE (eL a (na-1) (by lia)) ?_);have p:=p.wW la (show na-1<a.size by lia);refine ku hB (fun _=>p.done) fun f=>?_;have g:=qH f;have j:JH a b n (na-1) nb (out.push a[na-1]):=⟨p,by lia,lb,by lia,mb,by lia⟩
 exact⟨j,j⟩
theorem EY(hC:mi prog w A s κ a₀)(ha:∀x∈a.toList,x∈a₀.toList)(hb:∀x∈b.toList,x∈a₀.toList)(hB:SM κ ar pd st)(h:JH a b n na nb out):wpS (model prog w) A E s (hiB a b na nb out mg ac bc) (GH κ ar pd a b n n) st:=by
 obtain⟨p,la,lb,ma,mb,li⟩:=h;refine aB (bE (eL b (nb-1) (by lia)) ?_);have p:=p.wX (show 1<=nb by lia) (show nb-1<b.size by lia);split
 .exact hU hB p.first
 next f=>
 have g:nb-1≠1:=by simpa using f
 refine aB (bE (eL a (na-1) (by lia)) ?_);refine aB (im hC hB.kind (ha _ (by simp)) hb (by lia) (by lia) fun k hk=>?_);dsimp only;split
 .split
  .exact hU hB (p.GV hk).first
  next f=>
  split
  .exact hU hB (p.GV hk).done
  next f'=>
  have g:k≠1:=by simpa using f
  have g':k≠0:=by simpa using f'
  exact EX hB (p.GV hk) la (by lia) ma (by lia) (by lia)
 .exact EX hB p la (by lia) ma (by lia) (by lia)
theorem MZ(hC:mi prog w A s κ a₀)(ha:∀x∈a.toList,x∈a₀.toList)(hb:∀x∈b.toList,x∈a₀.toList)(hB:SM κ ar pd st)(h:JH a b n na nb out):wpS (model prog w) A E s (hiA a b na nb out mg ac bc) (GH κ ar pd a b n n) st:=by
 obtain⟨p,la,lb,ma,mb,li⟩:=h;refine aB (gh ?_);refine aB (bE (eL b (nb-1) (by lia)) ?_);have qj:SM κ ar pd (SortSt.mk' (kindOf st) (arrOf st) (pendingOf st) mg (failedOf st)):=⟨hB.arr,hB.kind,hB.failed,hB.pend⟩
 refine aB (im hC qj.kind (hb _ (by simp)) ha (by lia) (by lia) fun k hk=>?_);dsimp only;split
 .split
  .exact hU qj (p.GU hk).done
  next f=>
  have g:k≠0:=by simpa using f
  exact EY hC ha hb qj ⟨p.GU hk,by lia,lb,by lia,mb,by lia⟩
 .exact EY hC ha hb qj ⟨p,la,lb,ma,mb,li⟩
theorem M0{k:Nat}(hC:mi prog w A s κ a₀)(ha:∀x∈a.toList,x∈a₀.toList)(hb:∀x∈b.toList,x∈a₀.toList)(hB:SM κ ar pd st)(h:JH a b (n+k) na nb out){q:Nat×Nat}:wpS (model prog w) A E s (hiW a b mg (none,na,nb,out,q)) (GH κ ar pd a b (n+1) (n+(k+1))) st:=by
 obtain⟨p,la,lb,ma,mb,li⟩:=h;refine aB (bE (eL b (nb-1) (by lia)) (aB (bE (eL a (na-1) (by lia)) (aB (pN hC hB.kind (hb _ (by simp)) (ha _ (by simp)) fun w=>?_)))));cases w
 .refine aB (bE (eL b (nb-1) (by lia)) ?_);have p:=p.wX (show 1<=nb by lia) (show nb-1<b.size by lia);refine ku hB (fun _=>p.first) fun f=>?_;have g:nb-1≠1:=qH f;have j:JH a b (n+(k+1)) na (nb-1) (out.push b[nb-1]):=⟨p,la,by lia,ma,by lia,by lia⟩
  exact⟨⟨p,la,j.2.2.1,ma,j.2.2.2.2.1,by have:=j.2.2.2.2.2;dsimp only;lia⟩,j⟩
 .refine aB (bE (eL a (na-1) (by lia)) ?_);have p:=p.wW la (show na-1<a.size by lia);refine ku hB (fun _=>p.done) fun f=>?_;have g:na-1≠0:=qH f;have j:JH a b (n+(k+1)) (na-1) nb (out.push a[na-1]):=⟨p,by lia,lb,by lia,mb,by lia⟩
  exact⟨⟨p,j.2.1,lb,j.2.2.2.1,mb,by have:=j.2.2.2.2.2;dsimp only;lia⟩,j⟩
theorem AG{Q:IN}(hC:mi prog w A s κ a₀)(hB:SM κ ar pd st)(ha:∀x∈a.toList,x∈a₀.toList)(hb:∀x∈b.toList,x∈a₀.toList)(a1:1<=a.size)(b1:1<=b.size)(h:∀out aF,out.Perm (a++b)->SM κ ar pd aF->Q out aF):wpS (model prog w) A E s (vi a b) Q st:=by
 rw[AF];refine aB (jO (fv ⟨rfl,?_⟩));refine aB (bE (eL a (a.size-1) (by lia)) ?_);have p0:PH a b #[a[a.size-1]] (a.size-1) b.size:=by
  have:PH a b #[] a.size b.size:=by unfold PH;simp
  exact this.wW a1 (by lia)
 split
 .exact aK (h _ _ p0.done hB)
 next f=>
 split
 .exact aK (h _ _ p0.first hB)
 next f'=>
 have g:a.size-1≠0:=by simpa using f
 have g':b.size≠1:=by simpa using f'
 refine EU (J:=JH a b) hB ⟨p0,by lia,by lia,by lia,by lia,by lia⟩ (fun i k x y z h=>⟨h.1,h.2.1,h.2.2.1,h.2.2.2.1,h.2.2.2.2.1,by have:=h.2.2.2.2.2;lia⟩) (fun x y z h=>by have:=h.2;lia) (by lia) (fun mg n k x y z p st m j=>M0 hC ha hb m j) (fun n x y z p st m j=>?_) h;unfold hiG;split <;> exact MZ hC ha hb m j
end
section
variable {prog:bL} {w:World} {A:br} {E:bV} {s:aR} {κ:SortKind} {a₀:bu} {pd:i7}
theorem Dc{st:bZ}{lo dv:Nat}{Q:zD}(hC:mi prog w A s κ a₀)(hn:lo+dv<=a₀.size)(h1:1<=dv)(hB:SQ κ a₀ pd st)(h:∀n aF,SQ κ a₀ pd aF->1<=n->n<=dv->Q (some n) aF):wpS (model prog w) A E s (countRun' lo dv) Q st:=by
 rw[countRun'_eq];refine aB (dL (fm (I:=fun i c aF=>SQ κ a₀ pd aF/\∃m,c=(none,m)/\m=i) (Q:=fun c aF=>SQ κ a₀ pd aF/\∃m,c=(none,m)/\1<=m/\m<=dv) ?_ ?_ ⟨hB,_,rfl,rfl⟩) ?_)
 .rintro i c Bp Pq Ab ⟨JR,m,rfl,rfl⟩;dsimp only;refine aB (fP hC JR (by lia) (by lia) fun b1=>?_);cases b1
  .exact aK ⟨JR,_,rfl,rfl⟩
  .exact aK ⟨JR,_,rfl,by lia,by lia⟩
 .rintro c Bp ⟨JR,m,rfl,rfl⟩;exact⟨JR,_,rfl,by lia,by lia⟩
 .rintro c Bp ⟨JR,n,rfl,n1,n2⟩;dsimp only;by_cases e1:(n==dv)=true
  .rw[ap e1];exact aK (h n Bp JR n1 n2)
  rw[ao e1];have g1:¬ (n=dv):=by simpa using e1
  by_cases e2:n > 1
  .rw[ap e2];refine aB (fP hC JR (by lia) (by lia) fun b2=>?_);cases b2
   .dsimp only;rw[ao (by decide)];refine aB (g_ JR fun lD qj=>?_);refine aB (jO (fv ⟨rfl,?_⟩));refine aB (dL (fm (I:=fun i c aF=>SQ κ a₀ pd aF/\∃m q,c=(none,m,q)/\m=i) (Q:=fun c aF=>SQ κ a₀ pd aF/\∃m q,c=(none,m,q)/\1<=m/\m<=dv) ?_ ?_ ⟨qj,_,_,rfl,rfl⟩) ?_)
    .rintro i c jq Pq Ab ⟨i6,m,q,rfl,rfl⟩;dsimp only;refine aB (fP hC i6 (by lia) (by lia) fun b3=>?_);cases b3
     .dsimp only;rw[ao (by decide)];refine aB (fP hC i6 (by lia) (by lia) fun b4=>?_);cases b4
      .exact aK ⟨i6,_,_,rfl,rfl⟩
      .exact aK ⟨i6,_,_,rfl,by lia,by lia⟩
     .dsimp only;rw[ap rfl];split
      .exact aB (g_ i6 fun sW Rf=>aK ⟨Rf,_,_,rfl,rfl⟩)
      .exact aK ⟨i6,_,_,rfl,rfl⟩
    .rintro c jq ⟨i6,m,q,rfl,rfl⟩;exact⟨i6,_,_,rfl,by lia,by lia⟩
    .rintro c jq ⟨i6,m,q,rfl,m1,m2⟩;dsimp only;split
     .refine aB (g_ i6 fun sW Rf=>?_);refine aB (g_ Rf fun zo Rg=>?_);refine aB (dL (fm (I:=fun i c aF=>SQ κ a₀ pd aF/\∃m,c=(none,m)/\m=i) (Q:=fun c aF=>SQ κ a₀ pd aF/\∃m,c=(none,m)/\1<=m/\m<=dv) ?_ ?_ ⟨Rg,_,rfl,rfl⟩) ?_)
      .rintro i c v9 Pq Ab ⟨oC,m,rfl,rfl⟩;dsimp only;refine aB (fP hC oC (by lia) (by lia) fun b6=>?_);cases b6
       .exact aK ⟨oC,_,rfl,rfl⟩
       .exact aK ⟨oC,_,rfl,by lia,by lia⟩
      .rintro c v9 ⟨oC,m,rfl,rfl⟩;exact⟨oC,_,rfl,by lia,by lia⟩
      .rintro c v9 ⟨oC,m,rfl,h1,h2⟩;exact aK (h m v9 oC h1 h2)
     .refine aB (g_ i6 fun zo Rg=>?_);refine aB (dL (fm (I:=fun i c aF=>SQ κ a₀ pd aF/\∃m,c=(none,m)/\m=i) (Q:=fun c aF=>SQ κ a₀ pd aF/\∃m,c=(none,m)/\1<=m/\m<=dv) ?_ ?_ ⟨Rg,_,rfl,rfl⟩) ?_)
      .rintro i c v9 Pq Ab ⟨oC,m,rfl,rfl⟩;dsimp only;refine aB (fP hC oC (by lia) (by lia) fun b6=>?_);cases b6
       .exact aK ⟨oC,_,rfl,rfl⟩
       .exact aK ⟨oC,_,rfl,by lia,by lia⟩
      .rintro c v9 ⟨oC,m,rfl,rfl⟩;exact⟨oC,_,rfl,by lia,by lia⟩
      .rintro c v9 ⟨oC,m,rfl,h1,h2⟩;exact aK (h m v9 oC h1 h2)
   .exact aK (h n Bp JR n1 n2)
  .rw[ao e2];have qj:=JR;refine aB (jO (fv ⟨rfl,?_⟩));refine aB (dL (fm (I:=fun i c aF=>SQ κ a₀ pd aF/\∃m q,c=(none,m,q)/\m=i) (Q:=fun c aF=>SQ κ a₀ pd aF/\∃m q,c=(none,m,q)/\1<=m/\m<=dv) ?_ ?_ ⟨qj,_,_,rfl,rfl⟩) ?_)
   .rintro i c jq Pq Ab ⟨i6,m,q,rfl,rfl⟩;dsimp only;refine aB (fP hC i6 (by lia) (by lia) fun b3=>?_);cases b3
    .dsimp only;rw[ao (by decide)];refine aB (fP hC i6 (by lia) (by lia) fun b4=>?_);cases b4
     .exact aK ⟨i6,_,_,rfl,rfl⟩
     .exact aK ⟨i6,_,_,rfl,by lia,by lia⟩
    .dsimp only;rw[ap rfl];split
     .exact aB (g_ i6 fun sW Rf=>aK ⟨Rf,_,_,rfl,rfl⟩)
     .exact aK ⟨i6,_,_,rfl,rfl⟩
   .rintro c jq ⟨i6,m,q,rfl,rfl⟩;exact⟨i6,_,_,rfl,by lia,by lia⟩
   .rintro c jq ⟨i6,m,q,rfl,m1,m2⟩;dsimp only;split
    .refine aB (g_ i6 fun sW Rf=>?_);refine aB (g_ Rf fun zo Rg=>?_);refine aB (dL (fm (I:=fun i c aF=>SQ κ a₀ pd aF/\∃m,c=(none,m)/\m=i) (Q:=fun c aF=>SQ κ a₀ pd aF/\∃m,c=(none,m)/\1<=m/\m<=dv) ?_ ?_ ⟨Rg,_,rfl,rfl⟩) ?_)
     .rintro i c v9 Pq Ab ⟨oC,m,rfl,rfl⟩;dsimp only;refine aB (fP hC oC (by lia) (by lia) fun b6=>?_);cases b6
      .exact aK ⟨oC,_,rfl,rfl⟩
      .exact aK ⟨oC,_,rfl,by lia,by lia⟩
     .rintro c v9 ⟨oC,m,rfl,rfl⟩;exact⟨oC,_,rfl,by lia,by lia⟩
     .rintro c v9 ⟨oC,m,rfl,h1,h2⟩;exact aK (h m v9 oC h1 h2)
    .refine aB (g_ i6 fun zo Rg=>?_);refine aB (dL (fm (I:=fun i c aF=>SQ κ a₀ pd aF/\∃m,c=(none,m)/\m=i) (Q:=fun c aF=>SQ κ a₀ pd aF/\∃m,c=(none,m)/\1<=m/\m<=dv) ?_ ?_ ⟨Rg,_,rfl,rfl⟩) ?_)
     .rintro i c v9 Pq Ab ⟨oC,m,rfl,rfl⟩;dsimp only;refine aB (fP hC oC (by lia) (by lia) fun b6=>?_);cases b6
      .exact aK ⟨oC,_,rfl,rfl⟩
      .exact aK ⟨oC,_,rfl,by lia,by lia⟩
     .rintro c v9 ⟨oC,m,rfl,rfl⟩;exact⟨oC,_,rfl,by lia,by lia⟩
     .rintro c v9 ⟨oC,m,rfl,h1,h2⟩;exact aK (h m v9 oC h1 h2)
end
abbrev Ut:=Nat×Nat×Nat
def ky:List Ut->Nat->Nat->Prop
 |[],s,e=>s=e
 |r::rs,s,e=>r.1=s/\1<=r.2.1/\ky rs (s+r.2.1) e
theorem ky.le:∀ {l:List Ut} {s e:Nat},ky l s e->s<=e
 |[],_,_,h=>qN h
 |r::rs,s,e,⟨_,h2,h3⟩=>by have:=h3.le;lia
theorem ky.two:∀ {l:List Ut} {s e i:Nat} {x y:Ut},ky l s e->l[i]?=some x->l[i+1]?=some y->
  x.1+x.2.1=y.1/\y.1+y.2.1<=e/\1<=x.2.1/\1<=y.2.1/\∀p,ky ((l.set i (x.1,x.2.1+y.2.1,p)).eraseIdx (i+1)) s e
 |r::q::rs,s,e,0,x,y,⟨h1,h2,h3,h4,h5⟩,hx,hy=>by
  obtain rfl:=cB hx;obtain rfl:=cB hy;have:=h5.le;refine⟨by lia,by lia,h2,h4,fun p=>⟨h1,by show 1<=r.2.1+q.2.1;lia,?_⟩⟩;show ky rs (s+(r.2.1+q.2.1)) e;rw[<-Nat.add_assoc];exact h5
 |r::rs,s,e,i+1,x,y,⟨h1,h2,h3⟩,hx,hy=>by
  obtain⟨a1,a2,a3,a4,a5⟩:=ky.two (i:=i) h3 hx hy;exact⟨a1,a2,a3,a4,fun p=>⟨h1,h2,a5 p⟩⟩
theorem ky.push:∀ {l:List Ut} {s e n p:Nat},ky l s e->1<=n->ky (l++[(e,n,p)]) s (e+n)
 |[],s,e,n,p,h,hn=>⟨h.symm,hn,by rw[h];rfl⟩
 |r::rs,s,e,n,p,⟨h1,h2,h3⟩,hn=>⟨h1,h2,ky.push h3 hn⟩
theorem ky.pw:∀ {l:List Ut} {s e:Nat} (i p:Nat),ky l s e->ky (l.modify i fun r=>(r.1,r.2.1,p)) s e
 |[],s,e,i,p,h=>by cases i <;> exact h
 |r::rs,s,e,0,p,⟨h1,h2,h3⟩=>⟨h1,h2,h3⟩
 |r::rs,s,e,i+1,p,⟨h1,h2,h3⟩=>⟨h1,h2,ky.pw i p h3⟩
theorem M1{M:Model}{A:br}{E:bV}{s:aR}{σ:Type}{x:σ}{Q:PUnit->σ->Prop}{st:σ}(h:Q ⟨⟩ x):wpS M A E s (set x:StateT σ Sem PUnit) Q st:=by
 unfold wpS;rw[StateT.run_set];exact wpAny_pure ⟨rfl,h⟩
theorem AH(i:Nat):mergeAt' i=(do
 let s <- get
 let (some (sa,na,V8),some (sb,nb,_)):=((pendingOf s)[i]?,(pendingOf s)[i+1]?)|unsupported "internal:list.sort.pending"
 set (setPending s (((pendingOf s).setIfInBounds i (sa,na+nb,V8)).eraseIdxIfInBounds (i+1)))
 let some k <- jx false (<-elem' (arrOf s) sb) (arrOf s) sa na 0|return false
 let (sa,na):=(sa+k,na-k)
 if na==0 then return true
 let some nb <- jx true (<-elem' (arrOf s) (sa+na-1)) (arrOf s) sb nb (nb-1)|return false
 if nb==0 then return true
 let x:=(arrOf s).extract sa sb
 let y:=(arrOf s).extract sb (sb+nb)
 let merged <- if na<=nb then vh x y else vi x y
 modify fun s=>setArr s (merged.toList.zipIdx.foldl (fun a (p,j)=>a.setIfInBounds (sa+j) p) (arrOf s))
 return (failedOf (<-get)).isNone):=rfl
theorem vo{sa:Nat}:∀ (l:List Keyed) (k:Nat) (arr:bu),sa+k+l.length<=arr.size->
  ((l.zipIdx k).foldl (fun (a:bu) (x:Keyed×Nat)=>a.setIfInBounds (sa+x.2) x.1) arr).toList=arr.toList.take (sa+k)++l++arr.toList.drop (sa+k+l.length)
 |[],k,arr,_=>by simp
 |x::l,k,arr,h=>by
  rw[fj] at h;have hs:sa+k<arr.toList.length:=by rw[lJ];lia
  rw[B8,iN,vo l (k+1) _ (by rw[Array.size_setIfInBounds];lia),IA];dsimp only;have e1:(arr.toList.set (sa+k) x).take (sa+(k+1))=arr.toList.take (sa+k)++[x]:=by
   rw[<-Nat.add_assoc,gW,qu hs,List.take_set_of_le (aP _)];rfl
  have e2:(arr.toList.set (sa+k) x).drop (sa+(k+1)+l.length)=arr.toList.drop (sa+k+(x::l).length):=by
   rw[List.drop_set_of_lt (by lia),fj];congr 1;lia
  rw[e1,e2,dP,dP,dP];rfl
section
variable {prog:bL} {w:World} {A:br} {E:bV} {s:aR} {κ:SortKind} {a₀:bu}
def SR(κ:SortKind)(a₀:bu)(lo:Nat)(st:bZ):Prop:=∃pd,SQ κ a₀ pd st/\ky pd.toList 0 lo/\lo<=a₀.size
theorem mn{st:bZ}{i lo:Nat}{Q:IM}(hC:mi prog w A s κ a₀)(hB:SR κ a₀ lo st)(hi:i+1<(pendingOf st).size)(h:∀aF,SR κ a₀ lo aF->Q true aF):wpS (model prog w) A E s (mergeAt' i) Q st:=by
 obtain⟨pd,hq,hr,Um⟩:=hB;rw[hq.pend] at hi;rw[AH];refine aB (fz ?_);have e1:pd[i]?=some pd[i]:=eL pd i (by lia);have e2:pd[i+1]?=some pd[i+1]:=eL pd (i+1) hi;obtain⟨a1,a2,a3,a4,a5⟩:=hr.two (i:=i) (x:=pd[i]) (y:=pd[i+1]) (by simpa using e1) (by simpa using e2);rw[hq.pend,e1,e2];revert a1 a2 a3 a4 a5;generalize pd[i]=x;generalize pd[i+1]=y;obtain⟨sa,na,pw⟩:=x;obtain⟨sb,nb,pw2⟩:=y;intro a1 a2 a3 a4 a5;dsimp only at a1 a2 a3 a4 a5 |-;obtain⟨M2,V9⟩:∃M2,M2=(pd.setIfInBounds i (sa,na+nb,pw)).eraseIdxIfInBounds (i+1):=⟨_,rfl⟩
 have CY:ky M2.toList 0 lo:=by
  rw[V9,Array.toList_eraseIdxIfInBounds,IA];exact a5 pw
 refine aB (M1 ?_);rw[<-V9];have Ii:SM κ (arrOf st) M2 (setPending st M2):=⟨rfl,hq.kind,hq.failed,rfl⟩
 have iD:=hq.size;have wU:∀x∈(arrOf st).toList,x∈a₀.toList:=fun x hx=>(j3.mp hq.perm).mem_iff.mp hx;have d_:∀aF,SM κ (arrOf st) M2 aF->SR κ a₀ lo aF:=fun aF m=>⟨M2,⟨by rw[m.arr];exact hq.perm,m.kind,m.failed,m.pend⟩,CY,Um⟩
 refine aB (bE (eL (arrOf st) sb (by lia)) ?_);refine aB (im hC Ii.kind (wU _ (by simp)) wU (by lia) (by lia) fun k hk=>?_);dsimp only;by_cases f1:(na-k==0)=true
 .rw[ap f1];exact aK (h _ (d_ _ Ii))
 rw[ao f1];have g1:¬ (na-k=0):=by simpa using f1
 refine aB (bE (eL (arrOf st) (sa+k+(na-k)-1) (by lia)) ?_);refine aB (im hC Ii.kind (wU _ (by simp)) wU (by lia) (by lia) fun k2 Pp=>?_);dsimp only;by_cases f2:(k2==0)=true
 .rw[ap f2];exact aK (h _ (d_ _ Ii))
 rw[ao f2];have g2:¬ (k2=0):=by simpa using f2
 have hx:∀x∈((arrOf st).extract (sa+k) sb).toList,x∈a₀.toList:=fun x hx=>wU x (by rw[fQ] at hx;exact ui (o_ hx));have hy:∀x∈((arrOf st).extract sb (sb+k2)).toList,x∈a₀.toList:=fun x hx=>wU x (by rw[fQ] at hx;exact ui (o_ hx));have sx:((arrOf st).extract (sa+k) sb).size=sb-(sa+k):=by rw[Array.size_extract];lia
 have sy:((arrOf st).extract sb (sb+k2)).size=k2:=by rw[Array.size_extract];lia
 have last:∀ (out:bu) (aF:bZ),out.Perm ((arrOf st).extract (sa+k) sb++(arrOf st).extract sb (sb+k2))->SM κ (arrOf st) M2 aF->wpS (model prog w) A E s (do
   modify fun s=>setArr s (out.toList.zipIdx.foldl (fun a (p,j)=>a.setIfInBounds (sa+k+j) p) (arrOf s))
   return (failedOf (<-get)).isNone) Q aF:=by
  intro out aF hp m;refine aB (gh ?_);refine aB (fz (aK ?_));have osz:out.toList.length=sb-(sa+k)+k2:=by
   rw[lJ,hp.size_eq,Array.size_append,sx,sy]
  have wl:=vo (sa:=sa+k) out.toList 0 (arrOf aF) (by rw[m.arr,osz];lia);have pm:(out.toList.zipIdx.foldl (fun a (p,j)=>a.setIfInBounds (sa+k+j) p) (arrOf aF)).Perm (arrOf st):=by
   rw[j3];refine(lS wl).trans ?_;rw[m.arr,osz,Nat.add_zero];have Up:=j3.mp hp;rw[gD,fQ,fQ] at Up;refine((Up.append_left _).append_right _).trans ?_;have e1:(arrOf st).toList.drop (sa+k)=((arrOf st).toList.drop (sa+k)).take (sb-(sa+k))++(arrOf st).toList.drop sb:=pO (by lia);have e2:(arrOf st).toList.drop sb=((arrOf st).toList.drop sb).take (sb+k2-sb)++(arrOf st).toList.drop (sb+k2):=pO (by lia);have e3:sa+k+(sb-(sa+k)+k2)=sb+k2:=by lia
   rw[e3];refine lS ?_;conv=>rhs;rw[<-nL (sa+k) (arrOf st).toList,e1,e2]
   simp only[dP]
  have hf:(failedOf aF).isNone=true:=by rw[m.failed];rfl
  show Q (failedOf aF).isNone _;rw[hf];exact h _ ⟨M2,⟨pm.trans hq.perm,m.kind,m.failed,m.pend⟩,CY,Um⟩
 by_cases f3:na-k<=k2
 .rw[ap f3];exact aB (AE hC Ii hx hy (by lia) (by lia) fun out aF hp m=>last out aF hp m)
 .rw[ao f3];exact aB (AG hC Ii hx hy (by lia) (by lia) fun out aF hp m=>last out aF hp m)
theorem AI{c:Prop}[Decidable c]{x:Nat}:(if c then x-1 else x)<=x:=by split <;> lia
theorem SR.pw{lo:Nat}{st:bZ}(h:SR κ a₀ lo st)(i p:Nat):SR κ a₀ lo (setPending st ((pendingOf st).modify i fun r=>(r.1,r.2.1,p))):=by
 obtain⟨pd,hq,hr,hl⟩:=h;refine⟨_,⟨hq.perm,hq.kind,hq.failed,rfl⟩,?_,hl⟩;show ky ((pendingOf st).modify i fun r=>(r.1,r.2.1,p)).toList 0 lo;rw[hq.pend,Array.toList_modify];exact hr.pw i p
theorem SR.push{lo n:Nat}{st:bZ}(h:SR κ a₀ lo st)(h1:1<=n)(hn:lo+n<=a₀.size):SR κ a₀ (lo+n) (setPending st ((pendingOf st).push (lo,n,0))):=by
 obtain⟨pd,hq,hr,hl⟩:=h;refine⟨_,⟨hq.perm,hq.kind,hq.failed,rfl⟩,?_,hn⟩;show ky ((pendingOf st).push (lo,n,0)).toList 0 (lo+n);rw[hq.pend,nZ];exact hr.push h1
theorem GW{st:bZ}{Q:wu}(hC:mi prog w A s κ a₀)(hp:(arrOf st).Perm a₀)(hk:kindOf st=κ)(hf:failedOf st=none)(Re:pendingOf st=#[])(h:∀aF,(arrOf aF).Perm a₀->failedOf aF=none->Q () aF):wpS (model prog w) A E s sortRuns' Q st:=by
 have h0:SR κ a₀ 0 st:=⟨#[],⟨hp,hk,hf,Re⟩,rfl,cp _⟩
 have iD:(arrOf st).size=a₀.size:=hp.size_eq;rw[sortRuns'_eq];refine aB (fz ?_);dsimp only;rw[iD];refine aB (dL (fm (I:=fun _ c aF=>∃lo,c=(none,lo)/\SR κ a₀ lo aF) (Q:=fun c aF=>∃lo,c=(none,lo)/\SR κ a₀ lo aF) ?_ (fun c aF hh=>hh) ⟨0,rfl,h0⟩) ?_)
 .rintro i c Bp _ _ ⟨lo,rfl,hR⟩;dsimp only;by_cases e1:lo>=a₀.size
  .rw[ap e1];exact aK ⟨lo,rfl,hR⟩
  rw[ao e1];have Um:lo<a₀.size:=by lia
  obtain⟨pd,hq,hr,hl⟩:=hR;refine aB (Dc hC (by lia) (by lia) hq fun n lD Ij n1 n2=>?_);dsimp only;by_cases hm:n<minRun' a₀.size a₀.size 0
  .rw[ap hm];refine aB (jO (fv ⟨rfl,?_⟩));refine aB (JP hC (by lia) Ij fun jq Uq=>?_);simp only[uG,iM,eG];have Bq:SR κ a₀ lo jq:=⟨pd,Uq,hr,hl⟩
   refine aB (fz ?_);cases hb:(pendingOf jq).back? with
   |none=>
    dsimp only;exact aB (gh (aK ⟨_,rfl,Bq.push (by lia) (by lia)⟩))
   |some r=>
    obtain⟨s1,n1',pw1⟩:=r;dsimp only;refine aB (dL (fm (I:=fun _ c aF=>c=(none,())/\SR κ a₀ lo aF) (Q:=fun c aF=>c=(none,())/\SR κ a₀ lo aF) ?_ (fun c aF hh=>hh) ⟨rfl,Bq⟩) ?_)
    .rintro x c sW _ _ ⟨rfl,tU⟩;refine aB (fz ?_);by_cases hs:(pendingOf sW).size > 1
     .rw[ap hs,eL (pendingOf sW) ((pendingOf sW).size-2) (by lia)];generalize (pendingOf sW)[(pendingOf sW).size-2]=r4;obtain⟨_,_,V_⟩:=r4;dsimp only;split
      .exact aK ⟨rfl,tU⟩
      .refine aB (mn hC tU (by lia) fun zo Rh=>?_);simp only[uG,iM,eG];exact aK ⟨rfl,Rh⟩
     .rw[ao hs];exact aK ⟨rfl,tU⟩
    .rintro c sW ⟨rfl,tU⟩;dsimp only;exact aB (gh (aB (gh (aK ⟨_,rfl,(tU.pw _ _).push (by lia) (by lia)⟩))))
  .rw[ao hm];have Bq:SR κ a₀ lo lD:=⟨pd,Ij,hr,hl⟩
   refine aB (fz ?_);cases hb:(pendingOf lD).back? with
   |none=>
    dsimp only;exact aB (gh (aK ⟨_,rfl,Bq.push (by lia) (by lia)⟩))
   |some r=>
    obtain⟨s1,n1',pw1⟩:=r;dsimp only;refine aB (dL (fm (I:=fun _ c aF=>c=(none,())/\SR κ a₀ lo aF) (Q:=fun c aF=>c=(none,())/\SR κ a₀ lo aF) ?_ (fun c aF hh=>hh) ⟨rfl,Bq⟩) ?_)
    .rintro x c sW _ _ ⟨rfl,tU⟩;refine aB (fz ?_);by_cases hs:(pendingOf sW).size > 1
     .rw[ap hs,eL (pendingOf sW) ((pendingOf sW).size-2) (by lia)];generalize (pendingOf sW)[(pendingOf sW).size-2]=r4;obtain⟨_,_,V_⟩:=r4;dsimp only;split
      .exact aK ⟨rfl,tU⟩
      .refine aB (mn hC tU (by lia) fun zo Rh=>?_);simp only[uG,iM,eG];exact aK ⟨rfl,Rh⟩
     .rw[ao hs];exact aK ⟨rfl,tU⟩
    .rintro c sW ⟨rfl,tU⟩;dsimp only;exact aB (gh (aB (gh (aK ⟨_,rfl,(tU.pw _ _).push (by lia) (by lia)⟩))))
 .rintro c Bp ⟨lo,rfl,hR⟩;dsimp only;refine aB (dL (fm (I:=fun _ c aF=>c=(none,())/\SR κ a₀ lo aF) (Q:=fun c aF=>c=(none,())/\SR κ a₀ lo aF) ?_ (fun c aF hh=>hh) ⟨rfl,hR⟩) ?_)
  .rintro x c sW _ _ ⟨rfl,tU⟩;refine aB (fz ?_);by_cases hs:(pendingOf sW).size<=1
   .rw[ap hs];exact aK ⟨rfl,tU⟩
   rw[ao hs];refine aB (mn hC tU ?_ fun zo Rh=>?_)
   .exact eK (xD AI) (show (pendingOf sW).size-2+1<(pendingOf sW).size by lia)
   .simp only[uG,iM,eG];exact aK ⟨rfl,Rh⟩
  .rintro c sW ⟨rfl,pd,hq,_⟩;exact aK (h _ hq.perm hq.failed)
end
end PyProof.Rows
namespace L2
open PySem PySem.Spec PyProof.Rows PySem.W
def lj(h:Heap)(vs:bw):Prop:=∀v∈vs,∃a o n x t y u,v=Value.ref a/\h.get? a=some o/\o.cls=.type "tuple"/\o.data=.seq #[.int x t,.int y u] n
theorem lj.pe{h:Heap}:∀ {vs:bw},lj h vs->∃fs,KatTups h vs fs/\fs.length=vs.length/\∀v∈fs,∃n t,v=Value.int n t
 |[],_=>⟨[],trivial,rfl,fun v hv=>nomatch hv⟩
 |v::vs,hp=>by
  obtain⟨fs,k1,k2,k3⟩:=lj.pe (vs:=vs) fun b hb=>hp b (dq _ hb);obtain⟨a,o,n,x,t,y,u,rfl,e,c,d⟩:=hp v cK;refine⟨.int x t::fs,KatTups.cons e c d rfl k1,by simp[k2],fun v hv=>?_⟩;rcases bq.mp hv with z|z
  .exact⟨x,t,z⟩
  .exact k3 v z
section
variable {prog:bL} {w:World} {A:br} {E:bV} {s:aR}
theorem GX{vs:bw}(hp:lj s.heap vs):mi prog w A s (tuples' true) (vs.toArray.zip vs.toArray):=by
 have mem:∀x∈(vs.toArray.zip vs.toArray).toList,x.1∈vs:=by
  intro x hx;rw[qE] at hx;exact(n_ hx).1
 intro x y hx hy Q E' q;obtain⟨a,o,n,x1,t1,x2,t2,e1,eo,_,ed⟩:=hp x.1 (mem x hx);obtain⟨b,o',n',y1,u1,y2,u2,e2,eo',_,ed'⟩:=hp y.1 (mem y hy);rw[e1,e2];refine kat_lt eo ed eo' ed' (kat_cons (uE ?_));by_cases h1:x1=y1
 .rw[gg.mpr h1];refine kat_yes (kat_cons (uE ?_));by_cases h2:x2=y2
  .rw[gg.mpr h2];exact kat_yes (kat_nil (q _))
  .rw[pb.mpr h2];exact kat_no (kat_one _ _ (lt_int (q _)))
 .rw[pb.mpr h1];exact kat_no (oneLt_int (q _))
theorem M3{vs:bw}:((vs.toArray.zip vs.toArray).map (·.2)).toList=vs:=by
 rw[kP,qE];show (vs.zip vs).map (·.2)=vs;rw[<-List.unzip_snd,List.unzip_zip_right (aP _)]
theorem sY{a:Addr}{vs:bw}{n:Nat}{Pzz:PySem.Fin->Shared->Prop}(ho:s.heap.get? a=some (seqObj "list" vs.toArray n))(hp:lj s.heap vs)(hz:vs.length<=4096)(h:∀ (out:bD),out.toList.Perm vs->Pzz (.done (.ret .none)) { s with heap:=sortedHeap s.heap a vs out }):
  wpAny (model prog w) A (Builtin.«list.sort» ⟨[.ref a],[]⟩) Pzz E s:=by
 rw[list_sort_plain];have ha:a<s.heap.objs.size:=aS ho;have M4:vs.toArray.size<=sizeLine:=by rw[ce,ge];lia
 refine au (listItems_at ho rfl ?_);refine au (jK ho rfl ?_ M4 (cp _));obtain⟨e1,Im⟩:∃e1,(s.heap.update a (Obj.mapSeq fun _=>#[])).get? a=some (seqObj "list" #[] e1):=⟨_,kU ho (fun _=>#[])⟩
 refine au (lX Im rfl ?_);refine au (uH ?_ (by show vs.length<=_;rw[ge];lia));refine au (qO ?_ (cp _));refine gK ?_;have GY:(((s.heap.update a (Obj.mapSeq fun _=>#[])).push (seqObj "tuple" vs.toArray 0)).push (seqObj "list" #[] 0)).get? a=some (seqObj "list" #[] e1):=by
  rw[eT _ _ _ (by rw[fw,eV];exact bf (dH ha)),eT _ _ _ (by rw[eV];exact bf ha)];exact Im
 have zw:lj (((s.heap.update a (Obj.mapSeq fun _=>#[])).push (seqObj "tuple" vs.toArray 0)).push (seqObj "list" #[] 0)) vs:=by
  intro v hv;obtain⟨b,o,n,x,t,y,u,ev,e,c,d⟩:=hp v hv;have hb:b<s.heap.objs.size:=aS e;have qh:b≠a:=by
   rintro rfl;rw[ho] at e;cases e;exact absurd (Value.type.inj c) (by decide)
  refine⟨b,o,n,x,t,y,u,ev,?_,c,d⟩;rw[eT _ _ _ (by rw[fw,eV];exact bf (dH hb)),eT _ _ _ (by rw[eV];exact bf hb),lK _ _ _ _ qh];exact e
 show wpAny (model prog w) A _ Pzz E { s with heap:=((s.heap.update a (Obj.mapSeq fun _=>#[])).push (seqObj "tuple" vs.toArray 0)).push (seqObj "list" #[] 0) };dsimp only;have d_:∀aF:SortSt,(arrOf aF).Perm (vs.toArray.zip vs.toArray)->Pzz (.done (.ret .none)) { s with heap:=sortedHeap s.heap a vs ((arrOf aF).map (·.2)) }:=by
  intro aF JS;refine h _ ?_;have:=(j3.mp JS).map (·.2);rw[<-kP,<-kP,M3] at this;exact this
 have Py:(vs.toArray.zip vs.toArray).size=vs.length:=by simp
 by_cases h2:vs.toArray.size<2
 .rw[ap h2,ap h2];refine au (wpAny_pure ?_);rw[Ca];refine au (wpAny_pure ?_);dsimp only;refine au (lX GY rfl ?_);refine au (jK GY rfl ?_ (cp _) (by show ((vs.toArray.zip vs.toArray).map (·.2)).size<=_;rw[j8,Py,ge];lia));simp only[ut,iM,eG];exact wpAny_pure (d_ (SortSt.mk' general' (vs.toArray.zip vs.toArray) #[] 7 none) (xH _))
 .rw[ao h2,ao h2];have e8:2<=vs.length:=by rw[ce] at h2;lia
  obtain⟨fs,k1,k2,k3⟩:=zw.pe;refine au (kat_kind (T:=.type "int") k1 (by lia) (fun v hv=>?_) rfl ?_)
  .obtain⟨m,t,rfl⟩:=k3 v hv;exact .now
  refine au (jL (GW (a₀:=vs.toArray.zip vs.toArray) (κ:=tuples' true) (st:=SortSt.mk' (tuples' true) (vs.toArray.zip vs.toArray) #[] 7 none)
   (Q:=fun _ aF=>(arrOf aF).Perm (vs.toArray.zip vs.toArray)/\failedOf aF=none) (GX zw) (xH _) rfl rfl rfl fun aF b1 b2=>⟨b1,b2⟩) ?_ fun _ _ e=>e)
  rintro⟨⟨⟩,aF⟩ s' ⟨rfl,JS,hf⟩;dsimp only;refine au (lX GY rfl ?_);refine au (jK GY rfl ?_ (cp _) (by refine aZ (qN ((j8 ..).trans (JS.size_eq.trans Py))) ?_;rw[ge];lia));rw[hf];simp only[ut,iM,eG];exact wpAny_pure (d_ aF JS)
theorem yw{l:Addr}{vs:bw}{Q:bV}(hl:s.heap.IsList l vs.toArray)(hp:lj s.heap vs)(hz:vs.length<=4096)(h:∀ (out:bD),out.toList.Perm vs->Q (.ref (s.heap.objs.size+1)) { s with heap:=sortedAll s.heap vs out }):
  wpAny (model prog w) A (call (.builtin "sorted") [.ref l]) Q E s:=by
 have M4:vs.length<=sizeLine:=by rw[ge];lia
 refine Calls.call_function_entry kind_sorted plain_sorted entry_sorted (args_sorted1 _) ?_;unfold Builtin.«sorted»;refine au (m:=checkCount "sorted" 1 1 _) (wpAny_pure ?_);refine au (collect_list hl ?_ M4);refine au (qO ?_ M4);have iD:((s.heap.push (seqObj "list" #[] 0)).update s.heap.objs.size (Obj.mapSeq (·++vs.toArray))).objs.size=s.heap.objs.size+1:=by
  rw[eV,fw]
 have wx:(((s.heap.push (seqObj "list" #[] 0)).update s.heap.objs.size (Obj.mapSeq (·++vs.toArray))).push (seqObj "list" vs.toArray 0)).get? (s.heap.objs.size+1)=some (seqObj "list" vs.toArray 0):=by
  rw[<-iD];exact cX _ rfl
 have vP:lj (((s.heap.push (seqObj "list" #[] 0)).update s.heap.objs.size (Obj.mapSeq (·++vs.toArray))).push (seqObj "list" vs.toArray 0)) vs:=by
  intro v hv;obtain⟨b,o,n,x,t,y,u,ev,e,c,d⟩:=hp v hv;have hb:b<s.heap.objs.size:=aS e;refine⟨b,o,n,x,t,y,u,ev,?_,c,d⟩;rw[eT _ _ _ (by rw[iD];exact bf (dH hb)),lK _ _ _ _ (bf hb),eT _ _ _ (bf hb)];exact e
 show wpAny _ _ _ _ _ { s with heap:=((s.heap.push (seqObj "list" #[] 0)).update s.heap.objs.size (Obj.mapSeq (·++vs.toArray))).push (seqObj "list" vs.toArray 0) };rw[iD];refine au (gK (lN slot_list_sort ⟨_,wx,rfl⟩ entry_list_sort (sY wx vP hz fun out a1=>⟨_,rfl,?_⟩) (args_list_sort _)));exact wpAny_pure ⟨_,rfl,h out a1⟩
end
theorem pP:∀ {as:bR} {its:bw},ba (as.map V.ref) its->its=as.map Value.ref
 |[],_,r=>by cases r;rfl
 |a::as,_,r=>by
  cases r with
  |cons r rr=>
   obtain rfl:=(show _=Value.ref a from r)
   rw[pP rr];rfl
theorem rq:∀ {as:bR},ba (as.map V.ref) (as.map Value.ref)
 |[]=>.nil
 |_::_=>.cons rfl rq
theorem wY{as:bR}{vs:bw}(h:vs.Perm (as.map Value.ref)):∃nB:List Addr,vs=nB.map Value.ref/\nB.Perm as:=by
 let un:Value->Addr:=fun v=>match v with|.ref a=>a|_=>0
 refine⟨vs.map un,?_,?_⟩
 .rw[dQ];have:∀v∈vs,(Value.ref ∘ un) v=v:=by
   intro v hv;obtain⟨a,_,rfl⟩:=bB.mp (h.mem_iff.mp hv);rfl
  conv=>lhs;rw[<-kY vs]
  exact j6 fun v hv=>(this v hv).symm
 .have:=h.map un;rw[dQ] at this;have e:as.map (un ∘ Value.ref)=as:=by
   conv=>rhs;rw[<-kY as]
   exact j6 fun a _=>rfl
  rw[e] at this;exact this
def JT(K:a_):List V->Hp->VK->Prop:=fun xs H Q=>∃ (l:Addr) (as:bR),xs=[.ref l]/\a8 K H l (as.map V.ref)/\(∀a∈as,∃x y:Int,cu K H a [.int x,.int y])/\as.length<=4096/\
 ∀ (D:Addr) (nB:bR),H D=none->nB.Perm as->Q (.ref D) (upd H D (.lst (nB.map V.ref)))
theorem Dd{X:Cx}:gf X (.builtin "sorted") (JT X.K):=by
 intro af s σ H xs us Q I r h;obtain⟨l,as,rfl,hl,hp,hz,q⟩:=h;obtain⟨u1,rfl,r1⟩:=r.one;obtain rfl:u1=Value.ref l:=r1;obtain⟨its,rv,pl,_⟩:=I.list hl;have yo:=pP rv;subst yo;have hpv:lj s.heap (as.map Value.ref):=by
  intro v hv;obtain⟨a,ha,rfl⟩:=bB.mp hv;obtain⟨x,y,wT⟩:=hp a ha;obtain⟨its,r,⟨o,e,c,n,d⟩,_⟩:=I.tuple wT;obtain⟨u1,u2,rfl,r1,r2⟩:=r.two;obtain⟨t,rfl⟩:=r1;obtain⟨t',rfl⟩:=r2;exact⟨a,o,n,x,t,y,t',rfl,e,c,d⟩
 refine yw pl.isList hpv (by rw[aT];exact hz) fun out JU=>?_;obtain⟨nB,eo,pa⟩:=wY JU;have Ap:out=(nB.map Value.ref).toArray:=by rw[<-eo]
 subst Ap;have Ri:((s.heap.push (seqObj "list" #[] 0)).update s.heap.objs.size (Obj.mapSeq (·++(as.map Value.ref).toArray))).objs.size=s.heap.objs.size+1:=by rw[eV,fw]
 have k1:∀b u,s.heap.get? b=some u->(((s.heap.push (seqObj "list" #[] 0)).update s.heap.objs.size (Obj.mapSeq (·++(as.map Value.ref).toArray))).push (seqObj "list" (as.map Value.ref).toArray 0)).get? b=some u:=fun b u e=>by
  have hb:b<s.heap.objs.size:=aS e;rw[eT _ _ _ (by rw[Ri];exact bf (dH hb)),lK _ _ _ _ (bf hb),eT _ _ _ (bf hb)];exact e
 have wx:(((s.heap.push (seqObj "list" #[] 0)).update s.heap.objs.size (Obj.mapSeq (·++(as.map Value.ref).toArray))).push (seqObj "list" (as.map Value.ref).toArray 0)).get? (s.heap.objs.size+1)=some (seqObj "list" (as.map Value.ref).toArray 0):=by
  rw[<-Ri];exact cX _ rfl
 have GZ:(((s.heap.push (seqObj "list" #[] 0)).update s.heap.objs.size (Obj.mapSeq (·++(as.map Value.ref).toArray))).push (seqObj "list" (as.map Value.ref).toArray 0)).objs.size=s.heap.objs.size+2:=by rw[fw,Ri]
 show EP X af σ Q (.ref (s.heap.objs.size+1)) { s with heap:=sortedHeap (((s.heap.push (seqObj "list" #[] 0)).update s.heap.objs.size (Obj.mapSeq (·++(as.map Value.ref).toArray))).push (seqObj "list" (as.map Value.ref).toArray 0)) (s.heap.objs.size+1) (as.map Value.ref) (nB.map Value.ref).toArray };revert k1 wx GZ;generalize ((s.heap.push (seqObj "list" #[] 0)).update s.heap.objs.size (Obj.mapSeq (·++(as.map Value.ref).toArray))).push (seqObj "list" (as.map Value.ref).toArray 0)=h1;intro k1 wx GZ;obtain⟨e1,Im⟩:∃e1,(h1.update (s.heap.objs.size+1) (Obj.mapSeq fun _=>(#[]:bD))).get? (s.heap.objs.size+1)=some (seqObj "list" #[] e1):=⟨_,kU wx (fun _=>#[])⟩
 have GY:(((h1.update (s.heap.objs.size+1) (Obj.mapSeq fun _=>(#[]:bD))).push (seqObj "tuple" (as.map Value.ref).toArray 0)).push (seqObj "list" #[] 0)).get? (s.heap.objs.size+1)=some (seqObj "list" #[] e1):=by
  rw[eT _ _ _ (by rw[fw,eV,GZ];exact bf (dH (lM _))),eT _ _ _ (by rw[eV,GZ];exact bf (lM _))];exact Im
 obtain⟨e2,ho7⟩:∃e2,(sortedHeap h1 (s.heap.objs.size+1) (as.map Value.ref) (nB.map Value.ref).toArray).get? (s.heap.objs.size+1)=some (seqObj "list" (nB.map Value.ref).toArray e2):=⟨_,kU GY (fun _=>(nB.map Value.ref).toArray)⟩
 have keep:∀b u,s.heap.get? b=some u->(sortedHeap h1 (s.heap.objs.size+1) (as.map Value.ref) (nB.map Value.ref).toArray).get? b=some u:=fun b u e=>by
  have hb:b<s.heap.objs.size:=aS e;unfold sortedHeap;rw[lK _ _ _ _ (bf (dH hb)),eT _ _ _ (by rw[fw,eV,GZ];exact bf (dH (dH (dH hb)))),eT _ _ _ (by rw[eV,GZ];exact bf (dH (dH hb))),lK _ _ _ _ (bf (dH hb))];exact k1 b u e
 have vp:s.heap.get? (s.heap.objs.size+1)=none:=qx (by lia);refine⟨.ref (s.heap.objs.size+1),_,I.z_ (t':=s.toks) (o:=.lst (nB.map V.ref)) keep vp ⟨?_,nB.map Value.ref,e2,rq,ho7⟩,rfl,q _ nB (I.cY.u_ vp) pa⟩;rw[aT,pa.length_eq];exact aZ hz (by decide)
def jV(h:Heap)(g:uP)(vs:bw):Prop:=∀v∈vs,∃a o n t u,v=Value.ref a/\h.get? a=some o/\o.cls=.type "tuple"/\o.data=.seq #[.int (g a).1 t,.int (g a).2 u] n/\0<=(g a).2/\(g a).2<64
def pk(u:lG):Int:=64*u.1+u.2
def kv(g:uP)(v:Value):Int:=match v with
 |.ref a=>pk (g a)
 |_=>0
theorem jV.pe{h:Heap}{g:uP}:∀ {vs:bw},jV h g vs->∃fs,KatTups h vs fs/\fs.length=vs.length/\∀v∈fs,∃n t,v=Value.int n t
 |[],_=>⟨[],trivial,rfl,fun v hv=>nomatch hv⟩
 |v::vs,hp=>by
  obtain⟨fs,k1,k2,k3⟩:=jV.pe (vs:=vs) fun b hb=>hp b (dq _ hb);obtain⟨a,o,n,t,u,rfl,e,c,d,_⟩:=hp v cK;refine⟨.int (g a).1 t::fs,KatTups.cons e c d rfl k1,by simp[k2],fun v hv=>?_⟩;rcases bq.mp hv with z|z
  .exact⟨_,t,z⟩
  .exact k3 v z
section
variable {prog:bL} {w:World} {A:br} {E:bV} {s:aR} {g:uP}
theorem De{vs:bw}(hp:jV s.heap g vs):L9 prog w A s (tuples' true) (vs.toArray.zip vs.toArray) (fun x=>kv g x.1):=by
 have mem:∀x∈(vs.toArray.zip vs.toArray).toList,x.1∈vs:=by
  intro x hx;rw[qE] at hx;exact(n_ hx).1
 intro x y hx hy Q E' q;obtain⟨a,o,n,t1,t2,e1,eo,_,ed,a1,a2⟩:=hp x.1 (mem x hx);obtain⟨b,o',n',u1,u2,e2,eo',_,ed',b1,b2⟩:=hp y.1 (mem y hy);replace q:∀c,c=decide (kv g x.1<kv g y.1)->Q c s:=fun c e=>e ▸ q;rw[e1,e2] at q;rw[e1,e2];replace q:∀c,c=decide (64*(g a).1+(g a).2<64*(g b).1+(g b).2)->Q c s:=q;generalize (g a).1=x1 at *;generalize (g a).2=x2 at *;generalize (g b).1=y1 at *;generalize (g b).2=y2 at *;refine kat_lt eo ed eo' ed' (kat_cons (uE ?_));by_cases h1:x1=y1
 .rw[gg.mpr h1];refine kat_yes (kat_cons (uE ?_));by_cases h2:x2=y2
  .rw[gg.mpr h2];exact kat_yes (kat_nil (q _ (by
    have e:decide (64*x1+x2<64*y1+y2)=false:=gY (by lia);rw[e];rfl)))
  .rw[pb.mpr h2];exact kat_no (kat_one _ _ (lt_int (q _ (by congr 1;rw[eq_iff_iff];lia))))
 .rw[pb.mpr h1];exact kat_no (oneLt_int (q _ (by congr 1;rw[eq_iff_iff];lia)))
theorem JV{vs:bw}:((vs.toArray.zip vs.toArray).map (·.2)).toList=vs:=by
 rw[kP,qE];show (vs.zip vs).map (·.2)=vs;rw[<-List.unzip_snd,List.unzip_zip_right (aP _)]
theorem G0{l:bw}{p:Value×Value}:p∈l.zip l->p.2=p.1:=by
 induction l with
 |nil=>intro h;cases h
 |cons x l ih=>
  intro h;rw[List.zip_cons_cons] at h;rcases bq.mp h with z|z
  .rw[z]
  .exact ih z
def EZ(g:uP)(v:Value):Int:=match v with
 |.ref a=>(g a).2
 |_=>0
theorem nuS{h:Heap}{g:uP}{vs:bw}(hp:jV h g vs)(up:vs.Pairwise fun u v=>EZ g u<EZ g v):Nu (fun x:Keyed=>EZ g x.1) (vs.toArray.zip vs.toArray):=by
 have e:∀i (hi:i<vs.length),kk (fun x:Keyed=>EZ g x.1) (vs.toArray.zip vs.toArray) i=EZ g vs[i]:=fun i hi=>by
  rw[mh (by simpa using hi)];simp
 refine⟨fun i j zL hj=>?_,fun x hx=>?_⟩
 .have hj:j<vs.length:=by simpa using hj
  rw[e i (by lia),e j hj];exact qm.mp up i j (by lia) hj zL
 .rw[qE] at hx;obtain⟨a,o,n,t,u,ev,_,_,_,b1,b2⟩:=hp x.1 (n_ hx).1;show 0<=EZ g x.1/\EZ g x.1<64;rw[ev];exact⟨b1,b2⟩
theorem rA{a:Addr}{vs:bw}{n:Nat}{Pzz:PySem.Fin->Shared->Prop}(ho:s.heap.get? a=some (seqObj "list" vs.toArray n))(hp:jV s.heap g vs)(hz:vs.length<64)(up:vs.Pairwise fun u v=>EZ g u<EZ g v)(h:∀ (out:bD),out.toList.Perm vs->out.toList.Pairwise (fun u v=>kv g u<=kv g v)->Pzz (.done (.ret .none)) { s with heap:=sortedHeap s.heap a vs out }):
  wpAny (model prog w) A (Builtin.«list.sort» ⟨[.ref a],[]⟩) Pzz E s:=by
 rw[list_sort_plain];have ha:a<s.heap.objs.size:=aS ho;have M4:vs.toArray.size<=sizeLine:=by rw[ce,ge];lia
 refine au (listItems_at ho rfl ?_);refine au (jK ho rfl ?_ M4 (cp _));obtain⟨e1,Im⟩:∃e1,(s.heap.update a (Obj.mapSeq fun _=>#[])).get? a=some (seqObj "list" #[] e1):=⟨_,kU ho (fun _=>#[])⟩
 refine au (lX Im rfl ?_);refine au (uH ?_ (by show vs.length<=_;rw[ge];lia));refine au (qO ?_ (cp _));refine gK ?_;have GY:(((s.heap.update a (Obj.mapSeq fun _=>#[])).push (seqObj "tuple" vs.toArray 0)).push (seqObj "list" #[] 0)).get? a=some (seqObj "list" #[] e1):=by
  rw[eT _ _ _ (by rw[fw,eV];exact bf (dH ha)),eT _ _ _ (by rw[eV];exact bf ha)];exact Im
 have zw:jV (((s.heap.update a (Obj.mapSeq fun _=>#[])).push (seqObj "tuple" vs.toArray 0)).push (seqObj "list" #[] 0)) g vs:=by
  intro v hv;obtain⟨b,o,n,t,u,ev,e,c,d⟩:=hp v hv;have hb:b<s.heap.objs.size:=aS e;have qh:b≠a:=by
   rintro rfl;rw[ho] at e;cases e;exact absurd (Value.type.inj c) (by decide)
  refine⟨b,o,n,t,u,ev,?_,c,d⟩;rw[eT _ _ _ (by rw[fw,eV];exact bf (dH hb)),eT _ _ _ (by rw[eV];exact bf hb),lK _ _ _ _ qh];exact e
 show wpAny (model prog w) A _ Pzz E { s with heap:=((s.heap.update a (Obj.mapSeq fun _=>#[])).push (seqObj "tuple" vs.toArray 0)).push (seqObj "list" #[] 0) };dsimp only;have d_:∀aF:SortSt,(arrOf aF).Perm (vs.toArray.zip vs.toArray)->So (fun x=>kv g x.1) (arrOf aF) 0 (arrOf aF).size->Pzz (.done (.ret .none)) { s with heap:=sortedHeap s.heap a vs ((arrOf aF).map (·.2)) }:=by
  intro aF JS so;refine h _ ?_ ?_
  .have:=(j3.mp JS).map (·.2);rw[<-kP,<-kP,JV] at this;exact this
  .have same:∀p∈(arrOf aF).toList,p.2=p.1:=by
    intro p hp;have:=(j3.mp JS).mem_iff.mp hp;rw[qE] at this;exact G0 this
   rw[kP,gk];refine qm.mpr fun i j hi hj zL=>?_;rw[same _ (ie hi),same _ (ie hj)];have:=so i j (by lia) (by lia) (by simpa using hj);rw[mh (by simpa using hi),mh (by simpa using hj)] at this;simpa using this
 have Py:(vs.toArray.zip vs.toArray).size=vs.length:=by simp
 by_cases h2:vs.toArray.size<2
 .rw[ap h2,ap h2];refine au (wpAny_pure ?_);rw[Ca];refine au (wpAny_pure ?_);dsimp only;refine au (lX GY rfl ?_);refine au (jK GY rfl ?_ (cp _) (by show ((vs.toArray.zip vs.toArray).map (·.2)).size<=_;rw[j8,Py,ge];lia));simp only[ut,iM,eG];exact wpAny_pure (d_ (SortSt.mk' general' (vs.toArray.zip vs.toArray) #[] 7 none) (xH _) fun i j _ h3 h4=>by
   have h4:j<(vs.toArray.zip vs.toArray).size:=h4;rw[Py] at h4;rw[ce] at h2;rw[show i=j by lia];exact om _)
 .rw[ao h2,ao h2];have e8:2<=vs.length:=by rw[ce] at h2;lia
  obtain⟨fs,k1,k2,k3⟩:=zw.pe;refine au (kat_kind (T:=.type "int") k1 (by lia) (fun v hv=>?_) rfl ?_)
  .obtain⟨m,t,rfl⟩:=k3 v hv;exact .now
  refine au (jL (vj (a₀:=vs.toArray.zip vs.toArray) (κ:=tuples' true) (ck:=fun x=>kv g x.1) (nu:=fun x=>EZ g x.1) (st:=SortSt.mk' (tuples' true) (vs.toArray.zip vs.toArray) #[] 7 none)
   (Q:=fun _ aF=>(arrOf aF).Perm (vs.toArray.zip vs.toArray)/\failedOf aF=none/\So (fun x=>kv g x.1) (arrOf aF) 0 (vs.toArray.zip vs.toArray).size) (De zw) (nuS zw up) rfl rfl rfl rfl (by rw[Py];exact e8) (by rw[Py];exact hz) fun aF b1 b2 b3=>⟨b1,b2,fun i j _ h2 h3=>?_⟩) ?_ fun _ _ e=>e)
  .have q:=b3 i j h2 h3;have bd:∀k,k<(vs.toArray.zip vs.toArray).size->0<=kk (fun x:Keyed=>EZ g x.1) (arrOf aF) k/\kk (fun x:Keyed=>EZ g x.1) (arrOf aF) k<64:=fun k hk=>by
    have L7:k<(arrOf aF).size:=by rw[b1.size_eq];exact hk
    rw[mh L7];exact(nuS zw up).bd _ ((j3.mp b1).mem_iff.mp (by simp))
   have:=bd i (by lia);have:=bd j h3;lia
  rintro⟨⟨⟩,aF⟩ s' ⟨rfl,JS,hf,so⟩;dsimp only;refine au (lX GY rfl ?_);refine au (jK GY rfl ?_ (cp _) (by refine aZ (qN ((j8 ..).trans (JS.size_eq.trans Py))) ?_;rw[ge];lia));rw[hf];simp only[ut,iM,eG];exact wpAny_pure (d_ aF JS (by rw[JS.size_eq];exact so))
theorem v_{l:Addr}{vs:bw}{Q:bV}(hl:s.heap.IsList l vs.toArray)(hp:jV s.heap g vs)(hz:vs.length<64)(up:vs.Pairwise fun u v=>EZ g u<EZ g v)(h:∀ (out:bD),out.toList.Perm vs->out.toList.Pairwise (fun u v=>kv g u<=kv g v)->Q (.ref (s.heap.objs.size+1)) { s with heap:=sortedAll s.heap vs out }):
  wpAny (model prog w) A (call (.builtin "sorted") [.ref l]) Q E s:=by
 have M4:vs.length<=sizeLine:=by rw[ge];lia
 refine Calls.call_function_entry kind_sorted plain_sorted entry_sorted (args_sorted1 _) ?_;unfold Builtin.«sorted»;refine au (m:=checkCount "sorted" 1 1 _) (wpAny_pure ?_);refine au (collect_list hl ?_ M4);refine au (qO ?_ M4);have iD:((s.heap.push (seqObj "list" #[] 0)).update s.heap.objs.size (Obj.mapSeq (·++vs.toArray))).objs.size=s.heap.objs.size+1:=by
  rw[eV,fw]
 have wx:(((s.heap.push (seqObj "list" #[] 0)).update s.heap.objs.size (Obj.mapSeq (·++vs.toArray))).push (seqObj "list" vs.toArray 0)).get? (s.heap.objs.size+1)=some (seqObj "list" vs.toArray 0):=by
  rw[<-iD];exact cX _ rfl
 have vP:jV (((s.heap.push (seqObj "list" #[] 0)).update s.heap.objs.size (Obj.mapSeq (·++vs.toArray))).push (seqObj "list" vs.toArray 0)) g vs:=by
  intro v hv;obtain⟨b,o,n,t,u,ev,e,c,d⟩:=hp v hv;have hb:b<s.heap.objs.size:=aS e;refine⟨b,o,n,t,u,ev,?_,c,d⟩;rw[eT _ _ _ (by rw[iD];exact bf (dH hb)),lK _ _ _ _ (bf hb),eT _ _ _ (bf hb)];exact e
 show wpAny _ _ _ _ _ { s with heap:=((s.heap.push (seqObj "list" #[] 0)).update s.heap.objs.size (Obj.mapSeq (·++vs.toArray))).push (seqObj "list" vs.toArray 0) };rw[iD];refine au (gK (lN slot_list_sort ⟨_,wx,rfl⟩ entry_list_sort (rA wx vP hz up fun out a1 a2=>⟨_,rfl,?_⟩) (args_list_sort _)));exact wpAny_pure ⟨_,rfl,h out a1 a2⟩
end
def JW(K:a_):List V->Hp->VK->Prop:=fun xs H Q=>∃ (l:Addr) (as:bR) (g:uP),xs=[.ref l]/\a8 K H l (as.map V.ref)/\(∀a∈as,cu K H a [.int (g a).1,.int (g a).2]/\0<=(g a).2/\(g a).2<64)/\as.length<64/\as.Pairwise (fun a b=>(g a).2<(g b).2)/\
 ∀ (D:Addr) (nB:bR),H D=none->nB.Perm as->nB.Pairwise (fun a b=>pk (g a)<=pk (g b))->Q (.ref D) (upd H D (.lst (nB.map V.ref)))
theorem Df{X:Cx}:gf X (.builtin "sorted") (JW X.K):=by
 intro af s σ H xs us Q I r h;obtain⟨l,as,g,rfl,hl,hp,hz,up,q⟩:=h;obtain⟨u1,rfl,r1⟩:=r.one;obtain rfl:u1=Value.ref l:=r1;obtain⟨its,rv,pl,_⟩:=I.list hl;have yo:=pP rv;subst yo;have hpv:jV s.heap g (as.map Value.ref):=by
  intro v hv;obtain⟨a,ha,rfl⟩:=bB.mp hv;obtain⟨wT,b1,b2⟩:=hp a ha;obtain⟨its,r,⟨o,e,c,n,d⟩,_⟩:=I.tuple wT;obtain⟨u1,u2,rfl,r1,r2⟩:=r.two;obtain⟨t,rfl⟩:=r1;obtain⟨t',rfl⟩:=r2;exact⟨a,o,n,t,t',rfl,e,c,d,b1,b2⟩
 refine v_ pl.isList hpv (by rw[aT];exact hz) (gk.mpr up) fun out JU Wa=>?_;obtain⟨nB,eo,pa⟩:=wY JU;have Ap:out=(nB.map Value.ref).toArray:=by rw[<-eo]
 subst Ap;have ho:nB.Pairwise (fun a b=>pk (g a)<=pk (g b)):=by
  rw[eo,gk] at Wa;exact Wa
 have Ri:((s.heap.push (seqObj "list" #[] 0)).update s.heap.objs.size (Obj.mapSeq (·++(as.map Value.ref).toArray))).objs.size=s.heap.objs.size+1:=by rw[eV,fw]
 have k1:∀b u,s.heap.get? b=some u->(((s.heap.push (seqObj "list" #[] 0)).update s.heap.objs.size (Obj.mapSeq (·++(as.map Value.ref).toArray))).push (seqObj "list" (as.map Value.ref).toArray 0)).get? b=some u:=fun b u e=>by
  have hb:b<s.heap.objs.size:=aS e;rw[eT _ _ _ (by rw[Ri];exact bf (dH hb)),lK _ _ _ _ (bf hb),eT _ _ _ (bf hb)];exact e
 have wx:(((s.heap.push (seqObj "list" #[] 0)).update s.heap.objs.size (Obj.mapSeq (·++(as.map Value.ref).toArray))).push (seqObj "list" (as.map Value.ref).toArray 0)).get? (s.heap.objs.size+1)=some (seqObj "list" (as.map Value.ref).toArray 0):=by
  rw[<-Ri];exact cX _ rfl
 have GZ:(((s.heap.push (seqObj "list" #[] 0)).update s.heap.objs.size (Obj.mapSeq (·++(as.map Value.ref).toArray))).push (seqObj "list" (as.map Value.ref).toArray 0)).objs.size=s.heap.objs.size+2:=by rw[fw,Ri]
 show EP X af σ Q (.ref (s.heap.objs.size+1)) { s with heap:=sortedHeap (((s.heap.push (seqObj "list" #[] 0)).update s.heap.objs.size (Obj.mapSeq (·++(as.map Value.ref).toArray))).push (seqObj "list" (as.map Value.ref).toArray 0)) (s.heap.objs.size+1) (as.map Value.ref) (nB.map Value.ref).toArray };revert k1 wx GZ;generalize ((s.heap.push (seqObj "list" #[] 0)).update s.heap.objs.size (Obj.mapSeq (·++(as.map Value.ref).toArray))).push (seqObj "list" (as.map Value.ref).toArray 0)=h1;intro k1 wx GZ;obtain⟨e1,Im⟩:∃e1,(h1.update (s.heap.objs.size+1) (Obj.mapSeq fun _=>(#[]:bD))).get? (s.heap.objs.size+1)=some (seqObj "list" #[] e1):=⟨_,kU wx (fun _=>#[])⟩
 have GY:(((h1.update (s.heap.objs.size+1) (Obj.mapSeq fun _=>(#[]:bD))).push (seqObj "tuple" (as.map Value.ref).toArray 0)).push (seqObj "list" #[] 0)).get? (s.heap.objs.size+1)=some (seqObj "list" #[] e1):=by
  rw[eT _ _ _ (by rw[fw,eV,GZ];exact bf (dH (lM _))),eT _ _ _ (by rw[eV,GZ];exact bf (lM _))];exact Im
 obtain⟨e2,ho7⟩:∃e2,(sortedHeap h1 (s.heap.objs.size+1) (as.map Value.ref) (nB.map Value.ref).toArray).get? (s.heap.objs.size+1)=some (seqObj "list" (nB.map Value.ref).toArray e2):=⟨_,kU GY (fun _=>(nB.map Value.ref).toArray)⟩
 have keep:∀b u,s.heap.get? b=some u->(sortedHeap h1 (s.heap.objs.size+1) (as.map Value.ref) (nB.map Value.ref).toArray).get? b=some u:=fun b u e=>by
  have hb:b<s.heap.objs.size:=aS e;unfold sortedHeap;rw[lK _ _ _ _ (bf (dH hb)),eT _ _ _ (by rw[fw,eV,GZ];exact bf (dH (dH (dH hb)))),eT _ _ _ (by rw[eV,GZ];exact bf (dH (dH hb))),lK _ _ _ _ (bf (dH hb))];exact k1 b u e
 have vp:s.heap.get? (s.heap.objs.size+1)=none:=qx (by lia);refine⟨.ref (s.heap.objs.size+1),_,I.z_ (t':=s.toks) (o:=.lst (nB.map V.ref)) keep vp ⟨?_,nB.map Value.ref,e2,rq,ho7⟩,rfl,q _ nB (I.cY.u_ vp) pa ho⟩;rw[aT,pa.length_eq];exact aZ (kX hz) (by decide)
open PySem PySem.Spec PyProof.Rows
theorem dO(sb:Heap.SameBut c h h')(n:b≠c)(e:h.get? b=some o):h'.get? b=some o:=(sb.2 b n).trans e
theorem hV(r:h.IsTupleIter it t k)(sb:Heap.SameBut c h h')(n:it≠c):h'.IsTupleIter it t k:=r.at fun o e=>dO sb n e
theorem vq(r:h.IsTuple t xs)(sb:Heap.SameBut c h h')(n:t≠c):h'.IsTuple t xs:=let ⟨o,e,z⟩:=r;⟨o,dO sb n e,z⟩
section
variable {prog:bL} {w:World} {A:br} {E:bV} {s:aR}
theorem G7{z ti tq i1 i2 t1 t2:Addr}{k:Nat}{xs ys:bD}{x y a b:Value}{Q:bV}(dj:ZipApart z ti tq i1 i2 t1 t2)(gz:IsZip s.heap z ti tq .none)(gi:IsPair s.heap ti (.ref i1) (.ref i2))(gq:IsPair s.heap tq a b)(r1:s.heap.IsTupleIter i1 t1 k)(r2:s.heap.IsTupleIter i2 t2 k)(g1:s.heap.IsTuple t1 xs)(g2:s.heap.IsTuple t2 ys)(ex:xs[k]?=some x)(ey:ys[k]?=some y)(q:∀h',IsZip h' z ti tq (rawInt s.heap.objs.size)->IsPair h' tq x y->h'.IsTupleIter i1 t1 (k+1)->h'.IsTupleIter i2 t2 (k+1)->IsPair h' s.heap.objs.size x y->(∀c o,c≠z->c≠tq->c≠i1->c≠i2->s.heap.get? c=some o->h'.get? c=some o)->Q (.ref s.heap.objs.size) { s with heap:=h' }):
  wpAny (model prog w) A (Builtin.«zip.__next__» ⟨[.ref z],[]⟩) (fun d_ s'=>∃v,d_=.done (.ret v)/\Q v s') E s:=by
 change wpAny _ _ (field (.ref z) 2 >>= _) _ _ _;refine au (gc gz rfl (x:=.bool false) rfl ?_);change wpAny _ _ (field (.ref z) 3 >>= _) _ _ _;refine au (gc gz rfl (x:=.ref ti) rfl (au (iF gi rfl ?_)));change wpAny _ _ (Builtin.SmallTypes.ownedTupleIsFree (.ref z) >>= _) _ _ _;refine au ?_;unfold Builtin.SmallTypes.ownedTupleIsFree;refine au (gc gz rfl (x:=.none) rfl (wpAny_pure ?_));simp only[jN];refine au (fv (au (gc gz rfl (x:=.ref tq) rfl ?_)));refine au (qB gz (by simp) fun m1 M5 sO=>?_);replace M5:IsZip m1 z ti tq .ellipsis:=M5;refine au ?_;simp only[B8,List.zipIdx_nil,qJ,qL];refine au (au (wpAny_onRaise ?_));change wpAny _ _ (Builtin.SmallTypes.nextOf (.ref i1) >>= _) _ _ _;refine au (oA (hV r1 sO dj.i1z) (vq g1 sO dj.l1z) ex fun m2 r12 q_=>wpAny_pure ?_);have gq2:IsPair m2 tq a b:=dO q_ dj.TOi1 (dO sO dj.TOz gq);refine au (iF gq2 rfl (au (wpAny_updateSeq_pair gq2 fun m3 gq3 M6=>?_)));replace gq3:IsPair m3 tq x b:=gq3;refine au (wpAny_letGo (wpAny_pure ?_));refine au (au (wpAny_onRaise ?_));change wpAny _ _ (Builtin.SmallTypes.nextOf (.ref i2) >>= _) _ _ _;refine au (oA (hV (hV (hV r2 sO dj.i2z) q_ dj.i12.symm) M6 dj.TOi2.symm) (vq (vq (vq g2 sO dj.l2z) q_ dj.l2i1) M6 dj.l2TO) ey fun m4 r24 Wb=>wpAny_pure ?_);have gq4:IsPair m4 tq x b:=dO Wb dj.TOi2 gq3;refine au (iF gq4 rfl (au (wpAny_updateSeq_pair gq4 fun m5 YM Wc=>?_)));replace YM:IsPair m5 tq x y:=YM;refine au (wpAny_letGo (wpAny_pure (wpAny_pure ?_)));refine au (iF YM rfl (au (uH ?_)));have sz:m5.objs.size=s.heap.objs.size:=by rw[Wc.1,Wb.1,M6.1,q_.1,sO.1]
 have gz5:IsZip m5 z ti tq .ellipsis:=dO Wc dj.TOz.symm (dO Wb dj.i2z.symm (dO M6 dj.TOz.symm (dO q_ dj.i1z.symm M5)));have kp5:∀c o,c≠z->c≠tq->c≠i1->c≠i2->s.heap.get? c=some o->m5.get? c=some o:=fun c o c1 c2 c3 c4 e=>
  dO Wc c2 (dO Wb c4 (dO M6 c2 (dO q_ c3 (dO sO c1 e))))
 have r15:m5.IsTupleIter i1 t1 (k+1):=hV (hV (hV r12 M6 dj.TOi1.symm) Wb dj.i12) Wc dj.TOi1.symm;have r25:m5.IsTupleIter i2 t2 (k+1):=hV r24 Wc dj.TOi2.symm;have zl:z<m5.objs.size:=aS gz5;change wpAny _ _ (Builtin.SmallTypes.ownedTupleHandOut (.ref z) (.ref m5.objs.size) >>= _) _ _ _;refine au ?_;unfold Builtin.SmallTypes.ownedTupleHandOut;have gz6:IsZip (m5.push { cls:=.type "tuple",data:=.seq #[x,y] }) z ti tq .ellipsis:=bP _ gz5;refine au (qB gz6 (by simp) fun m7 gz7 sb7=>?_);replace gz7:IsZip m7 z ti tq (rawInt m5.objs.size):=gz7;refine qB gz7 (by simp) fun m8 YN sb8=>?_;replace YN:IsZip m8 z ti tq (rawInt m5.objs.size):=YN;have up:∀c o,c≠z->m5.get? c=some o->m8.get? c=some o:=fun c o c1 e=>dO sb8 c1 (dO sb7 c1 (bP _ e));have gp8:IsPair m8 m5.objs.size x y:=dO sb8 (gO zl) (dO sb7 (gO zl) (cX _ rfl));rw[sz] at YN gp8;refine wpAny_pure ⟨_,rfl,?_⟩;change Q (.ref m5.objs.size) _;rw[sz];exact q m8 YN (up _ _ dj.TOz YM) (r15.at fun o e=>up _ o dj.i1z e) (r25.at fun o e=>up _ o dj.i2z e) gp8 fun c o c1 c2 c3 c4 e=>up c o c1 (kp5 c o c1 c2 c3 c4 e)
theorem JX(hh:A.handled=none)(dj:ZipApart z ti tq i1 i2 t1 t2)(gz:IsZip s.heap z ti tq .none)(gi:IsPair s.heap ti (.ref i1) (.ref i2))(r1:s.heap.IsTupleIter i1 t1 k)(g1:s.heap.IsTuple t1 xs)(ex:xs[k]?=none)(q:∀h' e,(∀c o,c≠z->c≠i1->s.heap.get? c=some o->h'.get? c=some o)->(∃o,h'.get? e=some o/\o.cls=.type "StopIteration")->E (.ref e) { s with heap:=h' }):
  wpAny (model prog w) A (Builtin.«zip.__next__» ⟨[.ref z],[]⟩) Q E s:=by
 change wpAny _ _ (field (.ref z) 2 >>= _) _ _ _;refine au (gc gz rfl (x:=.bool false) rfl ?_);change wpAny _ _ (field (.ref z) 3 >>= _) _ _ _;refine au (gc gz rfl (x:=.ref ti) rfl (au (iF gi rfl ?_)));change wpAny _ _ (Builtin.SmallTypes.ownedTupleIsFree (.ref z) >>= _) _ _ _;refine au ?_;unfold Builtin.SmallTypes.ownedTupleIsFree;refine au (gc gz rfl (x:=.none) rfl (wpAny_pure ?_));simp only[jN];refine au (fv (au (gc gz rfl (x:=.ref tq) rfl ?_)));refine au (qB gz (by simp) fun m1 M5 sO=>?_);replace M5:IsZip m1 z ti tq .ellipsis:=M5;refine au ?_;simp only[B8,List.zipIdx_nil,qJ,qL];refine au (au (wpAny_onRaise ?_));change wpAny _ _ (Builtin.SmallTypes.nextOf (.ref i1) >>= _) _ _ _;refine au (rm hh (hV r1 sO dj.i1z) (vq g1 sO dj.l1z) ex fun m2 e q_ he=>?_);obtain⟨oe,hoe,hce⟩:=he;have YO:IsZip m2 z ti tq .ellipsis:=q_ _ _ dj.i1z.symm M5;have nez:e≠z:=fun y=>by subst y;rw[YO] at hoe;cases hoe;simp at hce
 exact qB YO (by simp) fun m3 _ M6=>q m3 e (fun c o c1 c3 y=>dO M6 c1 (q_ _ _ c3 (dO sO c1 y))) ⟨oe,dO M6 nez hoe,hce⟩
theorem Dg(dj:ZipApart z ti tq i1 i2 t1 t2)(gz:IsZip s.heap z ti tq .none)(gi:IsPair s.heap ti (.ref i1) (.ref i2))(gq:IsPair s.heap tq a b)(r1:s.heap.IsTupleIter i1 t1 k)(r2:s.heap.IsTupleIter i2 t2 k)(g1:s.heap.IsTuple t1 xs)(g2:s.heap.IsTuple t2 ys)(ex:xs[k]?=some x)(ey:ys[k]?=some y)(q:∀h',IsZip h' z ti tq (rawInt s.heap.objs.size)->IsPair h' tq x y->h'.IsTupleIter i1 t1 (k+1)->h'.IsTupleIter i2 t2 (k+1)->IsPair h' s.heap.objs.size x y->(∀c o,c≠z->c≠tq->c≠i1->c≠i2->s.heap.get? c=some o->h'.get? c=some o)->Q (some (.ref s.heap.objs.size)) { s with heap:=h' }):
  wpAny (model prog w) A (pyNext (.ref z)) Q E s:=by
 have ty:s.TypeIs (.ref z) "zip":=⟨_,gz,rfl⟩
 unfold pyNext;refine au (kW (o5 (name:=Str.ofString "__next__") ty F.slot_zip_next (lN F.slot_zip_next ty F.entry_zip_next ?_ (F.args_zip_next_1 _))));exact G7 dj gz gi gq r1 r2 g1 g2 ex ey fun h' a1 a2 a3 a4 a5 a6=>wpAny_pure (q h' a1 a2 a3 a4 a5 a6)
theorem Dh(hh:A.handled=none)(dj:ZipApart z ti tq i1 i2 t1 t2)(gz:IsZip s.heap z ti tq .none)(gi:IsPair s.heap ti (.ref i1) (.ref i2))(r1:s.heap.IsTupleIter i1 t1 k)(g1:s.heap.IsTuple t1 xs)(ex:xs[k]?=none)(q:∀h',(∀c o,c≠z->c≠i1->s.heap.get? c=some o->h'.get? c=some o)->Q none { s with heap:=h' }):wpAny (model prog w) A (pyNext (.ref z)) Q E s:=by
 have ty:s.TypeIs (.ref z) "zip":=⟨_,gz,rfl⟩
 unfold pyNext;refine au (kW (o5 (name:=Str.ofString "__next__") ty F.slot_zip_next (lN F.slot_zip_next ty F.entry_zip_next (JX hh dj gz gi r1 g1 ex fun h' e hk he=>?_) (F.args_zip_next_1 _))));obtain⟨o,ho,hc⟩:=he;exact au (Ck (T:="StopIteration") (b:=true) ⟨o,ho,hc⟩ isSubtype_stop (wpAny_pure (q _ hk)))
abbrev zT(t:Addr):Obj:={ cls:=.type "tuple_iterator",data:=.fields #[.ref t,.int 0 0] }
abbrev YQ(h:Heap)(t1 t2:Addr):Heap:=((h.push (zT t1)).push (zT t2)).push { cls:=.type "tuple",data:=.seq #[.ref h.objs.size,.ref (h.push (zT t1)).objs.size] }
abbrev YR(h:Heap)(t1 t2:Addr):Heap:=(YQ h t1 t2).push { cls:=.type "tuple",data:=.seq #[.none,.none] }
abbrev Uu(h:Heap)(t1 t2:Addr):Heap:=(YR h t1 t2).push { cls:=.type "zip",data:=.fields #[.none,.bool false,.bool false,.ref ((h.push (zT t1)).push (zT t2)).objs.size,.ref (YQ h t1 t2).objs.size] }
theorem JY(t1 t2:Addr)(xs ys:bD):
  Meets (Builtin.«zip.__new__» ⟨[.type "zip",.ref t1,.ref t2],[]⟩) (fun _ R s=>s.heap.IsTuple t1 xs/\s.heap.IsTuple t2 ys/\R (.ok (.ret (.ref (YR s.heap t1 t2).objs.size))) { s with heap:=Uu s.heap t1 t2 }):=
 .of_wp fun prog w A R s h=>by
  obtain⟨hp,g,d,tk,os⟩:=s;obtain⟨g1,g2,h⟩:=h;have acn:=sub_zip;have gA:Heap.IsTuple (Shared.heap ⟨hp,g,d,tk,os⟩) t1 xs:=g1;have gB:Heap.IsTuple (Shared.heap ⟨hp.push (zT t1),g,d,tk,os⟩) t2 ys:=let ⟨o,e,z⟩:=g2;⟨o,bP _ e,z⟩
  wp_walk using uy gA,uy gB
  exact⟨_,rfl,h⟩
theorem G8(g1:s.heap.IsTuple t1 xs)(g2:s.heap.IsTuple t2 ys)(q:∀h',IsZip h' (s.heap.objs.size+4) (s.heap.objs.size+2) (s.heap.objs.size+3) .none->IsPair h' (s.heap.objs.size+2) (.ref s.heap.objs.size) (.ref (s.heap.objs.size+1))->IsPair h' (s.heap.objs.size+3) .none .none->
   h'.IsTupleIter s.heap.objs.size t1 0->h'.IsTupleIter (s.heap.objs.size+1) t2 0->(∀c o,s.heap.get? c=some o->h'.get? c=some o)->Q (.ref (s.heap.objs.size+4)) { s with heap:=h' }):
  wpAny (model prog w) A (call (.type "zip") [.ref t1,.ref t2]) Q E s:=by
 refine callType_new F.called_zip (by decide) (F.typeCall_zip_2 _ _) (F.newCall_zip_2 _ _) (fun obj=>F.args_object_init_3 obj _ _) F.entry_zip_new (JY t1 t2 xs ys) ⟨g1,g2,?_⟩;have n1:(s.heap.push (zT t1)).objs.size=s.heap.objs.size+1:=jc ..;have n2:((s.heap.push (zT t1)).push (zT t2)).objs.size=s.heap.objs.size+2:=by rw[jc,n1]
 have n3:(YQ s.heap t1 t2).objs.size=s.heap.objs.size+3:=by rw[jc,n2]
 have n4:(YR s.heap t1 t2).objs.size=s.heap.objs.size+4:=by rw[jc,n3]
 have e5:(Uu s.heap t1 t2).get? (YR s.heap t1 t2).objs.size=some _:=cX _ rfl;have e4:(Uu s.heap t1 t2).get? (YQ s.heap t1 t2).objs.size=some _:=bP _ (cX _ rfl);have e3:(Uu s.heap t1 t2).get? ((s.heap.push (zT t1)).push (zT t2)).objs.size=some _:=bP _ (bP _ (cX _ rfl));have e2:(Uu s.heap t1 t2).get? (s.heap.push (zT t1)).objs.size=some _:=bP _ (bP _ (bP _ (cX _ rfl)));have e1:(Uu s.heap t1 t2).get? s.heap.objs.size=some _:=bP _ (bP _ (bP _ (bP _ (cX _ rfl))));change _/\_;rw[n2,n3,n4] at e5;rw[n1,n2] at e3;rw[n3] at e4;rw[n1] at e2;rw[n4];exact⟨⟨_,e5,rfl⟩,q _ e5 e3 e4 ⟨_,e1,rfl,rfl⟩ ⟨_,e2,rfl,rfl⟩ fun c o y=>
  bP _ (bP _ (bP _ (bP _ (bP _ y))))⟩
end
theorem aU.M7{X:Cx}{af:cE}{σ:St}{H:Hp}{s:aR}{h':Heap}{t':Nat}{ch:bR}(I:aU X af σ H s)(fe:∀e∈ch,hZ X af H e)(k:∀b o,b∉ch->s.heap.get? b=some o->h'.get? b=some o):aU X af σ H { s with heap:=h',toks:=t' }:=by
 have O5:∀b u,H b=some u->b∉ch:=fun b u e z=>by rw[(fe b z).1] at e;cases e
 refine I.step (g':=s.gens) (d':=s.drawn) (ch:=ch) (fun b hb=>?_) (fun b o _ _ hc e _=>k b o hc e) (fun b o _ _ hc e _=>⟨o.slots,k b o hc e⟩) (fun _ _ _ _ n=>n) (fun b o hc e=>⟨o,k b o hc e⟩) (fun _ _ e=>e) (fun _ _ _ e=>e) (fun b ps e=>⟨#[],by rw[e];simp⟩) (fun m hm=>?_) (fun b u e=>?_) I.bare
 .obtain⟨_,f1,_,f3,f4,f5⟩:=fe b hb;exact⟨f3,f1,f4,f5⟩
 .obtain⟨o,es,ep,ho,r⟩:=hm;exact⟨o,es,ep,k _ o (fun z=>(fe _ z).2.1 rfl) ho,r⟩
 .refine(I.cY b u e).jP (fun c v hc q=>k c v ?_ q) (fun _ q=>q) fun _ _ q=>q;rcases hc with z|z
  .rw[z];exact O5 b u e
  .exact O5 c _ z
theorem aU.M8{X:Cx}{af:cE}{σ:St}{H:Hp}{s:aR}{h':Heap}{p:Addr}{t':Nat}{ch:bR}{xs:bg}{its:bw}(I:aU X af σ H s)(fe:∀e∈ch,hZ X af H e)(k:∀b o,b∉ch->s.heap.get? b=some o->h'.get? b=some o)(hp:s.heap.objs.size<=p)(hl:xs.length<=sizeLine)(r:ba xs its)(ht:h'.get? p=some { cls:=.type "tuple",data:=.seq its.toArray }):aU X af σ (upd H p (.tup xs)) { s with heap:=h',toks:=t' }:=by
 have hn:=I.cY.fresh hp;have ne:∀b o,s.heap.get? b=some o->b≠p:=fun b o q=>bf (bv (aS q) hp);have O5:∀b u,H b=some u->b∉ch:=fun b u e z=>by rw[(fe b z).1] at e;cases e
 refine I.step (g':=s.gens) (d':=s.drawn) (ch:=ch) (fun b hb=>?_) (fun b o _ _ hb q _=>k b o hb q) (fun b o _ _ hb q _=>⟨o.slots,k b o hb q⟩) (fun b o hb q n=>by rw[aq (ne b o q)];exact n) (fun b o hb q=>⟨o,k b o hb q⟩)
  (fun b ys q=>by rw[aq (am q hn)];exact q) (fun b o u q=>by rw[aq (am q hn)];exact q) (fun b ps q=>⟨#[],by rw[aq (am q hn),q];simp⟩) (fun m hm=>?_) (fun b o q=>?_) I.bare
 .obtain⟨_,f1,_,f3,f4,f5⟩:=fe b hb;exact⟨f3,f1,f4,f5⟩
 .obtain⟨o,es,ep,q,d,r'⟩:=hm;exact⟨o,es,ep,k _ _ (fun z=>(fe _ z).2.1 rfl) q,d,r'⟩
 .by_cases hb:b=p
  .subst hb;rw[ae] at q;cases q;exact⟨hl,its,r,_,ht,rfl,_,rfl,rfl⟩
  .rw[aq hb] at q;refine(I.cY b o q).jP (fun c u hc z=>k c u ?_ z) (fun c z=>by rw[aq (am z hn)];exact z) fun c ys z=>by rw[aq (am z hn)];exact z
   rcases hc with rfl|hc
   .exact O5 _ _ q
   .exact O5 _ _ hc
def Itz(K:a_)(a b:Addr):It:=
 ⟨fun i H=>∃xs ys x y,cu K H a xs/\cu K H b ys/\xs[i]?=some x/\ys[i]?=some y,fun i H v H'=>∃p x y,v=.ref p/\H p=none/\H'=upd H p (.tup [x,y])/\(∀xs,cu K H a xs->xs[i]?=some x)/\∀ys,cu K H b ys->ys[i]?=some y,fun i H=>∃xs,cu K H a xs/\xs.length<=i⟩
theorem JZ{P:bL}{w:World}{K:a_}{es:gZ}{x1:Nat}{pos:Pos}(a b z ti tq i1 i2:Addr)(dj:ZipApart z ti tq i1 i2 a b):
  zO P w K (.Tuple es x1 pos) (Itz K a b) [z,ti,tq,i1,i2] z (fun i h=>IsZip h z ti tq .none/\IsPair h ti (.ref i1) (.ref i2)/\(∃u v,IsPair h tq u v)/\h.IsTupleIter i1 a i/\h.IsTupleIter i2 b i) where
 mem:=by simp
 obj:=fun i h st c hc=>by
  obtain⟨gz,gi,⟨u,v,gq⟩,⟨o1,q1,c1,d1⟩,⟨o2,q2,c2,d2⟩⟩:=st;simp only[bq,jG,jM] at hc;rcases hc with rfl|rfl|rfl|rfl|rfl
  .exact⟨_,gz,fun v z=>by have z':Data.fields _=Data.cell v:=z;cases z'⟩
  .exact⟨_,gi,fun v z=>by have z':Data.seq _ _=Data.cell v:=z;cases z'⟩
  .exact⟨_,gq,fun v z=>by have z':Data.seq _ _=Data.cell v:=z;cases z'⟩
  .exact⟨o1,q1,fun v z=>by rw[d1] at z;cases z⟩
  .exact⟨o2,q2,fun v z=>by rw[d2] at z;cases z⟩
 keep:=fun i h h' st k=>by
  obtain⟨gz,gi,⟨u,v,gq⟩,r1,r2⟩:=st;exact⟨k z (by simp) _ gz,k ti (by simp) _ gi,⟨u,v,k tq (by simp) _ gq⟩,r1.at fun o q=>k i1 (by simp) o q,r2.at fun o q=>k i2 (by simp) o q⟩
 item:=by
  intro X hP hw hK hc i af s σ H E I hf st hg;subst hP hw hK;obtain⟨xs,ys,x,y,hx,hy,ex,ey⟩:=hg;obtain⟨us,rx,px,_⟩:=I.tuple hx;obtain⟨vs,ry,py,_⟩:=I.tuple hy;obtain⟨u,hu,ru⟩:=rx.get ex;obtain⟨v,hv,rv⟩:=ry.get ey;obtain⟨gz,gi,⟨u0,v0,gq⟩,r1,r2⟩:=st;refine Dg dj gz gi gq r1 r2 (show s.heap.IsTuple a us.toArray from px) (show s.heap.IsTuple b vs.toArray from py) (x:=u) (y:=v) (by simpa using hu) (by simpa using hv) fun h1 M5 gq1 r11 r21 gp1 kp=>?_;refine⟨_,rfl,wpAny_letOwnedTupleGo_zip M5 fun h2 YO q_=>?_⟩;have zl:z<s.heap.objs.size:=aS gz;have nz:s.heap.objs.size≠z:=gO zl;have kp2:∀c o,c∉[z,tq,i1,i2]->s.heap.get? c=some o->h2.get? c=some o:=fun c o hc e=>by
   simp only[bq,jG,jM,not_or] at hc;exact dO q_ hc.1 (kp c o hc.1 hc.2.1 hc.2.2.1 hc.2.2.2 e)
  have gi2:IsPair h2 ti (.ref i1) (.ref i2):=kp2 _ _ (by simp only[bq,jG,jM,not_or];exact⟨dj.TIz,dj.TITO,dj.TIi1,dj.TIi2⟩) gi;have fe:∀e∈[z,tq,i1,i2],hZ X af H e:=fun e he=>hf e (by simp only[bq,jG,jM] at he |-;rcases he with h|h|h|h <;> simp[h]);have I2:aU X af σ (upd H s.heap.objs.size (.tup [x,y])) { s with heap:=h2,toks:=s.toks }:=
   I.M8 (its:=[u,v]) fe kp2 (aP _) (by show 2<=sizeLine;decide) (.cons ru (.cons rv .nil)) (dO q_ nz gp1)
  refine⟨.ref s.heap.objs.size,_,I2,rfl,⟨_,x,y,rfl,I.cY.fresh (aP _),rfl,fun zs hz=>by rw[I.ik hz hx];exact ex,fun zs hz=>by rw[I.ik hz hy];exact ey⟩,⟨YO,gi2,⟨u,v,dO q_ dj.TOz gq1⟩,hV r11 q_ dj.i1z,hV r21 q_ dj.i2z⟩,fun c hc=>?_⟩;have f0:=(hf c hc).1;have cl:c<s.heap.objs.size:=by
   simp only[bq,jG,jM] at hc;rcases hc with rfl|rfl|rfl|rfl|rfl
   .exact zl
   .exact aS gi
   .exact aS gq
   .obtain⟨o,q,_⟩:=r1;exact aS q
   .obtain⟨o,q,_⟩:=r2;exact aS q
  rw[aq (bf cl)];exact f0
 done:=by
  intro X hP hw hK hc i af s σ H E I hf st hg;subst hP hw hK;obtain⟨xs,hx,hi⟩:=hg;obtain⟨us,rx,px,_⟩:=I.tuple hx;obtain⟨gz,gi,⟨u0,v0,gq⟩,r1,r2⟩:=st;have hl:=rx.length;refine Dh (I.ok.hd hc) dj gz gi r1 (show s.heap.IsTuple a us.toArray from px) (by simp;lia) fun h' kp=>⟨rfl,?_⟩
  have fe:∀e∈[z,i1],hZ X af H e:=fun e he=>hf e (by simp only[bq,jG,jM] at he |-;rcases he with h|h <;> simp[h]);refine I.M7 (t':=s.toks) fe fun c o hc e=>?_;simp only[bq,jG,jM,not_or] at hc;exact kp c o hc.1 hc.2 e
 self:=fun _ _ _ _ _ st h=>Cj st.1 h
section
variable {X:Cx}
def Wd(K:a_)(ta:TA):TI:=fun σ H R=>ta σ H fun vs H1=>∃a b xs ys,vs=[.ref a,.ref b]/\cu K H1 a xs/\cu K H1 b ys/\xs.length=ys.length/\R (Itz K a b) H1
theorem M9{es:gZ}{x1:Nat}{My:Pos}{a b:Expr}{ta:TA}{p pos:Pos}(hg:Gl X "zip")(hm:X.mg "zip"=none)(ha:PA X [a,b] ta)(hs:starEach [a,b] X.env=[(false,eval a X.env),(false,eval b X.env)]:=by rfl)(oX:starEach [b] X.env=[(false,eval b X.env)]:=by rfl):
  PI X (.Tuple es x1 My) (.Call (.Name "zip" p) [a,b] [] pos) (Wd X.K ta):=by
 intro af s σ H R I h;refine Call_ (jQ I hg hm PyProof.Rows.boot_zip (qk (eD (ha pos af s σ H _ I h) fun us s1 ⟨vs,H1,I1,r1,q1⟩=>?_) (by rw[hs,oX]) (by rw[oX];rfl)));obtain⟨l,m,xs,ys,rfl,hl,hm',wT,q⟩:=q1;obtain⟨u1,u2,rfl,V6,ru2⟩:=r1.two;obtain rfl:u1=Value.ref l:=V6;obtain rfl:u2=Value.ref m:=ru2;obtain⟨its,rv,pt,_⟩:=I1.tuple hl;obtain⟨k_,rv2,Es,_⟩:=I1.tuple hm';have eX:l<s1.heap.objs.size:=by obtain⟨o,e,_⟩:=pt;exact aS e
 have J0:m<s1.heap.objs.size:=by obtain⟨o,e,_⟩:=Es;exact aS e
 refine G8 (show s1.heap.IsTuple l its.toArray from pt) (show s1.heap.IsTuple m k_.toArray from Es) fun h' gz gi gq r1 r2 k=>?_;refine Cj gz ?_;have I2:aU X af σ H1 { s1 with heap:=h' }:=I1.kept (t':=s1.toks) k;refine⟨s1.heap.objs.size+4,[s1.heap.objs.size+4,s1.heap.objs.size+2,s1.heap.objs.size+3,s1.heap.objs.size,s1.heap.objs.size+1],_,_,H1,rfl,I2,JZ l m _ _ _ _ _ (zipApart_new eX J0),⟨gz,gi,⟨_,_,gq⟩,r1,r2⟩,fun b hb=>?_,q⟩;have v6:s1.heap.objs.size<=b:=by
  simp only[bq,jG,jM] at hb;rcases hb with rfl|rfl|rfl|rfl|rfl
  .exact xE _ _
  .exact xE _ _
  .exact xE _ _
  .exact aP _
  .exact xE _ _
 exact I1.zN v6 (I1.cY.fresh v6)
theorem J4{K:a_}{a b D:Addr}{xs ys:bg}{g:TG}{tt:TT}{te:TE}{d_:rP}{σB:St}{H0:Hp}(wT:xs.length=ys.length)(Pv:zJ)(h0:Pv 0 [] σB H0)(hl:∀i zs σ H,i<=xs.length->Pv i zs σ H->cu K H a xs/\cu K H b ys)(hs:∀i x y p zs σ H (Kt:j_) (Kf:iu),xs[i]?=some x->ys[i]?=some y->Pv i zs σ H->H p=none->
   (∀v σ2 H4,H4 D=some (.lst zs)->zs.length<sizeLine->Pv (i+1) (zs++[v]) σ2 (upd H4 D (.lst (zs++[v])))->Kt v σ2 H4)->(∀σ2 H3,Pv (i+1) zs σ2 H3->Kf σ2 H3)->
   g (.ref p) σ (upd H p (.tup [x,y])) fun σ2 H2=>tt σ2 H2 fun b H3=>if b=true then te σ2 H3 fun v H4=>Kt v σ2 H4 else Kf σ2 H3)(hd:∀zs σ H,Pv xs.length zs σ H->d_ H):iy (Itz K a b) g tt te D d_ σB H0:=by
 refine⟨fun i m σ H=>m=xs.length-i/\i<=xs.length/\∃zs,Pv i zs σ H,⟨xs.length,by simp,cp _,[],h0⟩,?_⟩;rintro i m σ H ⟨rfl,hi,zs,p⟩;obtain⟨q1,q2⟩:=hl i zs σ H hi p;by_cases eX:i<xs.length
 .have J0:i<ys.length:=by lia
  refine .inr ⟨⟨xs,ys,xs[i],ys[i],q1,q2,by simp[eX],by simp[J0]⟩,?_⟩;rintro v H' ⟨pp,x,y,rfl,hn,rfl,QZ,hv2⟩;exact hs i x y pp zs σ _ (fun v σ2 H4=>∃zs,H4 D=some (.lst zs)/\zs.length<sizeLine/\∃m',m'<xs.length-i/\m'=xs.length-(i+1)/\i+1<=xs.length/\∃jy,Pv (i+1) jy σ2 (upd H4 D (.lst (zs++[v]))))
   (fun σ2 H3=>∃m',m'<xs.length-i/\m'=xs.length-(i+1)/\i+1<=xs.length/\∃jy,Pv (i+1) jy σ2 H3) (QZ xs q1) (hv2 ys q2) p hn
   (fun v σ2 H4 z1 z2 z3=>⟨zs,z1,z2,_,by lia,rfl,eX,_,z3⟩) (fun σ2 H3 z=>⟨_,by lia,rfl,eX,_,z⟩)
 .have e:i=xs.length:=by lia
  subst e;exact .inl ⟨⟨xs,q1,aP _⟩,hd zs σ H p⟩
theorem Di(rx:ba xs us)(ry:ba ys vs)(fx:xs.all g7=true)(fy:ys.all g7=true):
  ∀j (h1:j<us.toArray.size) (h2:j<vs.toArray.size),SeqAt.EqAt A s us.toArray[j] vs.toArray[j] (uY (xs.getD j .cI) (ys.getD j .cI)):=by
 intro j h1 h2;have j1:j<xs.length:=by rw[rx.length];simpa using h1
 have j2:j<ys.length:=by rw[ry.length];simpa using h2
 have e1:xs[j]?=some (xs.getD j .cI):=by rw[cw,cz j1];rfl
 have e2:ys[j]?=some (ys.getD j .cI):=by rw[cw,cz j2];rfl
 obtain⟨u,VR,ru⟩:=rx.get e1;obtain⟨v,QZ,rv⟩:=ry.get e2;have eu:us.toArray[j]=u:=by
  have:us[j]?=some us.toArray[j]:=by simp at h1 |-
  rw[VR] at this;exact(cB this).symm
 have ev:vs.toArray[j]=v:=by
  have:vs[j]?=some vs.toArray[j]:=by simp at h2 |-
  rw[QZ] at this;exact(cB this).symm
 rw[eu,ev];exact x_ ru rv (kO.mp fx _ (dz e1)) (kO.mp fy _ (dz e2))
theorem J9(I:aU X af σ H s)(hu:A.units+1<cLine)(ha:cu X.K H a xs)(hb:cu X.K H b ys)(hl:xs.length=ys.length)(fx:xs.all g7=true)(fy:ys.all g7=true):
  SeqAt.EqAt A s (.ref a) (.ref b) (jv uY xs ys):=by
 by_cases rX:a=b
 .subst rX;have e1:=I.ik ha hb;subst e1;have e2:jv uY xs xs=true:=by
   clear ha hb hl fy;induction xs with
   |nil=>rfl
   |cons x xs ih=>
    rw[lV,gm] at fx;rw[jv,ih fx.2,Bool.and_true];cases x <;> first|rfl|(show (_==_)=true;simp)|exact absurd (show false=true from fx.1) di
  rw[e2];exact SeqAt.EqAt.same _
 .obtain⟨us,r1,p1,_⟩:=I.tuple ha;obtain⟨vs,r2,p2,_⟩:=I.tuple hb;have h:=SeqAt.RcAt.tuples (A:=A) (s:=s) (l:=a) (b:=b) (e:=fun i=>uY (xs.getD i .cI) (ys.getD i .cI)) (show s.heap.IsTuple a us.toArray from p1) (show s.heap.IsTuple b vs.toArray from p2) (by lia)
   (Di r1 r2 fx fy)
  refine SeqAt.EqAt.of_refs rX ?_;have er:((List.range (min us.toArray.size vs.toArray.size)).all (fun i=>uY (xs.getD i .cI) (ys.getD i .cI))&&us.toArray.size==vs.toArray.size)=jv uY xs ys:=by
   rw[ce,ce,<-r1.length,<-r2.length,<-hl,uM,beq_self_eq_true,Bool.and_true,mf hl]
  rw[er] at h;exact h
theorem Dj{p q:lG}:jv uY [.int p.1,.int p.2] [.int q.1,.int q.2]=decide (p=q):=by
 obtain⟨a,b⟩:=p;obtain⟨c,d⟩:=q;show ((a==c)&&((b==d)&&true))=decide ((a,b)=(c,d));by_cases h1:a=c <;> by_cases h2:b=d <;> simp[h1,h2]
def Rj(K:a_)(QG:Bool):R2:=fun x y H Q=>∃ (p l:Addr) (u:lG) (as:bR) (ps:o0),x=.ref p/\y=.ref l/\cu K H p [.int u.1,.int u.2]/\a8 K H l (as.map V.ref)/\as.length=ps.length/\(∀i,i<ps.length->cu K H (as.getD i 0) [.int (ps.getD i (0,0)).1,.int (ps.getD i (0,0)).2])/\
 Q (.bl (if QG then !decide (u∈ps) else decide (u∈ps))) H
open Classical in
theorem E3(I:aU X af σ H s):∀ {as:bR} {ps:o0},as.length=ps.length->(∀i,i<ps.length->cu X.K H (as.getD i 0) [.int (ps.getD i (0,0)).1,.int (ps.getD i (0,0)).2])->
  ((as.map Value.ref).any fun v=>decide (∃a,v=Value.ref a/\cu X.K H a [.int u.1,.int u.2]))=decide (u∈ps)
 |[],[],_,_=>by simp
 |a::as,p::ps,hl,h=>by
  have ih:=E3 I (u:=u) (as:=as) (ps:=ps) (by simpa using hl) (fun i hi=>h (i+1) (by simpa using hi));have h0:cu X.K H a [.int p.1,.int p.2]:=h 0 (by simp);rw[gJ,lU,ih];have e:decide (∃b,Value.ref a=Value.ref b/\cu X.K H b [.int u.1,.int u.2])=decide (u=p):=by
   rw[kQ,nW,nW];constructor
   .rintro⟨b,e,hb⟩;cases e;have:=I.ik h0 hb;have e1:p.1=u.1:=V.int.inj (oh this).1;have e2:p.2=u.2:=V.int.inj (oh (oh this).2).1;exact iH e1.symm e2.symm
   .rintro rfl;exact⟨a,rfl,h0⟩
  rw[e];by_cases z:u=p
  .simp[z]
  .simp[z]
open Classical in
theorem J_{af:cE}{σ:St}{H:Hp}{s:aR}{A:br}(I:aU X af σ H s)(hu:A.units+1<cLine){p:Addr}{u:lG}(hp:cu X.K H p [.int u.1,.int u.2]){as:bR}{ps:o0}(hl:as.length=ps.length)(h:∀i,i<ps.length->cu X.K H (as.getD i 0) [.int (ps.getD i (0,0)).1,.int (ps.getD i (0,0)).2]):∀v∈as.map Value.ref,SeqAt.EqAt A s v (.ref p) (decide (∃a,v=Value.ref a/\cu X.K H a [.int u.1,.int u.2])):=by
 intro v hv;obtain⟨a,ha,rfl⟩:=bB.mp hv;obtain⟨i,hi,e⟩:=nQ.mp ha;have hq:=h i (by lia);have ea:as.getD i 0=a:=by rw[cw,cz hi];exact e
 rw[ea] at hq;have z:=J9 (A:=A) I hu hq hp rfl rfl rfl;rw[Dj] at z;have e:decide (∃b,Value.ref a=Value.ref b/\cu X.K H b [.int u.1,.int u.2])=decide (ps.getD i (0,0)=u):=by
  rw[kQ,nW,nW];constructor
  .rintro⟨b,e,hb⟩;cases e;have:=I.ik hq hb;exact iH (V.int.inj (oh this).1) (V.int.inj (oh (oh this).2).1)
  .intro e;rw[<-e];exact⟨a,rfl,hq⟩
 rw[e];exact z
open Classical in
theorem mR(hu:X.A.units+2<cLine):nr X (compareOp .NotIn) (Rj X.K true):=by
 intro af s σ H x y v u Q I rx ry h;obtain⟨p,l,w,as,ps,rfl,rfl,hp,hl,e8,hps,q⟩:=h;obtain rfl:v=Value.ref p:=rx;obtain rfl:u=Value.ref l:=ry;obtain⟨its,r,pl,_⟩:=I.list hl;have e:=pP r;subst e;refine SeqAt.notIn_listAt (fun v=>decide (∃a,v=Value.ref a/\cu X.K H a [.int w.1,.int w.2])) pl.isList (fun y hy=>J_ I (by show X.A.units+1+1<cLine;lia) hp e8 hps y (by simpa using hy)) ⟨.bl _,H,I,rfl,?_⟩;rw[show (as.map Value.ref).toArray.any (fun v=>decide (∃a,v=Value.ref a/\cu X.K H a [.int w.1,.int w.2]))=(as.map Value.ref).any (fun v=>decide (∃a,v=Value.ref a/\cu X.K H a [.int w.1,.int w.2])) by simp,E3 I e8 hps];exact q
end
end L2
namespace ln
abbrev Ts:=List (Int×Int)
def T(ts:Ts)(a b:Nat):Prop:=(((a:Nat):Int),((b:Nat):Int))∈ts
instance (ts:Ts) (a b:Nat):Decidable (T ts a b):=inferInstanceAs (Decidable (_∈_))
def fU(ts:Ts):Nat->Nat->Nat->Prop
 |0,a,b=>a=b
 |k+1,a,b=>∃c,fU ts k a c/\T ts c b
theorem fU.trans(h:fU ts k a b):∀ {l:Nat} {c:Nat},fU ts l b c->fU ts (k+l) a c
 |0,_,e=>by cases e;exact h
 |l+1,_,⟨d,w,t⟩=>⟨d,h.trans w,t⟩
theorem fU.one(h:T ts a b):fU ts 1 a b:=⟨a,rfl,h⟩
theorem fU.cons(h:T ts a b)(w:fU ts k b c):fU ts (k+1) a c:=by
 have:=(fU.one h).trans w;rwa [Nat.add_comm] at this
def wZ(ts:Ts)(a b d:Nat):Prop:=fU ts d a b/\∀k,fU ts k a b->d<=k
theorem wZ.uniq(h:wZ ts a b d)(g:wZ ts a b e):d=e:=Nat.le_antisymm (h.2 _ g.1) (g.2 _ h.1)
open Classical in
noncomputable def far(ts:Ts)(a b:Nat):Nat:=if h:∃d,wZ ts a b d then h.choose else 0
theorem Rk(h:wZ ts a b d):far ts a b=d:=by
 unfold far;have hx:∃d,wZ ts a b d:=⟨d,h⟩
 rw[dif_pos hx];exact hx.choose_spec.uniq h
structure cJ(n:Nat)(ts:Ts):Prop where
 n1:2<=n
 n2:n<=32
 nd:ts.Nodup
 rg:∀t∈ts,(0<=t.1/\t.1<n)/\(0<=t.2/\t.2<n)
 ne:∀t∈ts,t.1≠t.2
 G9:∀h:Int,(ts.filter fun t=>decide (t.1=h)).length=(ts.filter fun t=>decide (t.2=h)).length
 most:∀h:Int,(ts.filter fun t=>decide (t.1=h)).length<=8
 con:∀a b,a<n->b<n->∃k,fU ts k a b
theorem G_(f:α->Int):∀ (l:List α) (n:Nat),(∀x∈l,0<=f x/\f x<n)->(∀h:Int,(l.filter fun t=>decide (f t=h)).length<=8)->l.length<=8*n:=by
 intro l n;induction n generalizing l with
 |zero=>
  intro h _;cases l with
  |nil=>simp
  |cons x xs=>have:=h x cK;lia
 |succ n ih=>
  intro h h8;have e:l.length=(l.filter fun t=>decide (f t=(n:Int))).length+(l.filter fun t=>!decide (f t=(n:Int))).length:=by
   induction l with
   |nil=>rfl
   |cons x xs ih2=>
    have:=ih2 (fun y hy=>h y (dq _ hy)) (fun hh=>aZ (by rw[eU];split <;> simp) (h8 hh));by_cases q:f x=(n:Int) <;> simp[eU,q] <;> lia
  have i2:=ih (l.filter fun t=>!decide (f t=(n:Int))) (fun x hx=>by
   have a:=h x (gb.mp hx |>.1);have b:=(gb.mp hx).2;simp at b;lia) (fun hh=>by
   refine aZ ?_ (h8 hh);exact(BU.filter _).length_le)
  have:=h8 (n:Int);lia
theorem cJ.len(F:cJ n ts):ts.length<=256:=by
 have:=G_ (·.1) ts n (fun t ht=>(F.rg t ht).1) F.most;have:=F.n2;lia
theorem cJ.tlt(F:cJ n ts)(h:T ts a b):a<n/\b<n/\a≠b:=by
 have q:=F.rg _ h;have q2:=F.ne _ h;refine⟨by have:=q.1;simp at this;lia,by have:=q.2;simp at this;lia,fun e=>q2 (by rw[e])⟩
def bX(n:Nat)(ts:Ts)(h:Nat):List Nat:=((List.range n).map fun s=>(h+s) % n).filter fun o=>decide (T ts h o)
theorem ji(F:cJ n ts)(hh:h<n):o∈bX n ts h↔T ts h o:=by
 unfold bX;rw[gb,ur];refine⟨fun z=>z.2,fun z=>⟨?_,z⟩⟩;obtain⟨_,h2,_⟩:=F.tlt z;refine bB.mpr ⟨if h<=o then o-h else o+n-h,bY.mpr (by split <;> lia),?_⟩;split
 .rw[show h+(o-h)=o by lia,jF h2]
 .rw[show h+(o+n-h)=o+n by lia,Nat.add_mod_right,jF h2]
theorem tV(F:cJ n ts)(hh:h<n)(ho:o∈bX n ts h):o<n:=(F.tlt ((ji F hh).mp ho)).2.1
def key(n h o:Nat):Int:=((o:Int)-(h:Int)) % (n:Int)
theorem rj(hh:h<n)(hs:s<n):key n h ((h+s) % n)=(s:Int):=by
 unfold key;by_cases c:h+s<n
 .rw[jF c,show (((h+s:Nat):Int)-(h:Int))=(s:Int) by lia];exact Int.emod_eq_of_lt (by lia) (by lia)
 .have e:(h+s) % n=h+s-n:=by
   rw[Nat.mod_eq_sub_mod (by lia),jF (by lia)]
  rw[e,show ((((h+s-n:Nat)):Int)-(h:Int))=(s:Int)-(n:Int) by lia,Int.sub_emod_right];exact Int.emod_eq_of_lt (by lia) (by lia)
theorem rY(hh:h<n):(bX n ts h).Pairwise fun a b=>key n h a<key n h b:=by
 unfold bX;refine BP _ ?_;refine gk.mpr ?_;refine List.Pairwise.imp_of_mem ?_ (List.pairwise_lt_range (n:=n));intro a b ha hb rX;rw[rj hh (bY.mp ha),rj hh (bY.mp hb)];lia
theorem rZ{α:Type}{k:α->Int}:∀ {a b:List α},a.Pairwise (fun x y=>k x<k y)->b.Pairwise (fun x y=>k x<k y)->(∀x,x∈a↔x∈b)->a=b
 |[],[],_,_,_=>rfl
 |[],y::ys,_,_,h=>absurd ((h y).mpr cK) (by simp)
 |x::xs,[],_,_,h=>absurd ((h x).mp cK) (by simp)
 |x::xs,y::ys,ha,hb,h=>by
  obtain⟨a1,a2⟩:=xA.mp ha;obtain⟨b1,b2⟩:=xA.mp hb;have e:x=y:=by
   rcases bq.mp ((h x).mp cK) with z|z
   .exact z
   .rcases bq.mp ((h y).mpr cK) with z'|z'
    .exact z'.symm
    .have q1:=b1 x z;have q2:=a1 y z';lia
  subst e;refine congrArg (x::·) (rZ a2 b2 fun z=>⟨fun hz=>?_,fun hz=>?_⟩)
  .rcases bq.mp ((h z).mp (dq _ hz)) with q|q
   .subst q;exact absurd (a1 _ hz) (by lia)
   .exact q
  .rcases bq.mp ((h z).mpr (dq _ hz)) with q|q
   .subst q;exact absurd (b1 _ hz) (by lia)
   .exact q
structure Br(n:Nat)(ts:Ts)(s i:Nat)(R:aQ)(f:ub):Prop where
 nd:R.Nodup
 lt:∀x∈R,x<n
 st:s∈R
 z:f s=0
 wk:∀x∈R,fU ts (f x) s x
 up:R.Pairwise fun a b=>f a<=f b
 bd:∀u,R[i]?=some u->∀x∈R,f x<=f u+1
 cl:∀j u,j<i->R[j]?=some u->∀v,T ts u v->v∈R/\f v<=f u+1
theorem Br.start(hs:s<n):Br n ts s 0 [s] (fun _=>0):=
 ⟨by simp,fun x hx=>by simp at hx;lia,by simp,rfl,fun x hx=>by simp at hx;subst hx;rfl,by simp,fun u _ x _=>by lia,fun j u h=>absurd h (by lia)⟩
def put(f:ub)(v k:Nat):Nat->Nat:=fun y=>if y=v then k else f y
theorem kB:put f v k v=k:=by simp[put]
theorem hW(h:x≠v):put f v k x=f x:=by simp[put,h]
theorem Br.add(B:Br n ts s i R f)(hu:R[i]?=some u)(hv:v<n)(t:T ts u v)(hn:v∉R):Br n ts s i (R++[v]) (put f v (f u+1)):=by
 have hur:u∈R:=dz hu;have nv:∀x∈R,x≠v:=fun x hx e=>hn (e ▸ hx);have hi:i<R.length:=(eR.mp hu).1;refine⟨?_,fun x hx=>?_,gC _ B.st,by rw[hW (nv s B.st)];exact B.z,fun x hx=>?_,?_,fun w hw x hx=>?_,fun j w hj hw x hx=>?_⟩
 .rw[j7];exact⟨B.nd,by simp,fun a ha b hb e=>by simp at hb;subst hb;exact hn (e ▸ ha)⟩
 .rcases cL.mp hx with z|z
  .exact B.lt x z
  .simp at z;lia
 .rcases cL.mp hx with z|z
  .rw[hW (nv x z)];exact B.wk x z
  .simp at z;subst z;rw[kB];exact⟨u,B.wk u hur,t⟩
 .rw[List.pairwise_append];refine⟨B.up.imp_of_mem fun {a b} ha hb h=>by rw[hW (nv a ha),hW (nv b hb)];exact h,by simp,fun a ha b hb=>?_⟩;simp at hb;subst hb;rw[hW (nv a ha),kB];exact B.bd u hu a ha
 .have hw':w=u:=by
   rw[j4 hi,hu] at hw;exact(cB hw).symm
  subst hw';rw[hW (nv w hur)];rcases cL.mp hx with z|z
  .rw[hW (nv x z)];exact B.bd w hu x z
  .simp at z;subst z;rw[kB];exact aP _
 .rw[j4 (by lia)] at hw;obtain⟨a,b⟩:=B.cl j w hj hw x hx;refine⟨gC _ a,?_⟩;rw[hW (nv x a),hW (nv w (dz hw))];exact b
theorem Br.next(B:Br n ts s i R f)(hu:R[i]?=some u)(h:∀v,T ts u v->v∈R/\f v<=f u+1):Br n ts s (i+1) R f:=by
 refine⟨B.nd,B.lt,B.st,B.z,B.wk,B.up,fun w hw x hx=>?_,fun j w hj hw v hv=>?_⟩
 .have h1:=B.bd u hu x hx;have h2:f u<=f w:=by
   have hi:i<R.length:=(eR.mp hu).1;have vO:i+1<R.length:=(eR.mp hw).1;have:=qm.mp B.up i (i+1) hi vO (by lia);rw[cz hi] at hu;rw[cz vO] at hw;rw[cB hu,cB hw] at this;exact this
  lia
 .by_cases e:j=i
  .subst e;rw[hu] at hw;cases hw;exact h v hv
  .exact B.cl j w (by lia) hw v hv
theorem f8:∀ {n:Nat} {R:aQ},R.Nodup->(∀x∈R,x<n)->R.length<=n:=by
 intro n R hn hl;have key:∀ (a b:aQ),a.Nodup->(∀x∈a,x∈b)->a.length<=b.length:=by
  intro a;induction a with
  |nil=>intro b _ _;exact cp _
  |cons x xs ih=>
   intro b hn hs;obtain⟨h1,h2⟩:=gI.mp hn;have hx:x∈b:=hs x cK;have:=ih (b.erase x) h2 fun y hy=>(BN (fun (e:y=x)=>h1 (e ▸ hy))).mpr (hs y (dq _ hy));rw[BC hx] at this;have:0<b.length:=ue hx;rw[fj];lia
 have:=key R (List.range n) hn fun x hx=>bY.mpr (hl x hx);rwa [dk] at this
theorem Br.done(B:Br n ts s i R f)(F:cJ n ts)(hi:R.length<=i)(hx:x<n):x∈R/\f x=far ts s x:=by
 have cl:∀u∈R,∀v,T ts u v->v∈R/\f v<=f u+1:=fun u hu v hv=>by
  obtain⟨j,hj,e⟩:=nQ.mp hu;exact B.cl j u (by lia) (by rw[cz hj,e]) v hv
 have walk:∀k x,fU ts k s x->x∈R/\f x<=k:=by
  intro k;induction k with
  |zero=>intro x e;cases e;exact⟨B.st,by rw[B.z];exact aP _⟩
  |succ k ih=>
   rintro x ⟨c,w,t⟩;obtain⟨c1,c2⟩:=ih c w;obtain⟨d1,d2⟩:=cl c c1 x t;exact⟨d1,by lia⟩
 obtain⟨k,w⟩:=F.con s x (B.lt s B.st) hx;obtain⟨m,_⟩:=walk k x w;exact⟨m,(Rk ⟨B.wk x m,fun k w=>(walk k x w).2⟩).symm⟩
theorem fU.mono(h:∀t∈ts,t∈ts'):∀ {k a b:Nat},fU ts k a b->fU ts' k a b
 |0,_,_,e=>e
 |_+1,_,_,⟨c,w,t⟩=>⟨c,w.mono h,h _ t⟩
structure Bs(n:Nat)(ts:Ts):Prop where
 nd:ts.Nodup
 rg:∀t∈ts,(0<=t.1/\t.1<n)/\(0<=t.2/\t.2<n)
 ne:∀t∈ts,t.1≠t.2
 G9:∀h:Int,(ts.filter fun t=>decide (t.1=h)).length=(ts.filter fun t=>decide (t.2=h)).length
 most:∀h:Int,(ts.filter fun t=>decide (t.1=h)).length<=8
theorem cJ.pre(F:cJ n ts):Bs n ts:=⟨F.nd,F.rg,F.ne,F.G9,F.most⟩
theorem Bs.lE(Pzz:Bs n ts)(n1:2<=n)(n2:n<=32)(c:∀a b,a<n->b<n->∃k,fU ts k a b):cJ n ts:=⟨n1,n2,Pzz.nd,Pzz.rg,Pzz.ne,Pzz.G9,Pzz.most,c⟩
theorem cJ.perm(F:cJ n ts)(p:ts'.Perm ts):cJ n ts':=
  ⟨F.n1,F.n2,p.nodup_iff.mpr F.nd,fun t ht=>F.rg t (p.mem_iff.mp ht),fun t ht=>F.ne t (p.mem_iff.mp ht),fun h=>by rw[(p.filter _).length_eq,(p.filter _).length_eq];exact F.G9 h,
   fun h=>by rw[(p.filter _).length_eq];exact F.most h,fun a b ha hb=>let ⟨k,w⟩:=F.con a b ha hb;⟨k,w.mono fun t ht=>p.mem_iff.mpr ht⟩⟩
theorem cJ.app(F:cJ n ts)(Pzz:Bs n (ts++us)):cJ n (ts++us):=
 Pzz.lE F.n1 F.n2 fun a b ha hb=>let ⟨k,w⟩:=F.con a b ha hb;⟨k,w.mono fun t ht=>gC _ ht⟩
def pk(c k:Nat):Nat:=if k=0 then c-1 else k-1
abbrev ci(x:Nat):Int:=(x:Int)
def wa(xs:aQ):Ts:=(List.range xs.length).map fun k=>(ci (xs.getD (pk xs.length k) 0),ci (xs.getD k 0))
theorem dD{xs:aQ}{k:Nat}(h:k<xs.length):xs.getD k 0=xs[k]:=by rw[cw,cz h];rfl
theorem E4(xs:aQ):(wa xs).map (·.2)=xs.map ci:=by
 unfold wa;rw[dQ];apply B_
 .simp
 .intro i h1 h2;simp only[uA,B0,Function.comp];rw[dD (by simpa using h2)]
theorem E5(xs:aQ):((wa xs).map (·.1)).Perm (xs.map ci):=by
 cases hx:xs with
 |nil=>exact iE _
 |cons y ys=>
  rw[<-hx];have hl:xs.length=ys.length+1:=by rw[hx];rfl
  have e:(wa xs).map (·.1)=ci (xs.getD (xs.length-1) 0)::(xs.take (xs.length-1)).map ci:=by
   unfold wa;rw[dQ];apply B_
   .simp;lia
   .intro i h1 h2;simp only[uA,B0,Function.comp];cases i with
    |zero=>rfl
    |succ i=>
     have hi:i+1<xs.length:=by simpa using h1
     simp only[List.getElem_cons_succ,uA,List.getElem_take];unfold pk;rw[ao (by lia),show i+1-1=i by lia,dD (by lia)]
  rw[e];have:xs.map ci=(xs.take (xs.length-1)).map ci++[ci (xs.getD (xs.length-1) 0)]:=by
   conv=>lhs;rw[<-nL (xs.length-1) xs]
   rw[dt];congr 1;rw[qo (by lia),List.drop_eq_nil_of_le (by lia),dD (by lia)];rfl
  rw[this];exact(List.perm_append_singleton _ _).symm
theorem io(ts:Ts)(h:Int):(ts.filter fun t=>decide (t.1=h)).length=(ts.map (·.1)).count h:=by
 induction ts with
 |nil=>rfl
 |cons t ts ih=>by_cases e:t.1=h <;> simp[eU,Ce,e,ih]
theorem rB(ts:Ts)(h:Int):(ts.filter fun t=>decide (t.2=h)).length=(ts.map (·.2)).count h:=by
 induction ts with
 |nil=>rfl
 |cons t ts ih=>by_cases e:t.2=h <;> simp[eU,Ce,e,ih]
theorem vt{xs:aQ}(h:xs.Nodup):(xs.map ci).Nodup:=by
 refine gk.mpr (h.imp fun {a b} rX e=>rX ?_);exact d7 e
theorem pQ:∀ {l:List α},(l.map f).Nodup->l.Nodup
 |[],_=>kR
 |a::l,h=>by
  rw[gJ] at h;obtain⟨h1,h2⟩:=gI.mp h;exact gI.mpr ⟨fun z=>h1 (bB.mpr ⟨a,z,rfl⟩),pQ h2⟩
theorem pR(h:t∈wa xs):∃k,k<xs.length/\t=(ci (xs.getD (pk xs.length k) 0),ci (xs.getD k 0)):=by
 obtain⟨k,hk,rfl⟩:=bB.mp h;exact⟨k,bY.mp hk,rfl⟩
theorem w9(h:k<c):pk c k<c:=by unfold pk;split <;> lia
theorem mS{xs:aQ}{k:Nat}(h:k<xs.length):xs.getD k 0∈xs:=by rw[dD h];exact ie h
theorem kC{xs:aQ}(nd:xs.Nodup){i j:Nat}(hi:i<xs.length)(hj:j<xs.length)(e:xs[i]=xs[j]):i=j:=by
 have pw:=qm.mp nd;rcases Nat.lt_trichotomy i j with z|z|z
 .exact absurd e (pw i j hi hj z)
 .exact z
 .exact absurd e.symm (pw j i hj hi z)
theorem yx{n:Nat}{xs:aQ}(nd:xs.Nodup)(lt:∀x∈xs,x<n)(c2:2<=xs.length):Bs n (wa xs)/\∀h:Int,((wa xs).filter fun t=>decide (t.1=h)).length<=1:=by
 have nd2:((wa xs).map (·.2)).Nodup:=by rw[E4];exact vt nd
 have one:∀h:Int,((wa xs).filter fun t=>decide (t.1=h)).length<=1:=fun h=>by
  rw[io,(E5 xs).count_eq];exact List.nodup_iff_count.mp (vt nd) h
 refine⟨⟨pQ nd2,fun t ht=>?_,fun t ht=>?_,fun h=>?_,fun h=>aZ (one h) (by decide)⟩,one⟩
 .obtain⟨k,hk,rfl⟩:=pR ht;have h1:=lt _ (mS (w9 hk));have h2:=lt _ (mS hk);simp only[ci];lia
 .obtain⟨k,hk,rfl⟩:=pR ht;intro e;have e':xs.getD (pk xs.length k) 0=xs.getD k 0:=d7 e;rw[dD (w9 hk),dD hk] at e';have:=kC nd (w9 hk) hk e';unfold pk at this;split at this <;> lia
 .rw[io,rB,(E5 xs).count_eq,E4]
theorem tW(Pzz:Bs n ts)(Q:Bs n us)(hd:∀t∈us,t∉ts)(hm:∀h:Int,(ts.filter fun t=>decide (t.1=h)).length+(us.filter fun t=>decide (t.1=h)).length<=8):Bs n (ts++us):=by
 refine⟨j7.mpr ⟨Pzz.nd,Q.nd,fun a ha b hb e=>hd b hb (e ▸ ha)⟩,fun t ht=>?_,fun t ht=>?_,fun h=>?_,fun h=>?_⟩
 .rcases cL.mp ht with z|z
  .exact Pzz.rg t z
  .exact Q.rg t z
 .rcases cL.mp ht with z|z
  .exact Pzz.ne t z
  .exact Q.ne t z
 .rw[ic,ic,dh,dh,Pzz.G9,Q.G9]
 .rw[ic,dh];exact hm h
theorem Ha(Pzz:Bs n ts)(nd:xs.Nodup)(lt:∀x∈xs,x<n)(c2:2<=xs.length)(hf:∀t∈wa xs,(ts.filter fun u=>decide (u.1=t.1)).length<=7)(hn:∀t∈wa xs,t∉ts):Bs n (ts++wa xs):=by
 obtain⟨Q,one⟩:=yx nd lt c2;refine tW Pzz Q hn fun h=>?_;by_cases z:(wa xs).filter (fun t=>decide (t.1=h))=[]
 .rw[z];simpa using Pzz.most h
 .obtain⟨t,ht⟩:=List.exists_mem_of_ne_nil _ z;obtain⟨h1,h2⟩:=gb.mp ht;have e:t.1=h:=by simpa using h2
  have a:=hf t h1;rw[e] at a;have:=one h;lia
theorem Pz(hk:k<xs.length):T (wa xs) (xs.getD (pk xs.length k) 0) (xs.getD k 0):=bB.mpr ⟨k,bY.mpr hk,rfl⟩
theorem Dk(i:Nat):∀ (d:Nat),i+d<xs.length->fU (wa xs) d (xs.getD i 0) (xs.getD (i+d) 0)
 |0,_=>rfl
 |d+1,h=>by
  refine⟨_,Dk i d (by lia),?_⟩;have:=Pz (xs:=xs) (k:=i+(d+1)) h;unfold pk at this;rw[ao (by lia)] at this;exact this
theorem w_{n:Nat}{xs:aQ}(n1:2<=n)(n2:n<=32)(pm:xs.Perm (List.range n)):cJ n (wa xs):=by
 have hl:xs.length=n:=by rw[pm.length_eq,dk]
 have nd:xs.Nodup:=pm.nodup_iff.mpr jH;have lt:∀x∈xs,x<n:=fun x hx=>bY.mp (pm.mem_iff.mp hx);refine(yx nd lt (by lia)).1.lE n1 n2 fun a b ha hb=>?_;obtain⟨i,hi,ei⟩:=nQ.mp (pm.mem_iff.mpr (bY.mpr ha));obtain⟨j,hj,ej⟩:=nQ.mp (pm.mem_iff.mpr (bY.mpr hb));have w1:=Dk (xs:=xs) i (xs.length-1-i) (by lia);have t0:=Pz (xs:=xs) (k:=0) (by lia);have w3:=Dk (xs:=xs) 0 j (by lia);rw[show i+(xs.length-1-i)=xs.length-1 by lia] at w1;rw[show pk xs.length 0=xs.length-1 from rfl] at t0;rw[jJ] at w3;have w:=w1.trans (fU.cons t0 w3);rw[dD hi,dD hj,ei,ej] at w;exact⟨_,w⟩
structure vv(n:Nat)(os:aQ)(k:Nat)(ts:Ts):Prop where
 pre:Bs n ts
 ends:∀t∈ts,∃a b,a∈os.take k/\b∈os.take k/\t=(ci a,ci b)
 con:∀a b,a∈os.take k->b∈os.take k->∃j,fU ts j a b
 len:ts.length+2=2*k
theorem vv.start(h:0<os.length):vv n os 1 []:=by
 refine⟨⟨kR,(fun t h=>nomatch h),(fun t h=>nomatch h),fun h=>rfl,fun h=>by simp⟩,(fun t h=>nomatch h),fun a b ha hb=>?_,rfl⟩;cases os with
 |nil=>simp at h
 |cons o os=>
  simp at ha hb;exact⟨0,by rw[ha,hb];rfl⟩
theorem vv.add(Tr:vv n os k ts)(nd:os.Nodup)(lt:∀x∈os,x<n)(hv:os[k]?=some v)(hs:s∈os.take k)(hd:(ts.filter fun t=>decide (t.1=ci s)).length<8):vv n os (k+1) (ts++[(ci s,ci v),(ci v,ci s)]):=by
 have tk:os.take (k+1)=os.take k++[v]:=by rw[gW,hv];rfl
 have nd1:(os.take k++[v]).Nodup:=by rw[<-tk];exact nd.sublist (xB _ _)
 have vn:v∉os.take k:=fun z=>(j7.mp nd1).2.2 v z v (by simp) rfl;have sv:s≠v:=fun e=>vn (e ▸ hs);have vm:v∈os:=dz hv;have sl:=lt s (o_ hs);have vl:=lt v vm;have nov:∀t∈ts,t.1≠ci v/\t.2≠ci v:=fun t ht=>by
  obtain⟨a,b,ha,hb,rfl⟩:=Tr.ends t ht;exact⟨fun e=>vn (d7 e ▸ ha),fun e=>vn (d7 e ▸ hb)⟩
 have Q:Bs n [(ci s,ci v),(ci v,ci s)]:=by
  have We:ci s≠ci v:=fun e=>sv (d7 e);refine⟨?_,fun t ht=>?_,fun t ht=>?_,fun h=>?_,fun h=>aZ (iL _ _) (by simp)⟩
  .simp[We]
  .simp at ht;rcases ht with rfl|rfl <;> (simp only[ci];lia)
  .simp at ht;rcases ht with rfl|rfl
   .exact We
   .exact We.symm
  .by_cases a:ci s=h <;> by_cases b:ci v=h <;> simp[eU,a,b]
 have P2:Bs n (ts++[(ci s,ci v),(ci v,ci s)]):=by
  refine tW Tr.pre Q (fun t ht z=>?_) fun h=>?_
  .simp at ht;rcases ht with rfl|rfl
   .exact(nov _ z).2 rfl
   .exact(nov _ z).1 rfl
  .have We:ci s≠ci v:=fun e=>sv (d7 e);by_cases a:ci s=h
   .subst a;have b:¬ ci v=ci s:=We.symm;simp only[eU,decide_true,jN,gY b];simp;lia
   .by_cases b:ci v=h
    .subst b;have z:ts.filter (fun t=>decide (t.1=ci v))=[]:=uf.mpr fun t ht=>by simpa using (nov t ht).1
     rw[z];exact aZ (Nat.add_le_add_left (iL _ _) _) (by simp)
    .have:=Tr.pre.most h;simp[eU,a,b];exact this
 have up:∀t∈ts,t∈ts++[(ci s,ci v),(ci v,ci s)]:=fun t ht=>gC _ ht;have t1:T (ts++[(ci s,ci v),(ci v,ci s)]) s v:=e_ _ (by simp);have t2:T (ts++[(ci s,ci v),(ci v,ci s)]) v s:=e_ _ (by simp);have toS:∀a,a∈os.take k++[v]->∃j,fU (ts++[(ci s,ci v),(ci v,ci s)]) j a s:=fun a ha=>by
  rcases cL.mp ha with z|z
  .obtain⟨j,w⟩:=Tr.con a s z hs;exact⟨j,w.mono up⟩
  .simp at z;subst z;exact⟨1,fU.one t2⟩
 have ofS:∀b,b∈os.take k++[v]->∃j,fU (ts++[(ci s,ci v),(ci v,ci s)]) j s b:=fun b hb=>by
  rcases cL.mp hb with z|z
  .obtain⟨j,w⟩:=Tr.con s b hs z;exact⟨j,w.mono up⟩
  .simp at z;subst z;exact⟨1,fU.one t1⟩
 refine⟨P2,fun t ht=>?_,fun a b ha hb=>?_,?_⟩
 .rw[tk];rcases cL.mp ht with z|z
  .obtain⟨a,b,ha,hb,e⟩:=Tr.ends t z;exact⟨a,b,gC _ ha,gC _ hb,e⟩
  .simp at z;rcases z with rfl|rfl
   .exact⟨s,v,gC _ hs,by simp,rfl⟩
   .exact⟨v,s,by simp,gC _ hs,rfl⟩
 .rw[tk] at ha hb;obtain⟨i,w1⟩:=toS a ha;obtain⟨j,w2⟩:=ofS b hb;exact⟨i+j,w1.trans w2⟩
 .have:=Tr.len;rw[dh];simp;lia
theorem vv.lE(Tr:vv n os n ts)(n1:2<=n)(n2:n<=32)(pm:os.Perm (List.range n)):cJ n ts:=by
 have hl:os.length=n:=by rw[pm.length_eq,dk]
 refine Tr.pre.lE n1 n2 fun a b ha hb=>Tr.con a b ?_ ?_
 .rw[qr (by lia)];exact pm.mem_iff.mpr (bY.mpr ha)
 .rw[qr (by lia)];exact pm.mem_iff.mpr (bY.mpr hb)
theorem Dl(hh:h<n):(bX n ts h).Nodup:=(rY hh).imp fun {a b} rX e=>by subst e;lia
end ln
namespace L2
open PySem PySem.Spec PyProof.Rows
section
variable {X:Cx}
theorem AJ:∀ {ns:dG} {its:bw},ba (ns.map V.int) its->∃xs:List (Int×Tok),its=xs.map (fun p=>Value.int p.1 p.2)/\xs.map (·.1)=ns
 |[],_,r=>by cases r;exact⟨[],rfl,rfl⟩
 |n::ns,_,r=>by
  cases r with
  |cons r rr=>
   obtain⟨t,rfl⟩:=(show ∃t,_=Value.int n t from r)
   obtain⟨xs,rfl,e⟩:=AJ rr;exact⟨(n,t)::xs,rfl,by rw[gJ,e]⟩
def Wf(K:a_):List V->Hp->VK->Prop:=fun xs H Q=>∃ (l:Addr) (ns:dG),xs=[.ref l]/\a8 K H l (ns.map V.int)/\ns≠[]/\∀M,M∈ns->(∀a∈ns,a<=M)->Q (.int M) H
theorem Hb(hc:X.calm=true):gf X (.builtin "max") (Wf X.K):=by
 intro af s σ H xs us Q I r h;obtain⟨l,ns,rfl,hl,qh,q⟩:=h;obtain⟨u1,rfl,r1⟩:=r.one;obtain rfl:u1=Value.ref l:=r1;obtain⟨its,rv,pl,_⟩:=I.list hl;obtain⟨ps,rfl,rfl⟩:=AJ rv;have hi:intItems ps.toArray=(ps.map (fun p=>Value.int p.1 p.2)).toArray:=by unfold intItems;simp
 have iD:0<ps.toArray.size:=by
  cases ps with
  |nil=>exact absurd rfl qh
  |cons p ps=>simp
 refine max_intList (I.ok.hd hc) (xs:=ps.toArray) (by rw[hi];exact pl.isList) iD fun v h' tk hv hk=>?_;obtain⟨t,rfl⟩:=intItems_at hv;obtain⟨h1,h2⟩:=argBest_gt (numAt ps.toArray) (ps.toArray.size-1);have num:∀j,j<ps.length->numAt ps.toArray j∈ps.map (·.1)/\numAt ps.toArray j=(ps.map (·.1)).getD j 0:=fun j hj=>by
  have e:numAt ps.toArray j=ps[j].1:=by unfold numAt;simp[cz hj]
  refine⟨by rw[e];exact bB.mpr ⟨_,ie hj,rfl⟩,?_⟩;rw[e,cw,cA,cz hj];rfl
 have hb:argBest (fun i j=>decide (numAt ps.toArray i > numAt ps.toArray j)) (ps.toArray.size-1)<ps.length:=by
  have:ps.toArray.size=ps.length:=by simp
  lia
 refine⟨.int _,H,I.kept (t':=tk) hk,⟨t,rfl⟩,q _ (num _ hb).1 fun a ha=>?_⟩;obtain⟨j,hj,e⟩:=nQ.mp ha;rw[aT] at hj;have:=h2 j (by (have:ps.toArray.size=ps.length:=by simp);lia);rw[(num j hj).2,cw,cz (by rw[aT];exact hj)] at this;rw[<-e];exact this
end
end L2
namespace ln
abbrev wb(u:lG):Int×Int:=(u.2,u.1)
def et(ps:Ts):Ts:=ps.flatMap fun u=>[u,wb u]
theorem oG:et (ps++qs)=et ps++et qs:=List.flatMap_append
theorem jj:∀ {ps:Ts},(et ps).Perm (ps++ps.map wb)
 |[]=>iE _
 |u::ps=>by
  have ih:=jj (ps:=ps);show (u::wb u::et ps).Perm (u::(ps++wb u::ps.map wb));refine List.Perm.cons _ ?_;exact(ih.cons _).trans List.perm_middle.symm
theorem tX:∀ {ps:Ts},(et ps).length=2*ps.length
 |[]=>rfl
 |u::ps=>by
  have ih:=tX (ps:=ps);show (et ps).length+2=2*(ps.length+1);lia
theorem E6(h:u∈et ps):wb u∈et ps:=by
 obtain⟨v,hv,hu⟩:=B9.mp h;refine B9.mpr ⟨v,hv,?_⟩;rcases bq.mp hu with e|e
 .rw[e];exact dq _ (dA.mpr rfl)
 .rw[dA.mp e];exact cK
theorem pS:u∈et ps↔u∈ps\/wb u∈ps:=by
 rw[(jj (ps:=ps)).mem_iff,cL];refine or_congr Iff.rfl ⟨fun h=>?_,fun h=>bB.mpr ⟨_,h,rfl⟩⟩;obtain⟨v,hv,rfl⟩:=bB.mp h;exact hv
theorem E7:((et ps).map wb).Perm (et ps):=by
 refine((jj (ps:=ps)).map wb).trans (List.Perm.trans ?_ (jj (ps:=ps)).symm);rw[dt,dQ];have e:ps.map (wb ∘ wb)=ps:=(j6 fun u _=>rfl).trans (kY ps);rw[e];exact j5
def Hl(x:Nat):List Nat->Bool
 |[]=>false
 |y::ys=>Nat.beq x y||Hl x ys
theorem vw:∀ {ys:aQ},Hl x ys=true↔x∈ys
 |[]=>by simp[Hl]
 |y::ys=>by
  unfold Hl;rw[uD,vw (ys:=ys),bq];exact or_congr ⟨fun h=>xv h,fun h=>by rw[h];exact xM y⟩ Iff.rfl
def YS:List Nat->Bool
 |[]=>true
 |x::xs=>!Hl x xs&&YS xs
theorem Ka:∀ {xs:aQ},YS xs=true->xs.Nodup
 |[],_=>kR
 |x::xs,h=>by
  unfold YS at h;rw[gm] at h;refine gI.mpr ⟨fun z=>?_,Ka h.2⟩;rw[vw.mpr z] at h;exact absurd h.1 (by decide)
def YT:List Nat->Bool
 |x::y::r=>Nat.ble x y&&YT (y::r)
 |_=>true
theorem Kb:∀ {xs:aQ},YT xs=true->xs.Pairwise (·<=·)
 |[],_=>List.Pairwise.nil
 |[x],_=>List.pairwise_singleton _ _
 |x::y::r,h=>by
  unfold YT at h;rw[gm] at h;have ih:=Kb h.2;refine xA.mpr ⟨fun z hz=>?_,ih⟩;have h1:=ug h.1;rcases bq.mp hz with e|e
  .rw[e];exact h1
  .exact aZ h1 ((xA.mp ih).1 z e)
abbrev jo(q:Nat×Nat):Int×Int:=((q.1:Int),(q.2:Int))
def Wg(qs:wn):List Nat:=qs.flatMap fun q=>[64*q.1+q.2,64*q.2+q.1]
def M_(c:Nat):Int×Int:=(((c / 64:Nat):Int),((c % 64:Nat):Int))
theorem Dm(h:b<64):M_ (64*a+b)=((a:Int),(b:Int)):=by
 unfold M_;rw[show (64*a+b) / 64=a by lia,show (64*a+b) % 64=b by lia]
theorem tY:∀ {qs:wn},(∀q∈qs,q.1<64/\q.2<64)->(Wg qs).map M_=et (qs.map jo)
 |[],_=>rfl
 |q::qs,h=>by
  have ih:=tY (qs:=qs) fun x hx=>h x (dq _ hx);obtain⟨h1,h2⟩:=h q cK;show M_ (64*q.1+q.2)::M_ (64*q.2+q.1)::(Wg qs).map M_=jo q::wb (jo q)::et (qs.map jo);rw[ih,Dm h2,Dm h1]
def b1(b:Bool):Nat:=cond b 1 0
def mZ(h:Nat):List (Nat×Nat)->Nat
 |[]=>0
 |q::qs=>b1 (Nat.beq q.1 h)+(b1 (Nat.beq q.2 h)+mZ h qs)
theorem yy{h:Nat}:∀ {qs:wn},((et (qs.map jo)).filter fun t=>decide (t.1=(h:Int))).length=mZ h qs
 |[]=>rfl
 |q::qs=>by
  have ih:=yy (h:=h) (qs:=qs);have e:∀a:Nat,(if decide ((a:Int)=(h:Int))=true then 1 else 0)=b1 (Nat.beq a h):=fun a=>by
   by_cases c:a=h
   .subst c;rw[ap (by simp),xM];rfl
   .rw[ao (by simp;lia),show Nat.beq a h=false from B6.mpr fun z=>c (xv z)];rfl
  show ((jo q::wb (jo q)::et (qs.map jo)).filter _).length=b1 (Nat.beq q.1 h)+(b1 (Nat.beq q.2 h)+mZ h qs);rw[<-ih,<-e q.1,<-e q.2,eU,eU];split <;> split <;> simp <;> lia
def Kc(n:Nat)(qs:wn):Bool:=Nat.ble 2 n&&(Nat.ble n 32&&(YS (Wg qs)&&(qs.all (fun q=>Nat.blt q.1 n&&(Nat.blt q.2 n&&!Nat.beq q.1 q.2))&&((List.range n).all (fun h=>Nat.ble (mZ h qs) 8) &&
 (List.range n).all (fun v=>Nat.beq v 0||(List.range v).reverse.any (fun u=>Hl (64*u+v) (Wg qs)))))))
theorem oH(h:Nat.blt a b=true):a<b:=ug h
theorem Kd(h:Kc n qs=true):cJ n (et (qs.map jo))/\∀q∈qs,q.1<64/\q.2<64:=by
 unfold Kc at h;simp only[gm,kO,bY,uD,xF,List.mem_reverse] at h;obtain⟨h1,h2,h3,h4,h5,h6⟩:=h;have h1:=ug h1;have h2:=ug h2;have Wi:∀q∈qs,q.1<64/\q.2<64:=fun q hq=>⟨by have:=oH (h4 q hq).1;lia,by have:=oH (h4 q hq).2.1;lia⟩
 have mem:∀t∈et (qs.map jo),∃q∈qs,t=jo q\/t=wb (jo q):=fun t ht=>by
  rcases pS.mp ht with z|z
  .obtain⟨q,hq,e⟩:=bB.mp z;exact⟨q,hq,.inl e.symm⟩
  .obtain⟨q,hq,e⟩:=bB.mp z;exact⟨q,hq,.inr (by rw[e])⟩
 have rg:∀t∈et (qs.map jo),((0<=t.1/\t.1<n)/\(0<=t.2/\t.2<n))/\t.1≠t.2:=fun t ht=>by
  obtain⟨q,hq,e⟩:=mem t ht;have a:=oH (h4 q hq).1;have b:=oH (h4 q hq).2.1;have c:q.1≠q.2:=fun z=>by have:=(h4 q hq).2.2;rw[z,xM] at this;exact absurd this (by decide)
  rcases e with rfl|rfl
  .exact⟨⟨⟨by show (0:Int)<=(q.1:Int);lia,by show (q.1:Int)<n;lia⟩,by show (0:Int)<=(q.2:Int);lia,by show (q.2:Int)<n;lia⟩,by show ((q.1:Nat):Int)≠(q.2:Nat);lia⟩
  .exact⟨⟨⟨by show (0:Int)<=(q.2:Int);lia,by show (q.2:Int)<n;lia⟩,by show (0:Int)<=(q.1:Int);lia,by show (q.1:Int)<n;lia⟩,by show ((q.2:Nat):Int)≠(q.1:Nat);lia⟩
 have G9:∀h:Int,((et (qs.map jo)).filter fun t=>decide (t.1=h)).length=((et (qs.map jo)).filter fun t=>decide (t.2=h)).length:=fun h=>by
  rw[<-(E7 (ps:=qs.map jo)).filter (fun t=>decide (t.1=h)) |>.length_eq,qK,aT];rfl
 have nd:(et (qs.map jo)).Nodup:=by
  rw[<-tY Wi];refine List.Pairwise.map _ (fun a b rX e=>rX ?_) (uc.mp (Ka h3));have e1:a / 64=b / 64:=d7 (congrArg Prod.fst e);have e2:a % 64=b % 64:=d7 (congrArg Prod.snd e);lia
 refine⟨⟨h1,h2,nd,fun t ht=>(rg t ht).1,fun t ht=>(rg t ht).2,G9,fun h=>?_,fun a b ha hb=>?_⟩,Wi⟩
 .by_cases c:0<=h/\h<n
  .have:=ug (h5 h.toNat (by lia));rw[<-yy,qw c.1] at this;exact this
  .have e:(et (qs.map jo)).filter (fun t=>decide (t.1=h))=[]:=uf.mpr fun t ht e=>c ((show t.1=h from fu e) ▸ (rg t ht).1.1);rw[e];exact cp _
 .have CQ:∀v,v<n->(∃k,fU (et (qs.map jo)) k 0 v)/\∃k,fU (et (qs.map jo)) k v 0:=by
   intro v;induction v using Nat.strongRecOn with
   |ind v ih=>
    intro hv;rcases h6 v hv with e|⟨u,hu,t1⟩
    .have e:=xv e;subst e;exact⟨⟨0,rfl⟩,0,rfl⟩
    .obtain⟨⟨k,w⟩,l,w'⟩:=ih u hu (by lia);have t:T (et (qs.map jo)) u v:=by
      have:=bB.mpr ⟨_,vw.mp t1,Dm (a:=u) (b:=v) (by lia)⟩;rw[tY Wi] at this;exact this
     have t':T (et (qs.map jo)) v u:=E6 t;exact⟨⟨k+1,u,w,t⟩,l+1,fU.cons t' w'⟩
  obtain⟨_,k,w⟩:=CQ a ha;obtain⟨⟨l,w'⟩,_⟩:=CQ b hb;exact⟨_,w.trans w'⟩
def vx(f b:Nat):List (Nat×Nat):=(List.range f).flatMap fun at_=>(List.range (b ^ f)).flatMap fun h=>(List.range (b-h / b ^ at_ % b-1)).map fun k=>(h,h+(k+1)*b ^ at_)
def Wj(f b h:Nat):List Nat:=(List.range f).map fun k=>h / b ^ k % b
def unl(f b o p:Nat):Nat:=((List.range f).filter fun k=>!Nat.beq ((Wj f b o).getD k 0) ((Wj f b p).getD k 0)).length
def Dn(f b:Nat):List Nat:=(List.range (b ^ f)).flatMap fun o=>((List.range (b ^ f)).filter fun p=>Nat.beq (unl f b o p) 1).map fun p=>64*o+p
def Do(f b:Nat):Ts:=(Dn f b).map M_
def E8(f b:Nat):Bool:=Kc (b ^ f) (vx f b)&&((Wg (vx f b)).isPerm (Dn f b)&&YT (Dn f b))
theorem Dp:(List.range 6).all (fun f=>(List.range 6).all fun b=>Nat.blt f 1||(Nat.blt b 2||(Nat.blt 32 (b ^ f)||E8 f b)))=true:=by decide +kernel
theorem Dq(f1:1<=f)(f2:f<=5)(b1:2<=b)(b2:b<=5)(hm:b ^ f<=32):cJ (b ^ f) (et ((vx f b).map jo))/\(et ((vx f b).map jo)).Perm (Do f b)/\(Do f b).Pairwise (fun u v=>64*u.1+u.2<=64*v.1+v.2):=by
 have:=kO.mp (kO.mp Dp f (bY.mpr (by lia))) b (bY.mpr (by lia));rw[uD,uD,uD] at this;rcases this with z|z|z|z
 .have:=oH z;lia
 .have:=oH z;lia
 .have:=oH z;lia
 .unfold E8 at z;rw[gm,gm] at z;obtain⟨h1,h2,h3⟩:=z;obtain⟨F,Wi⟩:=Kd h1;refine⟨F,?_,?_⟩
  .rw[<-tY Wi];exact(List.isPerm_iff.mp h2).map M_
  .unfold Do;rw[gk];refine(Kb h3).imp fun {a b} h=>?_;unfold M_;show 64*((a / 64:Nat):Int)+((a % 64:Nat):Int)<=64*((b / 64:Nat):Int)+((b % 64:Nat):Int);lia
def pr:List Nat->Nat
 |[]=>1
 |n::ns=>n*pr ns
def E9(m st n:Nat):List (Nat×Nat):=((List.range m).filter fun h=>decide (h / st % n+1<n)).map fun h=>(h,h+st)
def bx(m:Nat):Nat->List Nat->List (Nat×Nat)
 |_,[]=>[]
 |st,n::ns=>E9 m st n++bx m (st*n) ns
def pT(ns:aQ):List (Nat×Nat):=bx (pr ns) 1 ns
def Na:Nat->List Nat->Nat->Nat->Prop
 |_,[],_,_=>False
 |st,n::ns,a,b=>(a / st % n+1<n/\b=a+st)\/Na (st*n) ns a b
theorem E_:q∈E9 m st n↔q.1<m/\q.1 / st % n+1<n/\q.2=q.1+st:=by
 unfold E9;rw[bB];constructor
 .rintro⟨h,hh,rfl⟩;obtain⟨h1,h2⟩:=gb.mp hh;exact⟨bY.mp h1,fu h2,rfl⟩
 .rintro⟨h1,h2,h3⟩;exact⟨q.1,gb.mpr ⟨bY.mpr h1,iO h2⟩,iH rfl h3.symm⟩
theorem yz:∀ {ns:aQ} {st:Nat},q∈bx m st ns↔q.1<m/\Na st ns q.1 q.2
 |[],st=>⟨fun h=>(nomatch h),fun h=>h.2.elim⟩
 |n::ns,st=>by
  unfold bx Na;rw[cL,E_,yz (ns:=ns)];constructor
  .rintro(⟨a,b,c⟩|⟨a,b⟩)
   .exact⟨a,.inl ⟨b,c⟩⟩
   .exact⟨a,.inr b⟩
  .rintro⟨a,⟨b,c⟩|b⟩
   .exact .inl ⟨a,b,c⟩
   .exact .inr ⟨a,b⟩
abbrev U(ns:aQ):Nat->Nat->Prop:=Na 1 ns
theorem yA:∀ {ns:aQ} {st a b:Nat},0<st->(∀n∈ns,0<n)->(Na st ns a b↔a % st=b % st/\U ns (a / st) (b / st))
 |[],st,a,b,h,_=>⟨fun z=>z.elim,fun z=>z.2.elim⟩
 |n::ns,st,a,b,h,hn=>by
  have Jp:=hn n cK;have Ao:∀n∈ns,0<n:=fun x hx=>hn x (dq _ hx);show (_\/Na (st*n) ns a b)↔a % st=b % st/\(_\/Na (1*n) ns (a / st) (b / st))
  rw[Nat.one_mul,yA (uO h Jp) Ao,yA Jp Ao,Nat.div_one,BK a st n,BK b st n,Nat.mod_mul,Nat.mod_mul];have e1:=lQ a st;have e2:=lQ b st;constructor
  .rintro(⟨c,rfl⟩|⟨c,d⟩)
   .refine⟨by rw[Nat.add_mod_right],.inl ⟨c,by rw[Nat.add_div_right _ h]⟩⟩
   .have m1:a % st=b % st:=by
     have:=congrArg (· % st) c;simp only[Nat.add_mul_mod_self_left,Nat.mod_mod] at this;exact this
    refine⟨m1,.inr ⟨?_,d⟩⟩;rw[m1] at c;exact Nat.eq_of_mul_eq_mul_left h (Nat.add_left_cancel c)
  .rintro⟨m1,⟨c,d⟩|⟨c,d⟩⟩
   .refine .inl ⟨c,?_⟩;rw[<-e2,d,<-m1,Nat.mul_add,xO,Nat.add_right_comm,e1]
   .exact .inr ⟨by rw[m1,c],d⟩
theorem Dr(h:∀x∈n::ns,0<x):U (n::ns) a b↔(a % n+1<n/\b=a+1)\/(a % n=b % n/\U ns (a / n) (b / n)):=by
 show (_\/Na (1*n) ns a b)↔_;rw[Nat.one_mul,yA (h n cK) fun x hx=>h x (dq _ hx),Nat.div_one]
theorem Ds(h:a % n+1<n):(a+1) / n=a / n/\(a+1) % n=a % n+1:=by
 have e:=lQ a n;have e2:a+1=n*(a / n)+(a % n+1):=by lia
 have hn:0<n:=by lia
 rw[e2,Nat.mul_add_div hn,Nat.mul_add_mod,Nat.div_eq_of_lt h,jF h];exact⟨rfl,rfl⟩
theorem Wk:∀ {ns:aQ} {a b:Nat},(∀x∈ns,0<x)->U ns a b->a<pr ns->a<b/\b<pr ns
 |[],a,b,_,h,_=>h.elim
 |n::ns,a,b,hn,h,ha=>by
  have Jp:=hn n cK;have Ao:∀n∈ns,0<n:=fun x hx=>hn x (dq _ hx);have QL:a<n*pr ns:=ha;have hq:a / n<pr ns:=Nat.div_lt_of_lt_mul QL;show a<b/\b<n*pr ns;rcases(Dr hn).mp h with ⟨c,rfl⟩|⟨c,d⟩
  .refine⟨by lia,?_⟩;have e:=lQ a n;have:=uj n hq;rw[Nat.succ_eq_add_one,Nat.mul_add,xO] at this;lia
  .obtain⟨i1,i2⟩:=Wk Ao d hq;refine⟨?_,?_⟩
   .have e1:=lQ a n;have e2:=lQ b n;have:=Iz i1 Jp;lia
   .have e2:=lQ b n;have hm:=lW b Jp;have:=uj n i2;rw[Nat.succ_eq_add_one,Nat.mul_add,xO] at this;lia
theorem Ke:∀ {ns:aQ} {v:Nat},(∀x∈ns,0<x)->0<v->v<pr ns->∃u,u<v/\U ns u v
 |[],v,_,h1,h2=>by have h2:v<1:=h2;lia
 |n::ns,v,hn,h1,h2=>by
  have Jp:=hn n cK;have Ao:∀n∈ns,0<n:=fun x hx=>hn x (dq _ hx);have lv:=lW v Jp;have ev:=lQ v n;by_cases c:v % n=0
  .have hq:0<v / n:=by
    rcases Nat.eq_zero_or_pos (v / n) with z|z
    .rw[z,c] at ev;simp at ev;lia
    .exact z
   obtain⟨u,hu,uu⟩:=Ke (v:=v / n) Ao hq (Nat.div_lt_of_lt_mul h2);refine⟨n*u,?_,(Dr hn).mpr (.inr ⟨by rw[Nat.mul_mod_right,c],by rw[Nat.mul_div_cancel_left _ Jp];exact uu⟩)⟩;have:=Iz hu Jp;lia
  .have hv:v-1=n*(v / n)+(v % n-1):=by lia
   have hm:(v-1) % n=v % n-1:=by rw[hv,Nat.mul_add_mod,jF (by lia)]
   exact⟨v-1,by lia,(Dr hn).mpr (.inl ⟨by lia,by lia⟩)⟩
theorem Fa:∀ {ns:aQ} {st a b:Nat},(∀x∈ns,0<x)->Na st ns a b->a+st<=b
 |[],st,a,b,_,h=>h.elim
 |n::ns,st,a,b,hn,h=>by
  rcases h with ⟨_,rfl⟩|h
  .exact aP _
  .have:=Fa (fun x hx=>hn x (dq _ hx)) h;have h1:=Nat.le_mul_of_pos_right st (hn n cK);lia
theorem Hm:(E9 m st n).Nodup:=by
 unfold E9;refine uc.mpr (gk.mpr ?_);exact(uc.mp (jH.sublist BU)).imp fun {a b} h e=>h (congrArg Prod.fst e)
theorem AK:∀ {ns:aQ} {st:Nat},0<st->(∀x∈ns,2<=x)->(bx m st ns).Nodup
 |[],_,_,_=>kR
 |n::ns,st,h,hn=>by
  have Uk:=hn n cK;have Ao:∀x∈ns,2<=x:=fun x hx=>hn x (dq _ hx);refine j7.mpr ⟨Hm,AK (uO h (by lia)) Ao,fun x hx y hy e=>?_⟩;subst e;have h1:=(E_.mp hx).2.2;have h2:=Fa (fun x hx=>by have:=Ao x hx;lia) (yz.mp hy).2;have h3:=uj st Uk;lia
theorem Hn(nd:ps.Nodup)(h:∀u∈ps,u.1<u.2):(et ps).Nodup:=by
 refine(jj (ps:=ps)).nodup_iff.mpr (j7.mpr ⟨nd,?_,fun x hx y hy e=>?_⟩)
 .refine uc.mpr (gk.mpr ((uc.mp nd).imp fun {a b} rX e=>rX ?_));exact iH (congrArg Prod.snd e) (congrArg Prod.fst e)
 .subst e;obtain⟨u,hu,rfl⟩:=bB.mp hy;have h1:=h _ hx;have h2:=h u hu;have h1:u.2<u.1:=h1;lia
theorem Ho{qs:wn}(h:qs.Nodup):(qs.map jo).Nodup:=by
 refine uc.mpr (gk.mpr ((uc.mp h).imp fun {a b} rX e=>rX ?_));exact iH (d7 (congrArg Prod.fst e)) (d7 (congrArg Prod.snd e))
theorem r0:∀ {a b:wn},mZ h (a++b)=mZ h a+mZ h b
 |[],b=>by show mZ h b=0+_;lia
 |q::a,b=>by
  have:=r0 (h:=h) (a:=a) (b:=b);show b1 _+(b1 _+mZ h (a++b))=b1 _+(b1 _+mZ h a)+mZ h b;lia
theorem PD:b1 (Nat.beq a b)=if a=b then 1 else 0:=by
 by_cases c:a=b
 .subst c;rw[ap rfl,xM];rfl
 .rw[ao c,show Nat.beq a b=false from B6.mpr fun z=>c (xv z)];rfl
theorem Fb:∀ {L:aQ},L.Nodup->mZ h (L.map fun x=>(x,x+st))<=(if h∈L then 1 else 0)+(if st<=h/\h-st∈L then 1 else 0)
 |[],_=>cp _
 |x::L,nd=>by
  obtain⟨n1,n2⟩:=gI.mp nd;have ih:=Fb (h:=h) (st:=st) n2;show b1 (Nat.beq x h)+(b1 (Nat.beq (x+st) h)+mZ h (L.map fun x=>(x,x+st)))<=_;rw[PD,PD];have e1:(if h∈x::L then 1 else 0)=(if x=h then 1 else 0)+(if h∈L then 1 else 0):=by
   by_cases c:x=h
   .subst c;rw[ap cK,ap rfl,ao n1]
   .rw[ao c];by_cases d:h∈L
    .rw[ap (dq _ d),ap d]
    .rw[ao d,ao (fun z=>(bq.mp z).elim (fun z=>c z.symm) d)]
  have e2:(if st<=h/\h-st∈x::L then 1 else 0)=(if x+st=h then 1 else 0)+(if st<=h/\h-st∈L then 1 else 0):=by
   by_cases c:x+st=h
   .have e:h-st=x:=by lia
    rw[ap c,e,ap ⟨by lia,cK⟩,ao (fun z=>n1 z.2)]
   .rw[ao c];by_cases d:st<=h/\h-st∈L
    .rw[ap d,ap ⟨d.1,dq _ d.2⟩]
    .rw[ao d,ao];rintro⟨z1,z2⟩;rcases bq.mp z2 with z|z
     .lia
     .exact d ⟨z1,z⟩
  rw[e1,e2];lia
def wt:List Nat->Nat
 |[]=>0
 |n::ns=>(if n=2 then 1 else 2)+wt ns
theorem Nb(hs:0<st):mZ h (E9 m st n)<=if n=2 then 1 else 2:=by
 have c:=Fb (h:=h) (st:=st) (L:=(List.range m).filter fun h=>decide (h / st % n+1<n)) (jH.sublist BU);refine aZ c ?_;by_cases e:n=2
 .rw[ap e];by_cases c1:h∈(List.range m).filter fun h=>decide (h / st % n+1<n)
  .rw[ap c1,ao]
   .lia
   .rintro⟨z1,z2⟩;have d1:h / st % n+1<n:=fu (gb.mp c1).2;have d2:(h-st) / st % n+1<n:=fu (gb.mp z2).2;have d3:h / st=(h-st) / st+1:=by
     have:=Nat.add_div_right (h-st) hs;rw[show h-st+st=h by lia] at this;exact this
    obtain⟨_,d4⟩:=Ds d2;rw[<-d3] at d4;lia
  .rw[ao c1];split <;> lia
 .rw[ao e];split <;> split <;> lia
theorem Kg:∀ {ns:aQ} {st:Nat},0<st->(∀x∈ns,0<x)->mZ h (bx m st ns)<=wt ns
 |[],_,_,_=>aP _
 |n::ns,st,hs,hn=>by
  show mZ h (E9 m st n++bx m (st*n) ns)<=_+wt ns;rw[r0];have h1:=Nb (m:=m) (n:=n) (h:=h) hs;have h2:=Kg (m:=m) (h:=h) (ns:=ns) (st:=st*n) (uO hs (hn n cK)) fun x hx=>hn x (dq _ hx);lia
theorem Kh:∀ {ns:aQ},(∀x∈ns,2<=x)->3 ^ wt ns<=pr ns*pr ns
 |[],_=>aP _
 |n::ns,hn=>by
  have ih:=Kh (ns:=ns) fun x hx=>hn x (dq _ hx);have h2:=hn n cK;show 3 ^ ((if n=2 then 1 else 2)+wt ns)<=n*pr ns*(n*pr ns);rw[Nat.pow_add,Nat.mul_mul_mul_comm];refine Cg ?_ ih;by_cases c:n=2
  .rw[ap c,c];decide
  .rw[ao c];have:3<=n:=by lia
   exact Cg this this
theorem Wl(hn:∀x∈ns,2<=x)(hp:pr ns<=32):wt ns<=8:=by
 refine xq fun z=>?_;have h1:3 ^ 9<=3 ^ wt ns:=Nat.pow_le_pow_right (by decide) (by lia);have h2:=Kh hn;have h3:pr ns*pr ns<=32*32:=Cg hp hp;have h4:(3:Nat) ^ 9=19683:=by decide
 lia
theorem Ki{ns:aQ}(hn:∀x∈ns,2<=x)(h0:ns≠[])(hp:pr ns<=32):cJ (pr ns) (et ((pT ns).map jo)):=by
 have Rm:∀x∈ns,0<x:=fun x hx=>by have:=hn x hx;lia
 have q:∀q∈pT ns,q.1<q.2/\q.2<pr ns:=fun q hq=>by
  obtain⟨a,b⟩:=yz.mp hq;exact Wk Rm b a
 have n1:2<=pr ns:=by
  cases ns with
  |nil=>exact absurd rfl h0
  |cons n ns=>
   have h2:=hn n cK;have:∀ {l:aQ},(∀x∈l,2<=x)->1<=pr l:=fun {l}=>by
    induction l with
    |nil=>intro _;exact aP _
    |cons x l ih=>intro hl;exact uO (by have:=hl x cK;lia) (ih fun y hy=>hl y (dq _ hy))
   have h3:=this (l:=ns) fun x hx=>hn x (dq _ hx);show 2<=n*pr ns;exact aZ h2 (Nat.le_mul_of_pos_right n h3)
 have mem:∀t∈et ((pT ns).map jo),∃q∈pT ns,t=jo q\/t=wb (jo q):=fun t ht=>by
  rcases pS.mp ht with z|z
  .obtain⟨q,hq,e⟩:=bB.mp z;exact⟨q,hq,.inl e.symm⟩
  .obtain⟨q,hq,e⟩:=bB.mp z;exact⟨q,hq,.inr (by rw[e])⟩
 have rg:∀t∈et ((pT ns).map jo),((0<=t.1/\t.1<pr ns)/\(0<=t.2/\t.2<pr ns))/\t.1≠t.2:=fun t ht=>by
  obtain⟨p,hq,e⟩:=mem t ht;obtain⟨a,b⟩:=q p hq;rcases e with rfl|rfl
  .exact⟨⟨⟨by show (0:Int)<=(p.1:Int);lia,by show (p.1:Int)<(pr ns:Int);lia⟩,by show (0:Int)<=(p.2:Int);lia,by show (p.2:Int)<(pr ns:Int);lia⟩,by show ((p.1:Nat):Int)≠(p.2:Nat);lia⟩
  .exact⟨⟨⟨by show (0:Int)<=(p.2:Int);lia,by show (p.2:Int)<(pr ns:Int);lia⟩,by show (0:Int)<=(p.1:Int);lia,by show (p.1:Int)<(pr ns:Int);lia⟩,by show ((p.2:Nat):Int)≠(p.1:Nat);lia⟩
 have nd:(et ((pT ns).map jo)).Nodup:=Hn (Ho (AK (by decide) hn)) fun u hu=>by
  obtain⟨p,hq,rfl⟩:=bB.mp hu;have:=(q p hq).1;show (p.1:Int)<(p.2:Int);lia
 refine⟨n1,hp,nd,fun t ht=>(rg t ht).1,fun t ht=>(rg t ht).2,fun h=>?_,fun h=>?_,fun a b ha hb=>?_⟩
 .rw[<-(E7 (ps:=(pT ns).map jo)).filter (fun t=>decide (t.1=h)) |>.length_eq,qK,aT];rfl
 .by_cases c:0<=h/\h<pr ns
  .have:=Kg (m:=pr ns) (h:=h.toNat) (ns:=ns) (st:=1) (by decide) Rm;have e:=yy (h:=h.toNat) (qs:=pT ns);rw[qw c.1] at e;rw[e];exact aZ this (Wl hn hp)
  .have e:(et ((pT ns).map jo)).filter (fun t=>decide (t.1=h))=[]:=uf.mpr fun t ht e=>c ((show t.1=h from fu e) ▸ (rg t ht).1.1);rw[e];exact cp _
 .have CQ:∀v,v<pr ns->(∃k,fU (et ((pT ns).map jo)) k 0 v)/\∃k,fU (et ((pT ns).map jo)) k v 0:=by
   intro v;induction v using Nat.strongRecOn with
   |ind v ih=>
    intro hv;rcases Nat.eq_zero_or_pos v with e|e
    .subst e;exact⟨⟨0,rfl⟩,0,rfl⟩
    .obtain⟨u,hu,uu⟩:=Ke Rm e hv;obtain⟨⟨k,w⟩,l,w'⟩:=ih u hu (by lia);have t:T (et ((pT ns).map jo)) u v:=pS.mpr (.inl (bB.mpr ⟨(u,v),yz.mpr ⟨by show u<pr ns;lia,uu⟩,rfl⟩));have t':T (et ((pT ns).map jo)) v u:=E6 t;exact⟨⟨k+1,u,w,t⟩,l+1,fU.cons t' w'⟩
  obtain⟨_,k,w⟩:=CQ a ha;obtain⟨⟨l,w'⟩,_⟩:=CQ b hb;exact⟨_,w.trans w'⟩
end ln
namespace L2
open PySem PySem.Spec PyProof.Rows
def Dt(scope:Scope)(dJ:iP)(qual:Str)(f c L:Addr):Env:=
 { scope:=scope,locals:=L,globals:=mainGlobals,cells:=dJ,qual:=qual++".<locals>.",func:=some f,code:=.ref c,frame:=some L,builtins:=builtinsNs }
def r6(X:Cx)(NB:bQ)(scope:Scope)(dJ:iP)(qual:Str)(f c:Addr)(s:aR)(H:Hp):Cx:=
 { X with A:=X.A.in1.in1.deeper (Dt scope dJ qual f c s.heap.objs.size),N:=NB,s₀:=s,H₀:=H,env:=Dt scope dJ qual f c s.heap.objs.size,outer:=X.stack,stack:=Dt scope dJ qual f c s.heap.objs.size::X.stack,ex:=[],fn:=fun _=>false,pn:=[],xe:=fun _ _=>False }
structure AL(X:Cx)(NB:bQ)(src:bA)(scope:Scope)(qual:Str)(params:lY)(body:Expr)(y:Str):Prop where
 bs:ix NB src scope X
 bind:∀dJ pm c Am v,bindArgs (W.kla_fn "<lambda>" qual params body scope dJ pm (.ref c) Am) ⟨[v],[]⟩=pure [(y,v)]
 y0:NB[0]?=some y
 s0:src[0]?=some none
 ly:scope.names.lookup y=some .local
 yp:∀z∈scope.names,z.2≠.cell
 co:scope.isCoroutine=false
 gen:scope.isGenerator=false
section
variable {X:Cx} {af:cE} {σ:St} {H:Hp} {s:aR} {NB:bQ} {src:bA} {scope:Scope} {qual:Str} {params:lY} {body:Expr} {y:Str} {dJ:iP} {f c:Addr} {h₁:Heap} {t₁:Nat} {v:V} {u:Value}
theorem Nd(I:aU X af σ H s)(S:AL X NB src scope qual params body y)(hd:X.A.handled=none)(c1:∀x c,dJ.lookup x=some c->X.env.cells.lookup x=some c)(c2:∀x,(x,NameKind.free)∈scope.names->∃c,dJ.lookup x=some c)(hn:h₁.Ns s.heap.objs.size (fun x=>[(y,u)].lookup x))(hk:∀b o,s.heap.get? b=some o->h₁.get? b=some o)(rv:bW v u):
  aU (r6 X NB scope dJ qual f c s H) [] ((Bn src σ).set 0 (some v)) H { s with heap:=h₁,toks:=t₁ }:=by
 have yi:∀x c,dJ.lookup x=some c->∃v,s.heap.IsCell c v:=fun x c e=>I.cell x c (c1 x c e);have B:=S.bs;refine⟨⟨I.ok.mod,B.kind,rfl,rfl,aP _,fun x y c e1 e2=>I.ok.inj x y c (c1 x c e1) (c1 y c e2),fun x hx=>?_,(fun x c z e=>by cases z),fun _=>hd,Around.frames_deeper I.ok.frames,.inr ⟨rfl,rfl⟩,(fun b hb=>by cases hb),I.bs,aZ I.ok.IR I.sz,(fun b o e hb=>by cases hb),(fun b hb=>by cases hb),I.stack,I.xT⟩,
  rfl,I.bare,Un.kept hk,⟨_,hn,fun i x w e1 e2 e3=>?_⟩,fun x c e=>?_,I.cY.fresh (aP _),fun x c e=>I.l4 x c (c1 x c e),fun p hp=>absurd (show p∈([]:cE) from hp) (by simp),I.cY.kept hk,?_⟩
 .have hx:scope.names.lookup x=some .cell\/scope.names.lookup x=some .free:=hx;rcases hx with z|z
  .exact absurd rfl (S.yp _ (lI z))
  .exact c2 x (lI z)
 .have e1:NB[i]?=some x:=e1;cases i with
  |zero=>
   rw[S.y0] at e1;cases e1;have hl:0<(Bn src σ).length:=by
    unfold Bn;rw[aT];exact(eR.mp S.s0).1
   rw[qu hl] at e2;cases e2;exact⟨u,rv,.inl ⟨S.ly,by simp⟩⟩
  |succ i=>
   rw[qv (by lia)] at e2;obtain⟨j,hj,hv⟩:=ED e2;obtain⟨hN,hF⟩:=B.src (i+1) x j e1 hj;obtain⟨m0,Jp,QN⟩:=I.loc;have CS:=lI hF;have kx:=B.free _ CS rfl;have Vb:Uh X.env.scope x:=by
    rcases kx with z|z
    .exact .inr (.inl z)
    .exact .inr (.inr z)
   obtain⟨u',r,l⟩:=QN j x w hN hv Vb;obtain⟨c',hc⟩:=c2 x CS;refine⟨u',r,.inr ⟨.inr hF,c',hc,?_⟩⟩;rcases l with ⟨L7,_⟩|⟨_,c'',e,z⟩
   .have Jq:X.env.scope.names.lookup x=some .local:=L7;rcases kx with z|z <;> (rw[z] at Jq;cases Jq)
   .rw[c1 x c' hc] at e;cases e;obtain⟨o,ho,Mn⟩:=z;exact⟨o,hk _ _ ho,Mn⟩
 .obtain⟨v,o,ho,Mn⟩:=yi x c e;exact⟨v,o,hk _ _ ho,Mn⟩
 .show ((Bn src σ).set 0 (some v)).length=NB.length;unfold Bn;rw[jb,aT];exact B.len
theorem Kj(hr:df k X.A)(S:AL X NB src scope qual params body y)(I:aU X af σ H s)(hf:H f=some (v5 f qual params body scope X.env.cells c))(hc:H c=some (pJ c qual))(rv:bW v u)(hb:∀dJ s H,PE (r6 X NB scope dJ qual f c s H) body te)(h:te ((Bn src σ).set 0 (some v)) H Q):
  wpAny (model X.prog X.w) X.A.in1.in1 (call (.ref f) [u]) (EP X af σ Q) (fun _ _=>False) s:=by
 obtain⟨dJ,pm,Am,c1,c2,QM⟩:=(I.cY f _ hf).1;have hcr:s.heap.CodeRec (.ref c) qual:=(I.cY c _ hc).1;have JF:X.A.in1.in1.depth<recursionLimit:=by
  have:=hr.dp;show X.A.depth<_;lia
 refine qR (W.kla_callFunE JF QM rfl S.co S.gen rfl hcr ?_);rw[S.bind];refine wpAny_pure (wpAny_newFunctionEnv S.yp (fun x hx=>by rw[dA.mp hx];exact S.ly) (fun h₁ Ao VW=>⟨I.nolimit.fresh _ VW,?_⟩) S.bs.kind);have Q5:∀b o,s.heap.get? b=some o->h₁.get? b=some o:=fun b o e=>VW.extBut b o (bf (aS e)) (bP _ e);refine W.kla_codeExpr ?_;have J:=Nd (f:=f) (c:=c) (t₁:=s.toks+1) I S hr.hd c1 c2 Ao Q5 rv;refine jL (hb dJ s H [] _ _ H Q J h) (fun w s' ⟨v',H',J',r',q'⟩=>?_) fun _ _ z=>z.elim;exact⟨v',H',I.O7 (ch:=[]) J'.os J'.base J'.cY J'.bare (fun b hb=>by cases hb),r',q'⟩
end
def zx(kz:ua)(a b:Nat):Prop:=64*kz a+a<=64*kz b+b
structure Io(ns:aQ)(kz:ua)(ps:List Keyed):Prop where
 len:ps.length=ns.length
 at_:∀ (i n:Nat),ns[i]?=some n->∃t u,ps[i]?=some (Value.int (kz n) t,Value.int (n:Int) u)
theorem Io.mem(Pzz:Io ns kz ps)(h:p∈ps):∃n∈ns,∃t u,p=(Value.int (kz n) t,Value.int (n:Int) u):=by
 obtain⟨i,hi,e⟩:=uk h;have hn:i<ns.length:=by rw[<-Pzz.len];exact hi
 obtain⟨t,u,e2⟩:=Pzz.at_ i ns[i] (cz hn);rw[cz hi] at e2;exact⟨_,ie hn,t,u,by rw[<-e];exact cB e2⟩
theorem Io.map(Pzz:Io ns kz ps):ps.map (fun p=>(numOf p.2).toNat)=ns:=by
 refine lL fun i=>?_;rw[cA];cases e:ns[i]? with
 |none=>
  have:ns.length<=i:=List.getElem?_eq_none_iff.mp e;rw[f9 (by rw[Pzz.len];exact this)];rfl
 |some n=>
  obtain⟨t,u,e2⟩:=Pzz.at_ i n e;rw[e2];rfl
def YU(p:Keyed):Int:=numOf p.1
def Wm(p:Keyed):Int:=numOf p.2
theorem Io.nu(Pzz:Io ns kz a.toList)(Rn:ns.Pairwise (·<·))(Nf:∀n∈ns,n<64):Nu Wm a:=by
 have g:∀ (i n:Nat),ns[i]?=some n->kk Wm a i=(n:Int):=fun i n e=>by
  obtain⟨t,u,e2⟩:=Pzz.at_ i n e;unfold kk;rw[<-nN,e2];rfl
 refine⟨fun i j zL hj=>?_,fun x hx=>?_⟩
 .have hj:j<ns.length:=by rw[<-Pzz.len];simpa using hj
  rw[g i _ (cz (show i<ns.length by lia)),g j _ (cz hj)];have:=qm.mp Rn i j (by lia) hj zL;lia
 .obtain⟨n,hn,t,u,rfl⟩:=Pzz.mem hx;have:=Nf n hn;show 0<=(n:Int)/\(n:Int)<64;lia
theorem Io.cmp(Pzz:Io ns kz a.toList):L9 prog w A s oneType' a YU:=fun x y hx hy Q E h=>by
 obtain⟨n,_,t,u,rfl⟩:=Pzz.mem hx;obtain⟨m,_,t',u',rfl⟩:=Pzz.mem hy;rw[keyLt'_oneType];exact oneLt_int h
theorem Io.out{ns:aQ}{kz:ua}{a b:bu}(Pzz:Io ns kz a.toList)(hp:b.Perm a)(so:zu YU Wm b a.size):
  ∃out:List Nat,out.Perm ns/\out.Pairwise (zx kz)/\ba (out.map fun (x:Nat)=>V.int (x:Int)) (b.map (·.2)).toList:=by
 have hl:b.toList.Perm a.toList:=j3.mp hp;have mem:∀p∈b.toList,∃n∈ns,∃t u,p=(Value.int (kz n) t,Value.int (n:Int) u):=fun p h=>Pzz.mem (hl.mem_iff.mp h);refine⟨b.toList.map fun p=>(numOf p.2).toNat,by rw[<-Pzz.map];exact hl.map _,?_,?_⟩
 .refine gk.mpr ?_;rw[qm];intro i j hi hj zL;have vO:i<b.size:=by simpa using hi
  have VP:j<b.size:=by simpa using hj
  have q:=so i j (kX zL) (by rw[<-hp.size_eq];exact VP);rw[mh vO,mh vO,mh VP,mh VP] at q;obtain⟨n,_,t,u,e⟩:=mem b[i] (by simp);obtain⟨m,_,t',u',e'⟩:=mem b[j] (by simp);have e1:b.toList[i]=b[i]:=by simp
  have e2:b.toList[j]=b[j]:=by simp
  rw[e1,e2];rw[e,e'] at q;rw[e,e'];exact q
 .rw[kP,dQ];have go:∀l:List Keyed,(∀p∈l,∃n∈ns,∃t u,p=(Value.int (kz n) t,Value.int (n:Int) u))->ba (l.map ((fun (x:Nat)=>V.int (x:Int)) ∘ fun p=>(numOf p.2).toNat)) (l.map (·.2)):=fun l=>by
   induction l with
   |nil=>intro _;exact .nil
   |cons x l ih=>
    intro h;obtain⟨n,_,t,u,rfl⟩:=h x cK;exact .cons ⟨u,rfl⟩ (ih fun p hp=>h p (dq _ hp))
  exact go _ mem
section
variable {X:Cx} {af:cE} {σ:St} {H:Hp} {s:aR}
theorem aU.Wn(I:aU X af σ H s)(f:hZ X af H a)(new:dB X.prog X.w (upd H a o) s.heap a o):aU X af σ (upd H a o) s:=by
 have ne:∀ {b u},H b=some u->b≠a:=fun {b u} e z=>by rw[z,f.1] at e;cases e
 obtain⟨h,g,d,t,os⟩:=s;refine I.step (g':=g) (d':=d) (t':=t) (h':=h) (ch:=[a]) (fun b hb=>?_) (fun b o _ _ _ e _=>e) (fun b o _ _ _ e _=>⟨o.slots,e⟩) (fun b o hc _ n=>by rw[aq (fun z=>hc (by simp[z]))];exact n)
  (fun b o _ e=>⟨o,e⟩) (fun b xs e=>by rw[aq (ne e)];exact e) (fun b o u e=>by rw[aq (ne e)];exact e) (fun b ps e=>⟨#[],by rw[aq (ne e),e];simp⟩) (fun m hm=>hm) (fun b u e=>?_) I.bare
 .have e:b=a:=by simpa using hb
  subst e;exact⟨f.2.2.2.1,f.2.1,f.2.2.2.2.1,f.2.2.2.2.2⟩
 .by_cases hb:b=a
  .subst hb;rw[ae] at e;cases e;exact new
  .rw[aq hb] at e;exact(I.cY b u e).jP (fun _ _ _ q=>q) (fun d q=>by rw[aq (ne q)];exact q) fun d xs q=>by rw[aq (ne q)];exact q
variable {NB:bQ} {src:bA} {scope:Scope} {qual:Str} {params:lY} {body:Expr} {y:Str} {f c:Addr} {te:TE} {k:Nat} {ns:aQ} {kz:ua} {its:bw} {a kS:Addr} {e1:Nat}
theorem AM{st:bZ}{keys:bD}{e:Nat}{E:bV}{A:br}(I:aU X af σ H s)(fa:hZ X af H a)(fk:hZ X af H kS)(Ro:kS≠a)(oa:s.heap.get? a=some (seqObj "list" #[] e1))(ok:s.heap.get? kS=some (seqObj "list" keys e))(hk:keys.size<64)(L8:(arrOf st).size<64)(hfl:failedOf st=none){out:aQ}(hv:ba (out.map fun (x:Nat)=>V.int (x:Int)) ((arrOf st).map (·.2)).toList){Pzz:PySem.Fin->Shared->Prop}(h:∀s',aU X af σ (upd H a (.lst (out.map fun (x:Nat)=>V.int (x:Int)))) s'->Pzz (.done (.ret .none)) s'):
  wpAny (model X.prog X.w) A (ksk_tail a false e1 (.ref kS) st) Pzz E s:=by
 have s1:=qA s.heap kS (Obj.mapSeq fun _=>(#[]:bD));have na1:(s.heap.update kS (Obj.mapSeq fun _=>(#[]:bD))).get? a=some (seqObj "list" #[] e1):=(s1.2 a Ro.symm).trans oa;have s2:=qA (s.heap.update kS (Obj.mapSeq fun _=>(#[]:bD))) a (Obj.mapSeq fun _=>(arrOf st).map (·.2));obtain⟨c2,Uv⟩:∃c2,((s.heap.update kS (Obj.mapSeq fun _=>(#[]:bD))).update a (Obj.mapSeq fun _=>(arrOf st).map (·.2))).get? a=some (seqObj "list" ((arrOf st).map (·.2)) c2):=⟨_,kU na1 fun _=>(arrOf st).map (·.2)⟩
 have J1:=I.turned (t':=s.toks) (h':=s.heap.update kS (Obj.mapSeq fun _=>(#[]:bD))) (it:=kS) (fun b o hb q=>(s1.2 b hb).trans q) fk.1 fk.2.1 fk.2.2.2.1 fk.2.2.2.2.1 fk.2.2.2.2.2;have J2:=J1.turned (t':=s.toks) (h':=(s.heap.update kS (Obj.mapSeq fun _=>(#[]:bD))).update a (Obj.mapSeq fun _=>(arrOf st).map (·.2))) (it:=a) (fun b o hb q=>(s2.2 b hb).trans q) fa.1 fa.2.1 fa.2.2.2.1 fa.2.2.2.2.1 fa.2.2.2.2.2;have J3:=J2.Wn fa (o:=.lst (out.map fun (x:Nat)=>V.int (x:Int))) ⟨?_,((arrOf st).map (·.2)).toList,c2,hv,by rw[Uv]⟩
 .unfold ksk_tail;try dsimp only
  refine au (jK ok rfl ?_ (by rw[ge];lia) (cp _));refine au (wpAny_letGo ?_);refine au (lX na1 rfl ?_);simp only[iM,eG];refine au (jK na1 rfl ?_ (cp _) (by rw[j8,ge];lia));rw[hfl];simp only[ut,iM,eG];exact wpAny_pure (h _ J3)
 .have:=hv.length;rw[this,lJ,j8,ge];lia
theorem Ng{keys:bD}{e:Nat}{E:bV}{A:br}(I:aU X af σ H s)(fa:hZ X af H a)(fk:hZ X af H kS)(Ro:kS≠a)(oa:s.heap.get? a=some (seqObj "list" #[] e1))(ok:s.heap.get? kS=some (seqObj "list" keys e))(hk:IntsAre keys.toList (ns.map kz))(hP:Io ns kz (keys.zip its.toArray).toList)(hl:its.length=ns.length)(L8:ns.length<64)(Rn:ns.Pairwise (·<·))(Nf:∀n∈ns,n<64){Pzz:PySem.Fin->Shared->Prop}(h:∀s' (out:aQ),out.Perm ns->out.Pairwise (zx kz)->aU X af σ (upd H a (.lst (out.map fun (x:Nat)=>V.int (x:Int)))) s'->Pzz (.done (.ret .none)) s'):
  wpAny (model X.prog X.w) A (ksk_end a false its.toArray e1 (.ref kS) keys) Pzz E s:=by
 have iD:keys.size=ns.length:=by
  have h1:=hk.length;rw[lJ,aT] at h1;exact h1
 have hzs:(keys.zip its.toArray).size=ns.length:=by rw[Array.size_zip,iD,ce,hl,uM]
 unfold ksk_end;simp only[iM,eG];by_cases h2:its.toArray.size<2
 .rw[ap h2,ap h2];refine au (wpAny_pure ?_);rw[Ca];refine au (wpAny_pure ?_);try dsimp only
  rw[ce,hl] at h2;obtain⟨out,o1,o2,o3⟩:=hP.out (b:=keys.zip its.toArray) (xH _) (fun i j zL hj=>by rw[hzs] at hj;rw[show i=j by lia];exact om _);exact AM (st:=SortSt.mk' general' (keys.zip its.toArray) #[] 7 none) I fa fk Ro oa ok (by lia) (by show (keys.zip its.toArray).size<64;lia) rfl o3 fun s' J=>h s' out o1 o2 J
 .rw[ao h2,ao h2];rw[ce,hl] at h2;rw[ksk_kind hk (by lia)];refine au (wpAny_pure ?_);refine au (jL (vj (st:=SortSt.mk' oneType' (keys.zip its.toArray) #[] 7 none) (a₀:=keys.zip its.toArray) (ck:=YU) (nu:=Wm)
   (Q:=fun _ aF=>(arrOf aF).Perm (keys.zip its.toArray)/\failedOf aF=none/\zu YU Wm (arrOf aF) (keys.zip its.toArray).size)
   hP.cmp (hP.nu Rn Nf) rfl rfl rfl rfl (by lia) (by lia) fun aF a1 a2 a3=>⟨a1,a2,a3⟩) ?_ fun _ _ e=>e)
  rintro⟨⟨⟩,aF⟩ s' ⟨rfl,hp,hf,hs⟩;try dsimp only
  obtain⟨out,o1,o2,o3⟩:=hP.out hp hs;exact AM I fa fk Ro oa ok (by lia) (by rw[hp.size_eq];lia) hf o3 fun s' J=>h s' out o1 o2 J
theorem Kk(hr:df k X.A)(S:AL X NB src scope qual params body y)(hb:∀dJ s H,PE (r6 X NB scope dJ qual f c s H) body te)(I:aU X af σ H s)(hf:H f=some (v5 f qual params body scope X.env.cells c))(hc:H c=some (pJ c qual))(hv:ba (ns.map fun (x:Nat)=>V.int (x:Int)) its)(L8:ns.length<64)(Rn:ns.Pairwise (·<·))(Nf:∀n∈ns,n<64)(fa:hZ X af H a)(fk:hZ X af H kS)(Ro:kS≠a)(oa:s.heap.get? a=some (seqObj "list" #[] e1))(ok:s.heap.get? kS=some (seqObj "list" #[] 0))(hte:∀n∈ns,∀H',aI H H'->te ((Bn src σ).set 0 (some (.int (n:Nat)))) H' fun v Wo=>v=.int (kz n)/\aI H' Wo)(h:∀H' s' (out:aQ),aI H H'->H' a=none->out.Perm ns->out.Pairwise (zx kz)->aU X af σ (upd H' a (.lst (out.map fun (x:Nat)=>V.int (x:Int)))) s'->Pzz (.done (.ret .none)) s'):
  wpAny (model X.prog X.w) X.A.in1.in1 (ksk_rest a (.ref f) false its.toArray e1 (.ref kS)) Pzz E s:=by
 have hl:its.length=ns.length:=by have:=hv.length;rw[aT] at this;exact this.symm
 unfold ksk_rest;refine au (fv ?_);first
  |rw[List.forIn_toArray]
  |(rw[<-uq];simp only[List.toList_toArray])
  |rw[<-uq]
 have Wp:∀ {p:Addr×Obj} {b:Addr} {o:Obj} {H':Hp} {s':aR},hZ X af H b->H' b=none->s'.heap.get? b=some o->(∀v,o.data≠.cell v)->p=(b,o)->s'.heap.get? p.1=some p.2/\H' p.1=none/\p.1≠X.env.locals/\p.1∉X.fs/\∀v,p.2.data≠.cell v:=fun {p b o H' s'} F n e d z=>by
  subst z;exact⟨e,n,F.2.1,F.2.2.1,d⟩
 have two:∀ {H':Hp} {s':aR} {oK:Obj} {pn':cE},aU X pn' σ H' s'->(∀p∈af,p∈pn')->H' a=none->H' kS=none->s'.heap.get? a=some (seqObj "list" #[] e1)->s'.heap.get? kS=some oK->(∀v,oK.data≠.cell v)->aU X (af++[(kS,oK),(a,seqObj "list" #[] e1)]) σ H' s':=fun {H' s' oK pn'} J sub na nk ea ek d=>J.ph fun p hp=>by
  rcases cL.mp hp with z|z
  .exact J.pin p (e_ _ (sub p z))
  .rcases bq.mp z with z|z
   .exact Wp fk nk ek d z
   .exact Wp fa na ea (fun v z=>by cases z) (dA.mp z)
 refine au (ksk_fold (fun i s'=>∃H' kA e,aI H H'/\aU X (af++[(kS,seqObj "list" kA e),(a,seqObj "list" #[] e1)]) σ H' s'/\IntsAre kA.toList ((ns.take i).map kz)) its 0 s
  ⟨H,#[],0,aI.refl _,two I (fun p z=>z) fa.1 fk.1 oa ok (fun v z=>by cases z),by simpa using IntsAre.nil⟩ ?step ?done)
 case step=>
  rintro j x s' hx ⟨H',kA,e,sm,J,hk⟩;simp only[jJ] at hk |-;have hj:j<ns.length:=by rw[<-hl];exact(eR.mp hx).1
  have hnj:ns[j]?=some ns[j]:=cz hj;obtain⟨u,hu,ru⟩:=hv.get (i:=j) (x:=V.int ((ns[j]:Nat):Int)) (by rw[cA,hnj];rfl);rw[hx] at hu;cases hu;refine au (kW (jL (Kj hr S J (sm _ _ hf) (sm _ _ hc) ru hb (hte ns[j] (ie hj) H' sm)) (fun w LY he=>?_) fun _ _ hF=>hF.elim));obtain⟨v,Wo,J2,⟨vT,V3⟩⟩:=he;obtain⟨rfl,PJ⟩:=V3;obtain⟨t2,rfl⟩:∃t,w=Value.int (kz ns[j]) t:=vT;try dsimp only
  have nk:=J2.pin (kS,seqObj "list" kA e) (e_ _ (e_ _ (.head _)));have na:=J2.pin (a,seqObj "list" #[] e1) (e_ _ (e_ _ (.tail _ (.head _))));have s1:=qA LY.heap kS (Obj.mapSeq (·.push (.int (kz ns[j]) t2)));obtain⟨c2,Uv⟩:∃c2,(LY.heap.update kS (Obj.mapSeq (·.push (.int (kz ns[j]) t2)))).get? kS=some (seqObj "list" (kA.push (.int (kz ns[j]) t2)) c2):=⟨_,kU nk.1 (·.push (.int (kz ns[j]) t2))⟩
  have hz:kA.size<=64:=by
   have h1:=hk.length;rw[lJ,aT,kL] at h1;lia
  have J3:=(J2.ph (pins':=af) fun p hp=>J2.pin p (e_ _ (gC _ hp))).turned (t':=LY.toks) (h':=LY.heap.update kS (Obj.mapSeq (·.push (.int (kz ns[j]) t2)))) (it:=kS) (fun b o hb q=>(s1.2 b hb).trans q) nk.2.1 fk.2.1 fk.2.2.2.1 fk.2.2.2.2.1 fk.2.2.2.2.2;refine au (jK nk.1 rfl ?_ (by rw[ge];lia) (aZ (qN (Array.size_push ..)) (by rw[ge];lia)));refine wpAny_pure ⟨rfl,Wo,_,c2,sm.trans PJ,two J3 (fun p z=>z) na.2.1 nk.2.1 ((s1.2 a Ro.symm).trans na.1) Uv (fun v z=>by cases z),?_⟩;have ek:(ns.take (j+1)).map kz=(ns.take j).map kz++[kz ns[j]]:=by rw[gW,hnj,BY,dt];rfl
  have ea:(kA.push (Value.int (kz ns[j]) t2)).toList=kA.toList++[Value.int (kz ns[j]) t2]:=by simp
  rw[ea,ek];exact ksk_snoc hk
 case done=>
  rintro s' ⟨H',kA,e,sm,J,hk⟩;have L7:IntsAre kA.toList (ns.map kz):=by
   have e3:ns.take (0+its.length)=ns:=qr (by lia);rw[e3] at hk;exact hk
  have nk:=J.pin (kS,seqObj "list" kA e) (e_ _ (e_ _ (.head _)));have na:=J.pin (a,seqObj "list" #[] e1) (e_ _ (e_ _ (.tail _ (.head _))));try dsimp only
  refine au (listItems_at nk.1 rfl ?_);have hP:Io ns kz (kA.zip its.toArray).toList:=by
   rw[ksk_zip];have l1:=L7.length;rw[aT] at l1;refine⟨by rw[qI,l1,hl,uM],fun i n hn=>?_⟩;have hi:i<ns.length:=(eR.mp hn).1;obtain⟨u,hu,t',rfl⟩:=hv.get (i:=i) (x:=V.int ((n:Nat):Int)) (by rw[cA,hn];rfl);have hki:i<kA.toList.length:=by rw[l1];exact hi
   obtain⟨m,t,em,en⟩:=L7.at i kA.toList[i] (cz hki);rw[cA,hn] at en;cases en;refine⟨t,t',?_⟩;rw[xp];exact⟨by rw[cz hki,em],hu⟩
  exact Ng (J.ph (pins':=af) fun p hp=>J.pin p (e_ _ (gC _ hp))) ⟨na.2.1,fa.2⟩ ⟨nk.2.1,fk.2⟩ Ro na.1 nk.1 L7 hP hl L8 Rn Nf fun s2 out o1 o2 J2=>h H' s2 out sm na.2.1 o1 o2 J2
end
def Rp(X:Cx)(NB:bQ)(src:bA)(qual:Str)(params:lY)(body:Expr)(scope:Scope)(te:TE):St->List V->List V->Hp->VK->Prop:=fun σ vs zs H Q=>
 ∃ (l f c:Addr) (ns:aQ) (kz:ua),vs=[.ref l]/\zs=[.ref f]/\a8 X.K H l (ns.map fun (x:Nat)=>V.int (x:Int))/\ns.length<64/\ns.Pairwise (·<·)/\(∀n∈ns,n<64)/\H f=some (v5 f qual params body scope X.env.cells c)/\H c=some (pJ c qual)/\
  (∀n∈ns,∀H',aI H H'->te ((Bn src σ).set 0 (some (.int (n:Nat)))) H' fun v Wo=>v=.int (kz n)/\aI H' Wo)/\
  ∀ (r:Addr) (H':Hp) (out:aQ),aI H H'->H' r=none->out.Perm ns->out.Pairwise (zx kz)->Q (.ref r) (upd H' r (.lst (out.map fun (x:Nat)=>V.int (x:Int))))
theorem lq(hr:df k X.A)(S:AL X NB src scope qual params body y)(hb:∀f c dJ s H,PE (r6 X NB scope dJ qual f c s H) body te):
  C6 X "sorted" ["key"] (Rp X NB src qual params body scope te):=by
 intro af s σ H vs zs us ws Q I r rz h;obtain⟨l,f,c,ns,kz,rfl,rfl,hl,L8,Rn,Nf,hf,hc,hte,q⟩:=h;obtain⟨u1,rfl,r1⟩:=r.one;obtain rfl:u1=Value.ref l:=r1;obtain⟨w1,rfl,rw1⟩:=rz.one;obtain rfl:w1=Value.ref f:=rw1;obtain⟨its,rv,pl,hz⟩:=I.list hl;have hln:its.length=ns.length:=by have:=rv.length;rw[aT] at this;exact this.symm
 show wpAny (model X.prog X.w) X.A (call (.builtin "sorted") [.ref l] [(Str.ofString "key",.ref f)]) _ _ s;refine call_function_entry_kw kind_sorted plain_sorted entry_sorted (ksk_s1 _ _) ?_;unfold Builtin.«sorted»;refine au (m:=checkCount "sorted" 1 1 _) (wpAny_pure ?_);refine au (collect_list pl.isList ?_ (by rw[ge];lia));refine au (qO ?_ (by rw[ge];lia));have iD:((s.heap.push (seqObj "list" #[] 0)).update s.heap.objs.size (Obj.mapSeq (·++its.toArray))).objs.size=s.heap.objs.size+1:=by
  rw[eV,fw]
 have wx:(((s.heap.push (seqObj "list" #[] 0)).update s.heap.objs.size (Obj.mapSeq (·++its.toArray))).push (seqObj "list" its.toArray 0)).get? (s.heap.objs.size+1)=some (seqObj "list" its.toArray 0):=by
  rw[<-iD];exact cX _ rfl
 have keep:∀b o,s.heap.get? b=some o->(((s.heap.push (seqObj "list" #[] 0)).update s.heap.objs.size (Obj.mapSeq (·++its.toArray))).push (seqObj "list" its.toArray 0)).get? b=some o:=fun b o q=>by
  have eX:b<s.heap.objs.size:=aS q;rw[eT _ _ _ (by rw[iD];exact bf (dH eX)),lK _ _ _ _ (bf eX),eT _ _ _ (bf eX)];exact q
 show wpAny _ _ _ _ _ { s with heap:=((s.heap.push (seqObj "list" #[] 0)).update s.heap.objs.size (Obj.mapSeq (·++its.toArray))).push (seqObj "list" its.toArray 0) };rw[iD];have Gs:(((s.heap.push (seqObj "list" #[] 0)).update s.heap.objs.size (Obj.mapSeq (·++its.toArray))).push (seqObj "list" its.toArray 0)).objs.size=s.heap.objs.size+2:=by rw[fw,iD]
 generalize (((s.heap.push (seqObj "list" #[] 0)).update s.heap.objs.size (Obj.mapSeq (·++its.toArray))).push (seqObj "list" its.toArray 0))=h1 at *;refine au (gK (wpAny_call_entry_kw slot_list_sort ⟨_,wx,rfl⟩ entry_list_sort ?body (ksk_l1 _ _)));case body=>
  have ht':=ksk_t1 f (s.heap.objs.size+1);show wpAny (model X.prog X.w) X.A.in1.in1 (Builtin.«list.sort» ⟨[.ref (s.heap.objs.size+1)],[(Str.ofString "key",.ref f)]⟩) _ _ _;rw[ht'];have s1:=qA h1 (s.heap.objs.size+1) (Obj.mapSeq fun _=>(#[]:bD));obtain⟨e1,Im⟩:∃e1,(h1.update (s.heap.objs.size+1) (Obj.mapSeq fun _=>(#[]:bD))).get? (s.heap.objs.size+1)=some (seqObj "list" #[] e1):=⟨_,kU wx fun _=>#[]⟩
  have hkS:((h1.update (s.heap.objs.size+1) (Obj.mapSeq fun _=>(#[]:bD))).push (seqObj "tuple" its.toArray 0)).objs.size=s.heap.objs.size+3:=by rw[fw,eV,Gs]
  unfold ksk_tree;refine au (listItems_at wx rfl ?_);refine au (jK wx rfl ?_ (by rw[ce,ge];lia) (cp _));refine au (lX Im rfl ?_);refine au (uH ?_ (by show its.length<=_;rw[ge];lia));refine au (qO ?_ (cp _));refine gK ?_;have Wq:∀b o,s.heap.get? b=some o->(((h1.update (s.heap.objs.size+1) (Obj.mapSeq fun _=>(#[]:bD))).push (seqObj "tuple" its.toArray 0)).push (seqObj "list" #[] 0)).get? b=some o:=fun b o e=>
   bP _ (bP _ ((s1.2 b (bf (dH (aS e)))).trans (keep b o e)))
  have I2:aU X af σ H { s with heap:=((h1.update (s.heap.objs.size+1) (Obj.mapSeq fun _=>(#[]:bD))).push (seqObj "tuple" its.toArray 0)).push (seqObj "list" #[] 0) }:=I.kept (t':=s.toks) Wq;refine Kk hr S (hb f c) I2 hf hc rv L8 Rn Nf (I.zN (by lia) (I.cY.fresh (by lia))) (I.zN (b:=((h1.update (s.heap.objs.size+1) (Obj.mapSeq fun _=>(#[]:bD))).push (seqObj "tuple" its.toArray 0)).objs.size) (by lia) (I.cY.fresh (by lia))) (by lia) (bP _ (bP _ Im)) (cX _ rfl) hte fun H' s' out sm na o1 o2 J=>⟨_,rfl,?_⟩
  exact wpAny_pure ⟨_,rfl,.ref (s.heap.objs.size+1),_,J,rfl,q _ H' out sm na o1 o2⟩
end L2
namespace r9
open PySem L2
def top(i:Nat):Stmt:=PySem.Challenge.pw_neverwait_k32_hands_by_rules.main.body.getD i (.Pass ⟨0,0,0,0⟩)
abbrev Du:Stmt:=top 7
abbrev yB:Stmt:=top 8
abbrev Dv:Stmt:=top 9
abbrev Rq:Stmt:=top 11
structure Bl(mg:cr):Prop where
 PL:mg "isinstance"=none
 int:mg "int"=none
 bool:mg "bool"=none
 tup:mg "tuple"=none
 lst:mg "list"=none
 str:mg "str"=none
 set:mg "set"=none
 len:mg "len"=none
 range:mg "range"=none
 sorted:mg "sorted"=none
 any:mg "any"=none
 max:mg "max"=none
 min:mg "min"=none
 aco:mg "ValueError"=none
 all:mg "all"=none
def Kl(K:a_)(H:Hp)(x:V):Prop:=∃t,Pd K H x t/\(W.kitOne K t (.type "int")=some false\/(W.kitOne K t (.type "int")=some true/\W.kitOne K t (.type "bool")=some true))
theorem AN:W.kitOne K (.type "int") (.type "int")=some true:=by kernel_rfl
theorem pU:W.kitOne K (.type "int") (.type "bool")=some false:=by kernel_rfl
inductive Wh (K:a_) (H:Hp):V->Option Int->Prop where
 |int (i:Int):Wh K H (.int i) (some i)
 |no {x:V} (h:Kl K H x):Wh K H x none
def pV(K:a_):Sp:=fun vs H Q _=>∃x o,vs=[x]/\Wh K H x o/\Q (.bl o.isSome) H
section
variable {P:bL} {w:World} {K:a_} {mg:cr} {base:Heap}
theorem Nh:aN ["thing"] ["thing"] (aw Du):=dW (by decide +kernel)
theorem Km(F:iI K "is_whole" "is_whole" Du f fd)(B:Bl mg):bU P w K mg base bo 1 f fd ["thing"] (pV K):=by
 refine F.ok Nh (fun vs H Q E h=>?_) (fun fX A outer s H vs Q E hr h=>?_)
 .obtain⟨x,o,rfl,_⟩:=h;rfl
 .obtain⟨x,o,rfl,W,k⟩:=h;refine⟨_,av (bh (l6 (aJ jg (by rfl) B.PL rM (aa (pv 0) (aa (k4 (v:=.ty "int") rfl B.int PyProof.Rows.boot_int rfl) ag)))
   (qT (IU (aJ jg (by rfl) B.PL rM (aa (pv 0) (aa (k4 (v:=.ty "bool") rfl B.bool PyProof.Rows.boot_bool rfl) ag))))))),?_⟩
  cases W with
  |int i=>
   refine⟨_,rfl,_,_,_,.type "int",true,rfl,⟨rfl,AN⟩,.of (.int _),true,rfl,?_⟩;exact⟨_,rfl,_,_,_,.type "int",false,rfl,⟨rfl,pU⟩,.of (.int _),false,rfl,k⟩
  |no h=>
   obtain⟨t,ty,h|⟨h1,h2⟩⟩:=h
   .exact⟨_,rfl,_,_,_,t,false,rfl,⟨rfl,h⟩,ty,false,rfl,k⟩
   .refine⟨_,rfl,_,_,_,t,true,rfl,⟨rfl,h1⟩,ty,true,rfl,?_⟩;exact⟨_,rfl,_,_,_,t,true,rfl,⟨rfl,h2⟩,ty,true,rfl,k⟩
def jW(o:lu)(lo hi:Int):Bool:=match o with
 |some i=>decide (lo<=i)&&decide (i<=hi)
 |none=>false
def pW(K:a_):Sp:=fun vs H Q _=>∃x o lo hi,vs=[x,.int lo,.int hi]/\Wh K H x o/\Q (.bl (jW o lo hi)) H
theorem Ko:aN ["thing","least","most"] ["thing","least","most"] (aw yB):=dW (by decide +kernel)
theorem Hq(F:iI K "is_whole_within" "is_whole_within" yB f fd)(W:d9 P w K mg base bo 1 "is_whole" ["thing"] (pV K)):bU P w K mg base bo 2 f fd ["thing","least","most"] (pW K):=by
 refine F.ok Ko (fun vs H Q E h=>?_) (fun fX A outer s H vs Q E hr h=>?_)
 .obtain⟨x,o,lo,hi,rfl,_⟩:=h;rfl
 .obtain⟨x,o,lo,hi,rfl,wh,k⟩:=h;refine⟨_,av (bh (l6 (aH W hr aM (aa (pv 0) ag)) (qT (Ja O_ O_ (pv 1) (pv 0) (pv 2))))),?_⟩;refine⟨_,rfl,x,o,rfl,wh,?_⟩;cases wh with
  |no h=>exact⟨false,rfl,k⟩
  |int i=>
   refine⟨true,rfl,_,rfl,_,rfl,_,_,rfl,rfl,_,rfl,?_⟩;show if decide (lo<=i)=true then _ else _
   have k':Q (.bl (decide (lo<=i)&&decide (i<=hi))) H:=k;by_cases h:lo<=i
   .rw[iO h] at k' |-;exact⟨_,rfl,_,_,rfl,rfl,k'⟩
   .rw[gY h] at k' |-;exact k'
def tZ(K:a_):Sp:=fun vs H Q _=>∃x o n,vs=[.int n,x]/\Wh K H x o/\Q (.bl (jW o 0 (n-1))) H
theorem Ni:aN ["many","thing"] ["many","thing"] (aw Dv):=dW (by decide +kernel)
theorem Kp(F:iI K "is_house" "is_house" Dv f fd)(W:d9 P w K mg base bo 2 "is_whole_within" ["thing","least","most"] (pW K)):bU P w K mg base bo 3 f fd ["many","thing"] (tZ K):=by
 refine F.ok Ni (fun vs H Q E h=>?_) (fun fX A outer s H vs Q E hr h=>?_)
 .obtain⟨x,o,n,rfl,_⟩:=h;rfl
 .obtain⟨x,o,n,rfl,wh,k⟩:=h;refine⟨_,av (bh (aH W hr aM (aa (pv 1) (aa az (aa (a9 k8 (pv 0) az) ag))))),?_⟩;exact⟨_,rfl,_,rfl,_,_,rfl,rfl,x,o,0,n-1,rfl,wh,k⟩
inductive Rw (K:a_) (H:Hp):V->Option (List V)->Prop where
 |tup {p:Addr} {xs:bg} (h:H p=some (.tup xs)):Rw K H (.ref p) (some xs)
 |no {x:V} {t:Value} (ty:Pd K H x t) (h:W.kitOne K t (.type "tuple")=some false):Rw K H x none
def Wr(o:Option (List V))(m:Int):Bool:=match o with
 |some xs=>decide ((xs.length:Int)=m)
 |none=>false
theorem yC:W.kitOne K (.type "tuple") (.type "tuple")=some true:=by kernel_rfl
def Kq(K:a_):Sp:=fun vs H Q _=>∃x o m,vs=[x,.int m]/\Rw K H x o/\Q (.bl (Wr o m)) H
theorem Ws:aN ["thing","length"] ["thing","length"] (aw Rq):=dW (by decide +kernel)
theorem Rt(F:iI K "is_row" "is_row" Rq f fd)(B:Bl mg):bU P w K mg base bo 1 f fd ["thing","length"] (Kq K):=by
 refine F.ok Ws (fun vs H Q E h=>?_) (fun fX A outer s H vs Q E hr h=>?_)
 .obtain⟨x,o,m,rfl,_⟩:=h;rfl
 .obtain⟨x,o,m,rfl,W,k⟩:=h;refine⟨_,av (bh (l6 (aJ jg (by rfl) B.PL rM (aa (pv 0) (aa (k4 (v:=.ty "tuple") rfl B.tup o4 rfl) ag)))
   (qT (pq iR (aJ aV (by rfl) B.len fc (aa (pv 0) ag)) (pv 1) (bp _))))),?_⟩
  cases W with
  |@tup p xs h=>
   refine⟨_,rfl,_,_,_,.type "tuple",true,rfl,⟨rfl,yC⟩,.of (.tup h),true,rfl,?_⟩;refine⟨_,rfl,_,_,rfl,.inr (cu.of h),_,rfl,rfl,?_⟩;have e:decide (V.int ((xs.length:Nat):Int)=V.int m)=decide (((xs.length:Nat):Int)=m):=by simp
   rw[e];exact k
  |no ty h=>exact⟨_,rfl,_,_,_,_,false,rfl,⟨rfl,h⟩,ty,false,rfl,k⟩
theorem bj(s:aI H H')(hD:H D=none):aI H (upd H' D o):=fun b u e=>by rw[aq (am e hD)];exact s b u e
abbrev IV(ns:dG):List V:=ns.map V.int
abbrev NV(ns:aQ):List V:=ns.map fun (x:Nat)=>V.int (x:Int)
theorem aao(Gy Gn:rP)(hy:∀H,Gy H->t D σ H)(hn:∀H,Gn H->u D σ H)(ht:∀Y N:Hp->Prop,(∀H,Gy H->Y H)->(∀H,Gn H->N H)->c σ H fun b H1=>if b=true then Y H1 else N H1):U8 c t u D σ H:=ht _ _ hy hn
theorem xa(G:iu)(hr:∀σ H,G σ H->u D σ H)(ht:∀N:St->Hp->Prop,(∀σ H,G σ H->N σ H)->t { D with nx:=N } σ H):U5 t u D σ H:=ht _ hr
abbrev Zs:=List (Addr×(Int×Int))
abbrev oY(u:lG):HO:=.tup [.int u.1,.int u.2]
def zr(zs:Zs):List V:=zs.map fun z=>V.ref z.1
def zp(zs:Zs):List (Int×Int):=zs.map (·.2)
def PO(H:Hp)(zs:Zs):Prop:=∀z∈zs,H z.1=some (oY z.2)
theorem eO:zr (a++b)=zr a++zr b:=dt
theorem eQ:zp (a++b)=zp a++zp b:=dt
theorem dZ:(zr a).length=a.length:=aT _
theorem b_:(zp a).length=a.length:=aT _
theorem iY:zr a=(a.map (·.1)).map V.ref:=by unfold zr;rw[dQ];rfl
theorem vy{zs:Zs}{i:Nat}{x:V}(h:(zr zs)[i]?=some x):∃z,zs[i]?=some z/\x=.ref z.1:=by
 unfold zr at h;rw[cA] at h;cases e:zs[i]? with
 |none=>rw[e] at h;cases h
 |some z=>rw[e] at h;exact⟨z,rfl,(cB h).symm⟩
theorem PO.nil:PO H []:=fun z hz=>(nomatch hz)
theorem PO.same(h:PO H zs)(s:aI H H'):PO H' zs:=fun z hz=>s _ _ (h z hz)
theorem PO.putL(h:PO H zs)(e:H D=some (.lst xs)):PO (upd H D o) zs:=fun z hz=>by
 have:=h z hz;rw[aq (by rintro rfl;rw[e] at this;cases this)];exact this
theorem PO.putN(h:PO H zs)(e:H D=none):PO (upd H D o) zs:=h.same (aj e)
theorem PO.append(h:PO H a)(h':PO H b):PO H (a++b):=fun z hz=>(cL.mp hz).elim (h z) (h' z)
theorem PO.one(h:H p=some (oY u)):PO H [(p,u)]:=fun z hz=>by rw[dA.mp hz];exact h
theorem AO{zs:Zs}{i:Nat}(h:i<zs.length):(zs.map (·.1)).getD i 0=zs[i].1:=by
 rw[cw,cA,cz h];rfl
theorem Fc(h:i<zs.length):(zp zs).getD i (0,0)=zs[i].2:=by
 unfold zp;rw[cw,cA,cz h];rfl
theorem Hr{H:Hp}{zs:Zs}(ho:PO H zs){as:bR}(h:as.Perm (zs.map (·.1))):∃jy:Zs,jy.Perm zs/\as=jy.map (·.1):=by
 classical
 let f:Addr->Int×Int:=fun a=>match H a with
  |some (.tup [.int x,.int y])=>(x,y)
  |_=>(0,0)
 have e:(zs.map (·.1)).map (fun a=>(a,f a))=zs:=by
  rw[dQ];conv=>rhs;rw[<-kY zs]
  refine j6 fun z hz=>?_;have:=ho z hz;show (z.1,f z.1)=z;have e2:f z.1=z.2:=by
   show (match H z.1 with|some (.tup [.int x,.int y])=>(x,y)|_=>(0,0))=z.2;rw[this]
  rw[e2]
 refine⟨as.map fun a=>(a,f a),?_,?_⟩
 .have:=h.map (fun a=>(a,f a));rw[e] at this;exact this
 .rw[dQ];exact(kY as).symm
abbrev Ord(us:o0):Prop:=us=us
theorem Nj{K:a_}{H:Hp}{l:Addr}{zs:Zs}{Q:VK}(hl:H l=some (.lst (zr zs)))(ho:PO H zs)(hz:zs.length<=4096)(hb:∀u∈zp zs,0<=u.2/\u.2<64)(q:∀ (D:Addr) (jy:Zs),H D=none->jy.Perm zs->Ord (zp jy)->Q (.ref D) (upd H D (.lst (zr jy)))):JT K [.ref l] H Q:=by
 refine⟨l,zs.map (·.1),rfl,a8.of (by rw[<-iY];exact hl),fun a ha=>?_,by rw[aT];exact hz,fun D nB hD hp=>?_⟩
 .obtain⟨z,hz,rfl⟩:=bB.mp ha;exact⟨_,_,cu.of (ho z hz)⟩
 .obtain⟨jy,h1,rfl⟩:=Hr ho hp;rw[<-iY];exact q D jy hD h1 rfl
theorem AQ(F:Nat->Int×Int)(c_:rQ)(hD:H0 D=none)(hn:n<=100000)(h0:c_ σB)(hs:∀i σ H (R:j_) (Kf:iu),i<n->c_ σ->aI H0 H->(∀σ2 p,c_ σ2->H p=none->R (.ref p) σ2 (upd H p (oY (F i))))->g (.int (lo+i)) σ H fun σ2 H2=>tt σ2 H2 fun b H3=>if b=true then te σ2 H3 fun v H4=>R v σ2 H4 else Kf σ2 H3)(hd:∀zs H,aI H0 H->H D=some (.lst (zr zs))->PO H zs->zp zs=(List.range n).map F->(∀z∈zs,H0 z.1=none)->d_ H):iy (H_ lo n) g tt te D d_ σB (upd H0 D (.lst [])):=by
 refine fJ (fun i ys σ H=>c_ σ/\aI H0 H/\H D=some (.lst ys)/\∃zs:Zs,ys=zr zs/\PO H zs/\zp zs=(List.range i).map F/\∀z∈zs,H0 z.1=none) ⟨h0,aj hD,ae,[],rfl,PO.nil,rfl,fun z hz=>nomatch hz⟩ ?_ ?_
 .rintro i ys σ H Kt Kf hi ⟨sh,sm,kD,zs,rfl,po,ep,fr⟩ kt kf;have hl:zs.length=i:=by rw[<-b_,ep,aT,dk]
  refine hs i σ H Kt Kf hi sh sm (fun σ2 p yD hp=>?_)
  .have nD:D≠p:=am kD hp;refine kt _ _ _ (by rw[aq nD];exact kD) (by rw[dZ,hl];exact bv hi (aZ hn (by decide))) ⟨yD,bj (sm.trans (aj hp)) hD,ae,zs++[(p,F i)],?_,?_,?_,?_⟩
   .rw[eO];rfl
   .refine PO.putL (xs:=zr zs) ?_ (by rw[aq nD];exact kD);exact(po.putN hp).append (PO.one ae)
   .rw[eQ,ep,lw,dt];rfl
   .intro z hz;rcases cL.mp hz with z'|z'
    .exact fr z z'
    .rw[dA.mp z'];exact sm.free hp
 .rintro ys σ H ⟨_,sm,kD,zs,rfl,po,ep,fr⟩;exact hd zs H sm kD po ep fr
theorem vz{K:a_}{a D:Addr}{Dw:Zs}{g:TG}{tt:TT}{te:TE}{d_:rP}{σB:St}{H0:Hp}(F:Int×Int->Int×Int)(c_:rQ)(ha:H0 a=some (.lst (zr Dw)))(PM:PO H0 Dw)(hD:H0 D=none)(hn:Dw.length<=100000)(h0:c_ σB)(hs:∀z σ H (R:j_) (Kf:iu),z∈Dw->c_ σ->aI H0 H->H z.1=some (oY z.2)->(∀σ2 p,c_ σ2->H p=none->R (.ref p) σ2 (upd H p (oY (F z.2))))->g (.ref z.1) σ H fun σ2 H2=>tt σ2 H2 fun b H3=>if b=true then te σ2 H3 fun v H4=>R v σ2 H4 else Kf σ2 H3)(hd:∀zs H,aI H0 H->H D=some (.lst (zr zs))->PO H zs->zp zs=(zp Dw).map F->(∀z∈zs,H0 z.1=none)->d_ H):iy (I0 K a) g tt te D d_ σB (upd H0 D (.lst [])):=by
 refine fZ (xs:=zr Dw) (fun i ys σ H=>c_ σ/\aI H0 H/\H D=some (.lst ys)/\∃zs:Zs,ys=zr zs/\PO H zs/\zp zs=((zp Dw).take i).map F/\∀z∈zs,H0 z.1=none) ⟨h0,aj hD,ae,[],rfl,PO.nil,rfl,fun z hz=>nomatch hz⟩ (fun i ys σ H _ z=>a8.of (z.2.1 _ _ ha)) ?_ ?_
 .rintro i x ys σ H Kt Kf hx ⟨sh,sm,kD,zs,rfl,po,ep,fr⟩ kt kf;obtain⟨z,hz,rfl⟩:=vy hx;have hi:i<Dw.length:=(eR.mp hz).1;have PP:z∈Dw:=dz hz;have hl:zs.length=i:=by rw[<-b_,ep,aT,kL,b_];lia
  refine hs z σ H Kt Kf PP sh sm (sm _ _ (PM z PP)) (fun σ2 p yD hp=>?_)
  .have nD:D≠p:=am kD hp;refine kt _ _ _ (by rw[aq nD];exact kD) (by rw[dZ,hl];exact bv hi (aZ hn (by decide))) ⟨yD,bj (sm.trans (aj hp)) hD,ae,zs++[(p,F z.2)],?_,?_,?_,?_⟩
   .rw[eO];rfl
   .refine PO.putL (xs:=zr zs) ?_ (by rw[aq nD];exact kD);exact(po.putN hp).append (PO.one ae)
   .have e2:(zp Dw)[i]?=some z.2:=by unfold zp;rw[cA,hz];rfl
    rw[eQ,ep,gW,e2,BY,dt];rfl
   .intro z hz;rcases cL.mp hz with z'|z'
    .exact fr z z'
    .rw[dA.mp z'];exact sm.free hp
 .rintro ys σ H ⟨_,sm,kD,zs,rfl,po,ep,fr⟩;rw[dZ,<-b_,ja] at ep;exact hd zs H sm kD po ep fr
theorem Dx{H:Hp}{zs:Zs}(ho:PO H zs):∃g:Addr->Int×Int,(∀z∈zs,g z.1=z.2)/\∀ {as:bR},as.Perm (zs.map (·.1))->∃jy:Zs,jy.Perm zs/\as=jy.map (·.1):=by
 classical
 let f:Addr->Int×Int:=fun a=>match H a with
  |some (.tup [.int x,.int y])=>(x,y)
  |_=>(0,0)
 have e2:∀z∈zs,f z.1=z.2:=fun z hz=>by
  show (match H z.1 with|some (.tup [.int x,.int y])=>(x,y)|_=>(0,0))=z.2;rw[ho z hz]
 have e:(zs.map (·.1)).map (fun a=>(a,f a))=zs:=by
  rw[dQ];conv=>rhs;rw[<-kY zs]
  refine j6 fun z hz=>?_;show (z.1,f z.1)=z;rw[e2 z hz]
 refine⟨f,e2,fun {as} h=>⟨as.map fun a=>(a,f a),?_,?_⟩⟩
 .have:=h.map (fun a=>(a,f a));rw[e] at this;exact this
 .rw[dQ];exact(kY as).symm
abbrev Ru(us:o0):Prop:=us.Pairwise fun u v=>pk u<=pk v
theorem Kr{K:a_}{H:Hp}{l:Addr}{zs:Zs}{Q:VK}(hl:H l=some (.lst (zr zs)))(ho:PO H zs)(hz:zs.length<64)(hb:∀u∈zp zs,0<=u.2/\u.2<64)(up:(zp zs).Pairwise fun u v=>u.2<v.2)(q:∀ (D:Addr) (jy:Zs),H D=none->jy.Perm zs->Ru (zp jy)->Q (.ref D) (upd H D (.lst (zr jy)))):JW K [.ref l] H Q:=by
 obtain⟨g,hg,aap⟩:=Dx ho;refine⟨l,zs.map (·.1),g,rfl,a8.of (by rw[<-iY];exact hl),fun a ha=>?_,by rw[aT];exact hz,?_,fun D nB hD hp so=>?_⟩
 .obtain⟨z,hz,rfl⟩:=bB.mp ha;rw[hg z hz];exact⟨cu.of (ho z hz),hb _ (bB.mpr ⟨z,hz,rfl⟩)⟩
 .refine gk.mpr ((gk.mp up).imp_of_mem fun {a b} ha hb h=>?_);rw[hg a ha,hg b hb];exact h
 .obtain⟨jy,h1,rfl⟩:=aap hp;rw[<-iY];refine q D jy hD h1 ?_;unfold zp Ru;rw[gk] at so |-;refine so.imp_of_mem fun {a b} ha hb h=>?_;rw[hg a (h1.mem_iff.mp ha),hg b (h1.mem_iff.mp hb)] at h;exact h
open ln
abbrev Fd:Stmt:=gw (top 31) 0
abbrev Rv:Stmt:=gw (top 31) 3
abbrev Rx:Stmt:=gw (top 31) 4
abbrev Ks:Stmt:=gw (top 31) 6
abbrev Dy:Stmt:=gw (top 31) 8
theorem n12:¬ (("house_count":Str)="tie_list"):=by decide +kernel
theorem n13:¬ (("house_count":Str)="out_lists"):=by decide +kernel
theorem n14:¬ (("house_count":Str)="distances"):=by decide +kernel
theorem n34:¬ (("out_lists":Str)="distances"):=by decide +kernel
def rC(n:Int)(tl ol ds:Addr):List (Str×V):=eY "distances" (.ref ds) (eY "out_lists" (.ref ol) (eY "tie_list" (.ref tl) (eY "house_count" (.int n) [])))
theorem Nk(n:Int)(tl ol ds:Addr):(rC n tl ol ds).lookup ("house_count":Str)=some (.int n):=by
 unfold rC;rw[bS,ao n14,bS,ao n13,bS,ao n12,bS,ap rfl]
theorem t7(n:Int)(tl ol ds:Addr){m:Str}(h1:¬ m="house_count")(h2:¬ m="tie_list")(h3:¬ m="out_lists")(h4:¬ m="distances"):(rC n tl ol ds).lookup m=none:=by
 unfold rC;rw[bS,ao h4,bS,ao h3,bS,ao h2,bS,ao h1];all_goals rfl
theorem Fe(n:Int)(tl ol ds:Addr):(rC n tl ol ds).lookup ("out_lists":Str)=some (.ref ol):=by
 unfold rC;rw[bS,ao n34,bS,ap rfl]
theorem Ff(n:Int)(tl ol ds:Addr):(rC n tl ol ds).lookup ("distances":Str)=some (.ref ds):=by
 unfold rC;rw[bS,ap rfl]
def bK(H:Hp)(L:iQ)(l:Addr)(n:Nat)(r:Nat->List Nat):Prop:=∃bs:List Addr,H l=some (.lst (bs.map V.ref))/\(∀b∈bs,L b)/\Holds H bs n (fun h=>.lst (NV (r h)))
theorem bK.keep(R:bK H L l n r)(hl:L l)(k:∀b o,L b->H b=some o->H' b=some o):bK H' L l n r:=
 let ⟨bs,a,b,c⟩:=R
 ⟨bs,k _ _ hl a,b,c.mono fun j hj e=>k _ _ (b _ (by rw[cw,cz (by rw[c.1];exact hj)];exact ie _)) e⟩
theorem bK.row(R:bK H L l n r)(hh:h<n):∃ (bs:bR) (b:Addr),H l=some (.lst (bs.map V.ref))/\(bs.map V.ref)[h]?=some (V.ref b)/\H b=some (.lst (NV (r h)))/\L b:=by
 obtain⟨bs,a,b,c⟩:=R;have hl:h<bs.length:=by rw[c.1];exact hh
 refine⟨bs,bs[h],a,by rw[cA,cz hl];rfl,?_,b _ (ie _)⟩;have:=c.2 h hh;rw[cw,cz hl] at this;exact this
def Nl(H:Hp)(L:iQ)(tl:Addr)(ts:Ts):Prop:=L tl/\∃zs:Zs,H tl=some (.lst (zr zs))/\PO H zs/\(∀z∈zs,L z.1)/\(zp zs).Perm ts/\Ord (zp zs)
theorem Nl.keep(h:Nl H L tl ts)(k:∀b o,L b->H b=some o->H' b=some o):Nl H' L tl ts:=
 let ⟨a,zs,b,c,d,e⟩:=h;⟨a,zs,k _ _ a b,fun z hz=>k _ _ (d z hz) (c z hz),d,e⟩
structure dE(C:Addr)(H:Hp)(L:iQ)(p:Addr)(n:Nat)(ts:Ts):Prop where
 lE:cJ n ts
 ob:∃dx tl ol ds,H p=some (.ins C dx (rC n tl ol ds))/\L ol/\L ds/\bK H L ol n (bX n ts)/\bK H L ds n (fun h=>(List.range n).map (far ts h))/\Nl H L tl ts
theorem dE.keep(N:dE C H L p n ts)(k:∀b o,L b->H b=some o->H' b=some o)(kp:∀o,H p=some o->H' p=some o):dE C H' L p n ts:=
 let ⟨dx,tl,ol,ds,a,l1,l2,b,c,d⟩:=N.ob
 ⟨N.lE,dx,tl,ol,ds,kp _ a,l1,l2,b.keep l1 k,c.keep l2 k,d.keep k⟩
theorem dE.same(N:dE C H L p n ts)(s:aI H H'):dE C H' L p n ts:=N.keep (fun b o _ e=>s b o e) (fun o e=>s _ o e)
structure NT(K:a_)(mg:cr)(C:Addr):Prop where
 cl:Ib K C
 nH:jf K C "house_count"
 nT:jf K C "tie_list"
 nO:jf K C "out_lists"
 nD:jf K C "distances"
 Nm:mg "Net"=some (.ref C)
structure jX(P:bL)(w:World)(K:a_)(mg:cr)(base:Heap)(CX:Bk)(k:Nat)(C:Addr)(x:Str)(ps:bQ)(sp:Sp):Prop where
 ex:∃f fd,QB K C x f/\lx K fd ps []/\bU P w K mg base CX k f fd ps sp
theorem Nn:aN ["self","thing"] ["self","thing"] (aw Dy):=dW (by decide +kernel)
theorem Ht{i n:Nat}(h:i<n):jW (some (i:Int)) 0 ((n:Int)-1)=true:=by unfold jW;simp;lia
def pX(C:Addr):Sp:=fun vs H Q _=>∃ (L:iQ) (p:Addr) (n:Nat) (ts:Ts) (i:Nat),vs=[.ref p,.int i]/\dE C H L p n ts/\i<n/\Q .cI H
theorem Hu{f C:Addr}{fd:eA}(F:iI K "check_house" "Net.check_house" Dy f fd)(T:NT K mg C)(HH:d9 P w K mg base bo 3 "is_house" ["many","thing"] (tZ K)):
  bU P w K mg base bo 4 f fd ["self","thing"] (pX C):=by
 refine F.ok Nn (fun vs H Q E h=>?_) (fun fX A outer s H vs Q E hr h=>?_)
 .obtain⟨L,p,n,ts,i,rfl,_⟩:=h;rfl
 .obtain⟨L,p,n,ts,i,rfl,N,hi,k⟩:=h;obtain⟨dx,tl,ol,ds,h1,_⟩:=N.ob;refine⟨_,av (dS (oq (jR (aH HH hr aM (aa (k9 (pv 0) rfl) (aa (pv 1) ag))))) ff b8),?_⟩;refine⟨_,rfl,p,C,dx,_,_,rfl,h1,T.cl,T.nH,Nk _ _ _ _,_,rfl,_,some (i:Int),n,rfl,.int _,_,rfl,?_⟩;rw[Ht hi];exact jT k
theorem Ry(n:Int)(tl ol ds:Addr):(rC n tl ol ds).lookup ("check_house":Str)=none:=t7 n tl ol ds (by decide +kernel) (by decide +kernel) (by decide +kernel) (by decide +kernel)
theorem Rz(n:Int)(tl ol ds:Addr):(rC n tl ol ds).lookup ("far":Str)=none:=t7 n tl ol ds (by decide +kernel) (by decide +kernel) (by decide +kernel) (by decide +kernel)
theorem be:(NV xs).length=xs.length:=aT _
theorem Wt:aN ["self","house"] ["self","house"] (aw Rv):=dW (by decide +kernel)
def Dz(C:Addr):Sp:=fun vs H Q _=>∃ (L:iQ) (p:Addr) (n:Nat) (ts:Ts) (i:Nat),vs=[.ref p,.int i]/\dE C H L p n ts/\i<n/\∀r H',aI H H'->H r=none->H' r=some (.lst (NV (bX n ts i)))->Q (.ref r) H'
theorem No(F:iI K "out" "Net.out" Rv f fd)(T:NT K mg C)(B:Bl mg)(M:jX P w K mg base bo 4 C "check_house" ["self","thing"] (pX C)):
  bU P w K mg base bo 5 f fd ["self","house"] (Dz C):=by
 obtain⟨fM,fdM,mM,bM,GM⟩:=M.ex;refine F.ok Wt (fun vs H Q E h=>?_) (fun fX A outer s H vs Q E hr h=>?_)
 .obtain⟨L,p,n,ts,i,rfl,_⟩:=h;rfl
 .obtain⟨L,p,n,ts,i,rfl,N,hi,k2⟩:=h;obtain⟨dx,tl,ol,ds,h1,_,_,R,_⟩:=N.ob;refine⟨_,ak (cG (eZ (pv 0) T.cl mM GM hr bM .nil aM (aa (pv 1) ag)))
   (av (bh (cU yc (by rfl) B.lst qp (aa (aX aG (k9 (pv 0) rfl) (pv 1) (fun _ _=>rfl)) ag)))),?_⟩
  refine⟨_,rfl,p,dx,_,rfl,h1,Ry _ _ _ _,_,rfl,L,p,n,ts,i,rfl,N,hi,?_⟩;obtain⟨bs,b,r1,r2,r3,_⟩:=R.row hi;exact⟨_,rfl,p,C,dx,_,_,rfl,h1,T.cl,T.nO,Fe _ _ _ _,_,rfl,ol,_,_,_,rfl,rfl,a8.of r1,aD r2,b,_,rfl,.inl (a8.of r3),fun l hl=>k2 l _ (aj hl) hl ae⟩
theorem Wu:aN ["self","one","other"] ["self","one","other"] (aw Rx):=dW (by decide +kernel)
def oJ(C:Addr):Sp:=fun vs H Q _=>∃ (L:iQ) (p:Addr) (n:Nat) (ts:Ts) (i j:Nat),vs=[.ref p,.int i,.int j]/\dE C H L p n ts/\i<n/\j<n/\Q (.int (far ts i j:Nat)) H
theorem Np(F:iI K "far" "Net.far" Rx f fd)(T:NT K mg C)(M:jX P w K mg base bo 4 C "check_house" ["self","thing"] (pX C)):
  bU P w K mg base bo 5 f fd ["self","one","other"] (oJ C):=by
 obtain⟨fM,fdM,mM,bM,GM⟩:=M.ex;refine F.ok Wu (fun vs H Q E h=>?_) (fun fX A outer s H vs Q E hr h=>?_)
 .obtain⟨L,p,n,ts,i,j,rfl,_⟩:=h;rfl
 .obtain⟨L,p,n,ts,i,j,rfl,N,hi,hj,k⟩:=h;obtain⟨dx,tl,ol,ds,h1,_,_,_,R,_⟩:=N.ob;refine⟨_,ak (cG (eZ (pv 0) T.cl mM GM hr bM .nil aM (aa (pv 1) ag)))
   (ak (cG (eZ (pv 0) T.cl mM GM hr bM .nil aM (aa (pv 2) ag)))
   (av (bh (aX aG (aX aG (k9 (pv 0) rfl) (pv 1) (fun _ _=>rfl)) (pv 2) (fun _ _=>rfl))))),?_⟩
  refine⟨_,rfl,p,dx,_,rfl,h1,Ry _ _ _ _,_,rfl,L,p,n,ts,i,rfl,N,hi,?_⟩;refine⟨_,rfl,p,dx,_,rfl,h1,Ry _ _ _ _,_,rfl,L,p,n,ts,j,rfl,N,hj,?_⟩;obtain⟨bs,b,r1,r2,r3,_⟩:=R.row hi;have hg:(NV ((List.range n).map (far ts i)))[j]?=some (.int (far ts i j:Nat)):=by
   rw[cA,cA,f_ hj];rfl
  exact⟨_,rfl,p,C,dx,_,_,rfl,h1,T.cl,T.nD,Ff _ _ _ _,_,rfl,ds,_,_,_,rfl,rfl,a8.of r1,aD r2,_,rfl,b,_,_,_,rfl,rfl,a8.of r3,aD hg,k⟩
abbrev DA:Stmt:=top 32
abbrev RB:Stmt:=top 33
abbrev RC:Stmt:=top 34
abbrev RD:Stmt:=top 10
theorem Wv:aN ["many","one","other"] ["many","one","other"] (aw RD):=dW (by decide +kernel)
def Ku:Sp:=fun vs H Q _=>∃ (n a b:Int),vs=[.int n,.int a,.int b]/\0<=a/\a<n/\0<=b/\b<n/\a≠b/\Q (.bl true) H
theorem RE(F:iI K "are_unlike_houses" "are_unlike_houses" RD f fd)(HH:d9 P w K mg base bo 3 "is_house" ["many","thing"] (tZ K)):
  bU P w K mg base bo 4 f fd ["many","one","other"] Ku:=by
 refine F.ok Wv (fun vs H Q E h=>?_) (fun fX A outer s H vs Q E hr h=>?_)
 .obtain⟨n,a,b,rfl,_⟩:=h;rfl
 .obtain⟨n,a,b,rfl,a1,a2,b1,b2,qh,k⟩:=h;refine⟨_,av (bh (l6 (aH HH hr aM (aa (pv 0) (aa (pv 1) ag))) (l6 (aH HH hr aM (aa (pv 0) (aa (pv 2) ag))) (qT (pq zU (pv 1) (pv 2) (bp _)))))),?_⟩;refine⟨_,rfl,_,rfl,_,_,n,rfl,.int a,_,rfl,?_⟩;rw[ap (show jW (some a) 0 (n-1)=true by unfold jW;simp;lia)];refine⟨_,rfl,_,rfl,_,_,n,rfl,.int b,_,rfl,?_⟩;rw[ap (show jW (some b) 0 (n-1)=true by unfold jW;simp;lia)];refine⟨_,rfl,_,rfl,rfl,?_⟩;have e:(!decide (V.int a=V.int b))=true:=by simp[qh]
  rw[e];exact k
theorem Ww:aN ["many","thing"] ["many","thing"] (aw RB):=dW (by decide +kernel)
def Kv:Sp:=fun vs H Q _=>∃ (n:Int) (p:Addr) (a b:Int),vs=[.int n,.ref p]/\H p=some (.tup [.int a,.int b])/\0<=a/\a<n/\0<=b/\b<n/\a≠b/\Q (.bl true) H
theorem RH(F:iI K "is_tie" "is_tie" RB f fd)(R:d9 P w K mg base bo 1 "is_row" ["thing","length"] (Kq K))(U:d9 P w K mg base bo 4 "are_unlike_houses" ["many","one","other"] Ku):
  bU P w K mg base bo 5 f fd ["many","thing"] Kv:=by
 refine F.ok Ww (fun vs H Q E h=>?_) (fun fX A outer s H vs Q E hr h=>?_)
 .obtain⟨n,p,a,b,rfl,_⟩:=h;rfl
 .obtain⟨n,p,a,b,rfl,hp,a1,a2,b1,b2,qh,k⟩:=h;refine⟨_,av (bh (l6 (aH R (hr.mono (by decide)) aM (aa (pv 1) (aa az ag)))
   (qT (aH U hr aM (aa (pv 0) (aa (aX eN (pv 1) az (fun _ _=>rfl)) (aa (aX eN (pv 1) az (fun _ _=>rfl)) ag))))))),?_⟩
  refine⟨_,rfl,_,_,_,rfl,.tup hp,true,rfl,?_⟩;exact⟨_,rfl,_,rfl,p,_,_,_,rfl,rfl,cu.of hp,aD (j:=0) rfl,_,rfl,p,_,_,_,rfl,rfl,cu.of hp,aD (j:=1) rfl,n,a,b,rfl,a1,a2,b1,b2,qh,k⟩
theorem Fg:aN ["many","ties","tie"] ["many","ties"] (aw DA):=dW (by decide +kernel)
theorem Kw:W.kitOne K (.type "list") (.type "list")=some true:=by kernel_rfl
structure iJ(H:Hp)(l:Addr)(n:Nat)(zs:Zs):Prop where
 lE:cJ n (zp zs)
 at_:H l=some (.lst (zr zs))
 po:PO H zs
theorem iJ.same(h:iJ H l n zs)(s:aI H H'):iJ H' l n zs:=⟨h.lE,s _ _ h.at_,h.po.same s⟩
def mT:Sp:=fun vs H Q _=>∃ (n:Nat) (l:Addr) (zs:Zs),vs=[.int n,.ref l]/\iJ H l n zs/\∀H',aI H H'->Q .cI H'
theorem Kx(F:iI K "check_ties" "check_ties" DA f fd)(B:Bl mg)(gF:∃t,mg "FEWEST_HOUSES"=some (.int 2 t))(gM:∃t,mg "MOST_HOUSES"=some (.int 32 t))(W:d9 P w K mg base bo 2 "is_whole_within" ["thing","least","most"] (pW K))(T:d9 P w K mg base bo 5 "is_tie" ["many","thing"] Kv):
  bU P w K mg base bo 6 f fd ["many","ties"] mT:=by
 obtain⟨tF,gF⟩:=gF;obtain⟨tM,gM⟩:=gM;refine F.ok Fg (fun vs H Q E h=>?_) (fun fX A outer s H vs Q E hr h=>?_)
 .obtain⟨n,l,zs,rfl,_⟩:=h;rfl
 .refine⟨_,ak (dS (oq (jR (aH W (hr.mono (by decide)) aM (aa (pv 0) (aa (tI (v:=.int 2) rfl gF ⟨_,rfl⟩) (aa (tI (v:=.int 32) rfl gM ⟨_,rfl⟩) ag)))))) ff b8)
   (ak (dS (oq (jR (aJ jg (by rfl) B.PL rM (aa (pv 1) (aa (k4 (v:=.ty "list") rfl B.lst qp rfl) ag))))) ff b8)
   (ak (du eI rfl (bN (pv 1)) (aA (i:=2) Fg.nd rfl aL) (av (dS (oq (jR (aH T hr aM (aa (pv 0) (aa (pv 2) ag))))) ff b8)))
   (av (dS (aY zU (aJ Al (by rfl) B.len fc (aa (cU (GB rfl (by have:=hr.un;show (A.deeper _).units+8<_;lia)) (by rfl) B.set PyProof.Rows.boot_set (aa (pv 1) ag)) ag)) (aJ aV (by rfl) B.len fc (aa (pv 1) ag)) (bp _)) ff b8)))),?_⟩
  obtain⟨n,l,zs,rfl,tt,k⟩:=h;obtain⟨fi,hl,po⟩:=id tt;have n1:=fi.n1;have n2:=fi.n2;refine⟨_,rfl,_,_,2,32,rfl,.int n,_,rfl,?_⟩;rw[show jW (some (n:Int)) 2 32=true by unfold jW;simp;lia];refine jT ?_;refine⟨_,rfl,_,_,_,.type "list",true,rfl,⟨rfl,Kw⟩,.of (.lst hl),_,rfl,jT ?_⟩;refine⟨_,rfl,l,rfl,⟨_,a8.of hl⟩,eM (K:=K) (a:=l) (xs:=zr zs) (fun i σ H2=>H2=H/\∃v,σ=[some (.int n),some (.ref l),v]) ⟨rfl,none,rfl⟩ (fun i σ H2 _ ⟨e,_⟩=>by rw[e];exact a8.of hl) ?_ ?_⟩
  .rintro i x σ H2 hx ⟨rfl,v,rfl⟩;obtain⟨z,hz,rfl⟩:=vy hx;have PP:z∈zs:=dz hz;have hzp:z.2∈zp zs:=bB.mpr ⟨z,PP,rfl⟩;have r:=fi.rg _ hzp;exact⟨_,rfl,_,rfl,n,_,_,_,rfl,po z PP,r.1.1,r.1.2,r.2.1,r.2.2,fi.ne _ hzp,_,rfl,jT ⟨rfl,_,rfl⟩⟩
  .rintro σ H2 ⟨rfl,v,rfl⟩;have e8:(zp zs).length<=256:=fi.len;refine⟨_,rfl,l,zs.map (·.1),zp zs,rfl,a8.of (by rw[<-iY];exact hl),by rw[aT,b_],fun i hi=>?_,fi.nd,fun y hy=>?_,by lia,fun D hD=>?_⟩
   .rw[b_] at hi;rw[AO hi,Fc hi];exact cu.of (po _ (ie hi))
   .have r:=fi.rg _ hy;lia
   .have nl:l≠D:=am hl hD;refine⟨D,_,rfl,ae,by lia,_,rfl,l,zr zs,rfl,.inl (a8.of (by rw[aq nl];exact hl)),rfl,_,rfl,?_⟩;have ez:(!decide (V.int (((zp zs).length:Nat):Int)=V.int (((zr zs).length:Nat):Int)))=false:=by rw[b_,dZ];simp
    rw[ez];exact jT (k _ (aj hD))
abbrev AR:Stmt:=top 35
theorem rD(S:rQ)(p q:Int×Int->Int)(h:Int)(hD:H D=none)(hl:H l=some (.lst (zr zs)))(po:PO H zs)(hn:zs.length<=1000)(s0:S σB)(hg:∀z σ H2 (Kt:j_) (Kf:iu),z∈zs->S σ->H2 z.1=some (oY z.2)->(∀σ2,S σ2->p z.2=h->Kt (.int (q z.2)) σ2 H2)->(∀σ2,S σ2->p z.2≠h->Kf σ2 H2)->
   g (.ref z.1) σ H2 fun σ2 H2=>tt σ2 H2 fun b H3=>if b=true then te σ2 H3 fun v H4=>Kt v σ2 H4 else Kf σ2 H3)(hd:d_ (upd H D (.lst (IV (((zp zs).filter fun y=>decide (p y=h)).map q))))):iy (I0 K l) g tt te D d_ σB (upd H D (.lst [])):=by
 have nl:l≠D:=am hl hD;have tk:∀ {i:Nat} {z:Addr×(Int×Int)},zs[i]?=some z->(zp zs).take (i+1)=(zp zs).take i++[z.2]:=fun {i z} hz=>by
  rw[gW,show (zp zs)[i]?=some z.2 by unfold zp;rw[cA,hz];rfl];rfl
 refine fZ (xs:=zr zs) (fun i ys σ H2=>S σ/\ys=IV ((((zp zs).take i).filter fun y=>decide (p y=h)).map q)/\H2=upd H D (.lst ys)) ⟨s0,by simp,rfl⟩ (fun i ys σ H2 _ ⟨_,_,e⟩=>by rw[e];exact a8.of (by rw[aq nl];exact hl)) ?_ ?_
 .rintro i x ys σ H2 Kt Kf hx ⟨hS,ey,rfl⟩ kt kf;obtain⟨z,hz,rfl⟩:=vy hx;have PP:z∈zs:=dz hz;have hp:=po z PP;have na:z.1≠D:=am hp hD;have hi:i<zs.length:=(eR.mp hz).1;refine hg z σ _ Kt Kf PP hS (by rw[aq na];exact hp) (fun σ2 s2 e=>?_) (fun σ2 s2 e=>?_)
  .refine kt _ _ _ ae ?_ ⟨s2,?_,?_⟩
   .rw[ey,aT,aT];exact eK (iL _ _) (eK (xy _ _) (bv (show i<1000 by lia) (by decide)))
   .rw[ey,tk hz,ic,dt];have:decide (p z.2=h)=true:=by simp[e]
    simp[eU,this]
   .rw[mN]
  .refine kf _ _ ⟨s2,?_,rfl⟩;have:decide (p z.2=h)=false:=by simp[e]
   rw[ey,tk hz,ic];simp[eU,this]
 .rintro ys σ H2 ⟨_,ey,rfl⟩;rw[dZ,<-b_,ja] at ey;rw[ey];exact hd
theorem Uw:(["one","other","house"]:bQ).Nodup:=by decide +kernel
theorem Fh:aN ["many","ties","house","leading_out","leading_in"] ["many","ties"] (aw RC):=dW (by decide +kernel)
theorem RI(F:iI K "check_balance" "check_balance" RC f fd)(B:Bl mg)(gM:∃t,mg "MOST_TIES_OUT"=some (.int 8 t)):
  bU P w K mg base bo 1 f fd ["many","ties"] mT:=by
 obtain⟨tM,gM⟩:=gM;refine F.ok Fh (fun vs H Q E h=>?_) (fun fX A outer s H vs Q E hr h=>?_)
 .obtain⟨n,l,zs,rfl,_⟩:=h;rfl
 .obtain⟨n,l,zs,rfl,T,k⟩:=h;have fi:=T.lE;have n1:=fi.n1;have n2:=fi.n2;have e8:zs.length<=256:=by have:=fi.len;rw[b_] at this;exact this
  refine'⟨_,av (du eI rfl (b9 rfl B.range (aa (pv 0) ag)) (aA (i:=2) Fh.nd rfl cW)
   (ak (aW (i:=3) Fh.nd rfl aL (aJ aV (by rfl) B.len fc (aa ?c1 ag)))
   (ak (aW (i:=4) Fh.nd rfl aL (aJ aV (by rfl) B.len fc (aa ?c2 ag)))
   (ak (dS (aY zU (pv 3) (pv 4) (bp _)) ff b8)
   (av (dS (aY Pa (pv 3) (tI (v:=.int 8) rfl gM ⟨_,rfl⟩) (bp _)) ff b8)))))),?_⟩
  case c1=>
   refine' cQ (g:=uS K 2 (gn (bH 0) (gn (bH 1) uR))) (NB:=["one","other","house"]) (src:=[none,none,some 2]) (bz (by kernel_rfl)) rfl (bN (pv 1)) ?g ?t ?e;case g=>exact fun cl C s₃ H₃ fp=>dX (n:=2) rfl (aE (aA (i:=0) Uw rfl aL cW) (aE (aA (i:=1) Uw rfl aL cW) cM))
   case t=>exact fun cl C s₃ H₃ fp=>g8 (aY iR (pv 0) (pv 2) (bp _))
   case e=>exact fun cl C s₃ H₃ fp=>pv 0
  case c2=>
   refine' cQ (g:=uS K 2 (gn (bH 0) (gn (bH 1) uR))) (NB:=["one","other","house"]) (src:=[none,none,some 2]) (bz (by kernel_rfl)) rfl (bN (pv 1)) ?g ?t ?e;case g=>exact fun cl C s₃ H₃ fp=>dX (n:=2) rfl (aE (aA (i:=0) Uw rfl aL cW) (aE (aA (i:=1) Uw rfl aL cW) cM))
   case t=>exact fun cl C s₃ H₃ fp=>g8 (aY iR (pv 1) (pv 2) (bp _))
   case e=>exact fun cl C s₃ H₃ fp=>pv 1
  refine⟨_,rfl,n,rfl,by lia,by lia,eh (n:=n) (lo:=0) (fun i σ H2=>aI H H2/\∃a b c,σ=[some (.int n),some (.ref l),a,b,c]) ⟨aI.refl _,none,none,none,rfl⟩ ?_ ?_⟩
  .rintro i σ H2 hi ⟨sm,a,b,c,rfl⟩;have T2:=T.same sm;refine⟨_,rfl,l,rfl,⟨_,a8.of T2.at_⟩,fun D hD=>rD (fun σ=>∃a b,σ=[a,b,some (.int (0+(i:Int)))]) (·.1) (·.1) (0+(i:Int)) hD T2.at_ T2.po (by lia) ⟨_,_,rfl⟩ ?_ ?_⟩
   .rintro z σ H3 Kt Kf hj ⟨x,y,rfl⟩ ha kt kf;refine⟨z.1,_,rfl,cu.of ha,rfl,_,_,rfl,_,_,rfl,rfl,?_⟩;refine⟨_,rfl,_,rfl,rfl,_,rfl,?_⟩;refine gU (fun e=>?_) (fun e=>?_)
    .exact⟨_,rfl,kt _ ⟨_,_,rfl⟩ (by simpa using e)⟩
    .exact kf _ ⟨_,_,rfl⟩ (by simpa using e)
   .refine⟨D,_,rfl,.inl (a8.of ae),?_⟩;have PJ:=bj (o:=.lst (IV (((zp zs).filter fun y=>decide (y.1=0+(i:Int))).map (·.1)))) (sm.trans (aI.refl _)) (H:=H) (by cases z:H D with|none=>rfl|some o=>rw[sm _ _ z] at hD;cases hD);have T3:=T.same PJ;refine⟨_,rfl,l,rfl,⟨_,a8.of T3.at_⟩,fun D' hD'=>rD (fun σ=>∃a b,σ=[a,b,some (.int (0+(i:Int)))]) (·.2) (·.2) (0+(i:Int)) hD' T3.at_ T3.po (by lia) ⟨_,_,rfl⟩ ?_ ?_⟩
    .rintro z σ H3 Kt Kf hj ⟨x,y,rfl⟩ ha kt kf;refine⟨z.1,_,rfl,cu.of ha,rfl,_,_,rfl,_,_,rfl,rfl,?_⟩;refine⟨_,rfl,_,rfl,rfl,_,rfl,?_⟩;refine gU (fun e=>?_) (fun e=>?_)
     .exact⟨_,rfl,kt _ ⟨_,_,rfl⟩ (by simpa using e)⟩
     .exact kf _ ⟨_,_,rfl⟩ (by simpa using e)
    .refine⟨D',_,rfl,.inl (a8.of ae),?_⟩;rw[iG] at *;have q1:(IV (((zp zs).filter fun y=>decide (y.1=(i:Int))).map (·.1))).length=(IV (((zp zs).filter fun y=>decide (y.2=(i:Int))).map (·.2))).length:=by
      rw[aT,aT,aT,aT];exact fi.G9 i
     have q2:(IV (((zp zs).filter fun y=>decide (y.1=(i:Int))).map (·.1))).length<=8:=by
      rw[aT,aT];exact fi.most i
     refine⟨_,rfl,_,rfl,rfl,_,rfl,?_⟩;rw[<-q1];rw[show (!decide (V.int (((IV (((zp zs).filter fun y=>decide (y.1=(i:Int))).map (·.1))).length:Nat):Int)=V.int (((IV (((zp zs).filter fun y=>decide (y.1=(i:Int))).map (·.1))).length:Nat):Int)))=false by simp];refine jT ?_;refine⟨_,rfl,_,_,rfl,rfl,_,rfl,?_⟩;rw[show decide ((((IV (((zp zs).filter fun y=>decide (y.1=(i:Int))).map (·.1))).length:Nat):Int) > 8)=false by rw[BG];lia];exact jT ⟨PJ.trans (aj hD'),_,_,_,rfl⟩
  .rintro σ H2 ⟨sm,a,b,c,rfl⟩;exact k H2 sm
def Nq:Expr:=match (cP AR).getD 1 (.Pass ⟨0,0,0,0⟩) with
 |.Return (some (.Call _ _ (k::_) _)) _=>k.value
 |_=>.Name "x" ⟨0,0,0,0⟩
def Nr:Arguments:=match Nq with
 |.Lambda a _ _ _=>a
 |_=>{ posonlyargs:=[],args:=[],vararg:=none,kwonlyargs:=[],kw_defaults:=[],kwarg:=none,defaults:=[] }
def Nt:Expr:=match Nq with
 |.Lambda _ b _ _=>b
 |e=>e
def Wx:Scope:=match Nq with
 |.Lambda _ _ s _=>s
 |_=>{ kind:=.function,names:=[],isGenerator:=false,isCoroutine:=false }
def RJ:Pos:=match Nq with
 |.Lambda _ _ _ p=>p
 |_=>⟨0,0,0,0⟩
def PQ:Str:=("houses_out":Str)++".<locals>."++"<lambda>"
abbrev m9(Pt:Addr)(H:Hp):Prop:=dU RJ PQ Pt H
def mq(Pt:Addr)(H H':Hp):Prop:=∀b o,H b=some o->b≠Pt->H' b=some o
theorem mq.of(a:aI H H'):mq Pt H H':=fun c o h _=>a c o h
theorem m9.not(t:m9 Pt H)(h:H b=some o)(n:∀ps,o≠.jp ps):b≠Pt:=by
 rintro rfl;rcases t with z|⟨c,z,_⟩ <;> · rw[h] at z;exact n _ (cB z)
theorem m9.same(t:m9 Pt H)(e:aI H H'):m9 Pt H':=by
 rcases t with z|⟨c,z,y⟩
 .exact .inl (e _ _ z)
 .exact .inr ⟨c,e _ _ z,e _ _ y⟩
theorem Nv{n a b h:Int}(hn:0<n)(a0:0<=a)(a1:a<n)(b0:0<=b)(b1:b<n)(e:(a-h) % n=(b-h) % n):a=b:=by
 have h1:=Int.emod_emod_of_dvd (a-h) (Int.dvd_refl n);have q:(a-b) % n=0:=by
  have:a-b=(a-h)-(b-h):=by lia
  rw[this,Int.sub_emod,e,Int.sub_self,Int.zero_emod]
 obtain⟨c,hc⟩:=Int.dvd_of_emod_eq_zero q;have c0:c=0:=by
  rcases Int.lt_trichotomy c 0 with z|z|z
  .have:n*c<=n*(-1):=Ix (by lia) (by lia);lia
  .exact z
  .have:n*1<=n*c:=Ix (by lia) (by lia);lia
 rw[c0] at hc;lia
theorem wc{ts:Ts}{h:Int}(nd:ts.Nodup):((ts.filter fun y=>decide (y.1=h)).map (·.2)).Nodup:=by
 refine L2.re (nd.filter _) fun x hx y hy e=>?_;have a:=(gb.mp hx).2;have b:=(gb.mp hy).2;simp at a b;exact iH (a.trans b.symm) e
theorem Hv{n:Nat}{ts:Ts}{h:Nat}(F:cJ n ts)(hh:h<n){out:dG}(ko:Q3 (h:Int) (n:Int) ((ts.filter fun y=>decide (y.1=(h:Int))).map (·.2)) out):out.map V.int=NV (bX n ts h):=by
 obtain⟨ps,hp,rfl,hs⟩:=ko;have Ap:(ps.map (·.2)).Perm ((ts.filter fun y=>decide (y.1=(h:Int))).map (·.2)):=by
  have:=hp.map (·.2);rw[dQ] at this;refine this.trans (lS ?_);conv=>rhs;rw[<-kY ((ts.filter fun y=>decide (y.1=(h:Int))).map (·.2))]
  rfl
 have mem:∀z,z∈ps.map (·.2)↔((h:Int),z)∈ts:=fun z=>by
  rw[Ap.mem_iff,bB];constructor
  .rintro⟨y,hy,rfl⟩;obtain⟨y1,y2⟩:=gb.mp hy;have:y.1=(h:Int):=by simpa using y2
   rw[<-this];exact y1
  .intro hz;exact⟨_,gb.mpr ⟨hz,by simp⟩,rfl⟩
 have nd:(ps.map (·.2)).Nodup:=Ap.nodup_iff.mpr (wc F.nd);have key:∀q∈ps,q.1=(q.2-(h:Int)) % (n:Int):=fun q hq=>by
  obtain⟨z,_,e⟩:=bB.mp (hp.mem_iff.mp hq);rw[<-e]
 have hn:(0:Int)<n:=by have:=F.n1;lia
 have sorted:(ps.map (·.2)).Pairwise fun x y=>(x-(h:Int)) % (n:Int)<(y-(h:Int)) % (n:Int):=by
  refine gk.mpr ?_;have nd2:=gk.mp nd;refine(hs.and nd2).imp_of_mem fun {x y} hx hy wT=>?_;have l1:=wT.1;rw[key x hx,key y hy] at l1;have ax:=F.rg _ ((mem x.2).mp (bB.mpr ⟨x,hx,rfl⟩));have ay:=F.rg _ ((mem y.2).mp (bB.mpr ⟨y,hy,rfl⟩));have ne:(x.2-(h:Int)) % (n:Int)≠(y.2-(h:Int)) % (n:Int):=fun z=>wT.2 (Nv hn ax.2.1 ax.2.2 ay.2.1 ay.2.2 z);lia
 have e:ps.map (·.2)=(bX n ts h).map fun (o:Nat)=>(o:Int):=by
  refine rZ (k:=fun z=>(z-(h:Int)) % (n:Int)) sorted ?_ fun z=>?_
  .refine gk.mpr ?_;exact rY hh
  .rw[mem,bB];constructor
   .intro hz;have r:=F.rg _ hz;refine⟨z.toNat,(ji F hh).mpr ?_,by lia⟩;show (((h:Nat):Int),((z.toNat:Nat):Int))∈ts;rw[show ((z.toNat:Nat):Int)=z by lia];exact hz
   .rintro⟨o,ho,rfl⟩;exact(ji F hh).mp ho
 rw[e,dQ];rfl
theorem Ky:aN ["many","ties","house","others"] ["many","ties","house"] (aw AR):=dW (by decide +kernel)
def yE(Pt:Addr):Sp:=fun vs H Q _=>∃ (n:Nat) (l:Addr) (h:Nat) (zs:Zs),vs=[.int n,.ref l,.int h]/\h<n/\iJ H l n zs/\m9 Pt H/\
 ∀ (r:Addr) (H':Hp),m9 Pt H'->mq Pt H H'->H r=none->H' r=some (.lst (NV (bX n (zp zs) h)))->Q (.ref r) H'
theorem Ny(F:sU K "houses_out" "houses_out" AR f fd c)(B:Bl mg)(kb:K.In base)(hb:rf mg base)(hc:W.codeHdIn K c Pt=true):
  bU P w K mg base bo 1 f fd ["many","ties","house"] (yE Pt):=by
 refine F.ok Ky (fun vs H Q E h=>?_) (fun A outer s H vs Q E hr h=>?_)
 .obtain⟨n,l,h,zs,rfl,_⟩:=h;rfl
 .obtain⟨n,l,h,zs,rfl,hh,T,tb,k⟩:=h;have fi:=T.lE;have n1:=fi.n1;have e8:zs.length<=256:=by have:=fi.len;rw[b_] at this;exact this
  have LS:VT (l9 bo P w K mg base ["many","ties","house","others"] "houses_out" (aw AR) f (.ref c) A outer s H E).Bj PQ Nr Nt Wx "other" "house" "many" 2 0:=
   ⟨⟨_,_,_,_,_,rfl⟩,fun _ _ _ _ _=>rfl,rfl,rfl,rfl,rfl,rfl,rfl,rfl,by decide +kernel,by decide +kernel,by decide +kernel,rfl,rfl,rfl,by decide,⟨by decide,by decide⟩,⟨by decide,by decide⟩⟩
  refine'⟨_,ak (fE (i:=3) (g:=uS K 2 (gn (bH 0) (gn (bH 1) uR))) (NB:=["one","other","house"]) (src:=[none,none,some 2]) (bz (by kernel_rfl)) rfl (bN (pv 1)) ?g ?t ?e Ky.nd rfl rfl rfl)
   (av (bh (kr (C7 LS hr) rfl B.sorted nK (aa (pv 3) ag) (pB (vd (NB:=["other","house","many"]) (src:=[none,some 2,some 0]) (pK kb hb hc) (bz (by kernel_rfl))) uW)))),?_⟩
  case g=>exact fun cl C s₃ H₃ fp=>dX (n:=2) rfl (aE (aA (i:=0) Uw rfl aL cW) (aE (aA (i:=1) Uw rfl aL cW) cM))
  case t=>exact fun cl C s₃ H₃ fp=>g8 (aY iR (pv 0) (pv 2) (bp _))
  case e=>exact fun cl C s₃ H₃ fp=>pv 1
  refine⟨_,rfl,l,rfl,⟨_,a8.of T.at_⟩,fun D hD=>rD (fun σ=>∃a b,σ=[a,b,some (.int (h:Int))]) (·.1) (·.2) (h:Int) hD T.at_ T.po (by lia) ⟨_,_,rfl⟩ ?_ ?_⟩
  .rintro z σ H3 Kt Kf hj ⟨x,y,rfl⟩ ha kt kf;refine⟨z.1,_,rfl,cu.of ha,rfl,_,_,rfl,_,_,rfl,rfl,?_⟩;refine⟨_,rfl,_,rfl,rfl,_,rfl,?_⟩;refine gU (fun e=>?_) (fun e=>?_)
   .exact⟨_,rfl,kt _ ⟨_,_,rfl⟩ (by simpa using e)⟩
   .exact kf _ ⟨_,_,rfl⟩ (by simpa using e)
  .generalize L3:((zp zs).filter fun y=>decide (y.1=(h:Int))).map (·.2)=os;have Ik:os.length<=8:=by rw[<-L3,aT];exact fi.most h
   have sm:aI H (upd H D (.lst (IV os))):=aj hD;refine⟨_,rfl,tb.same sm,fun f' c' H2 t2' iA zI Ae=>?_⟩;have t2:m9 Pt H2:=t2';have jz:H2 D=some (.lst (IV os)):=iA _ _ ae ((tb.same sm).not ae nofun);refine⟨D,f',c',os,h,n,rfl,rfl,a8.of jz,(by lia),Ae,zI,rfl,rfl,by lia,fun r out CY ko=>?_⟩;rw[<-L3] at ko;rw[Hv fi hh ko];have PJ:aI H2 (upd H2 r (.lst (NV (bX n (zp zs) h)))):=aj CY;refine k r _ (t2.same PJ) (fun b o e hb=>PJ _ _ (iA b o (sm _ _ e) hb)) ?_ ae;cases z:H r with
   |none=>rfl
   |some o=>
    by_cases hP:r=Pt
    .rcases t2 with q|⟨_,q,_⟩ <;> · rw[<-hP,CY] at q;cases q
    .rw[iA r o (sm _ _ z) hP] at CY;cases CY
abbrev Kz:Stmt:=top 36
abbrev DB:Stmt:=top 37
def iB(n:Nat)(R:aQ)(f:ub):List V:=(List.range n).map fun x=>if x∈R then V.int ((f x:Nat):Int) else .cI
theorem kG:(iB n R f).length=n:=by unfold iB;rw[aT,dk]
theorem jk(h:x<n):(iB n R f)[x]?=some (if x∈R then V.int ((f x:Nat):Int) else .cI):=by
 unfold iB;rw[cA,f_ h];rfl
theorem vA(hs:s<n):(List.replicate n V.cI).set s (V.int 0)=iB n [s] (fun _=>0):=by
 apply lL;intro x;by_cases hx:x<n
 .rw[jk hx];by_cases e:x=s
  .subst e;rw[qu (by rw[i_];exact hx),ap (by simp)];rfl
  .rw[qv (fun z=>e z.symm),ud,ap hx,ao (by simp[e])]
 .rw[f9 (by rw[jb,i_];lia),f9 (by rw[kG];lia)]
theorem AS(hv:v<n):(iB n R f).set v (V.int ((k:Nat):Int))=iB n (R++[v]) (put f v k):=by
 apply lL;intro x;by_cases hx:x<n
 .rw[jk hx];by_cases e:x=v
  .subst e;rw[qu (by rw[kG];exact hx),ap (by simp),kB]
  .rw[qv (fun z=>e z.symm),jk hx,hW e];by_cases h:x∈R
   .rw[ap h,ap (gC _ h)]
   .rw[ao h,ao (fun z=>(cL.mp z).elim h fun z=>e (by simpa using z))]
 .rw[f9 (by rw[jb,kG];lia),f9 (by rw[kG];lia)]
def Wy(σ:St):Nat:=match σ[4]? with
 |some (some (V.int z))=>z.toNat
 |_=>0
theorem nbO:(["others"]:bQ).Nodup:=by decide +kernel
def vB(H:Hp)(ol:Addr)(n:Nat)(ts:Ts):Prop:=∃bs:List Addr,H ol=some (.lst (bs.map V.ref))/\Holds H bs n (fun h=>.lst (NV (bX n ts h)))
theorem vB.same(x:vB H ol n ts)(e:aI H H'):vB H' ol n ts:=let ⟨bs,a,b⟩:=x;⟨bs,e _ _ a,b.mono fun _ _ z=>e _ _ z⟩
theorem PU{as:bR}{i:Nat}{x:V}(h:(as.map V.ref)[i]?=some x):i<as.length/\x=.ref (as.getD i 0):=by
 rw[cA] at h;cases e:as[i]? with
 |none=>rw[e] at h;cases h
 |some a=>
  rw[e] at h;refine⟨(eR.mp e).1,?_⟩;rw[cw,e];exact(cB h).symm
theorem oM:aN ["out_lists","start","distances","reached","at","house","other"] ["out_lists","start"] (aw Kz):=dW (by decide +kernel)
def yF:Sp:=fun vs H Q _=>∃ (ol:Addr) (n s:Nat) (ts:Ts),vs=[.ref ol,.int s]/\cJ n ts/\s<n/\vB H ol n ts/\
 ∀ (r:Addr) (H':Hp),aI H H'->H r=none->H' r=some (.lst (NV ((List.range n).map (far ts s))))->Q (.ref r) H'
theorem Nz{f:Addr}{fd:eA}(F:iI K "distances_from" "distances_from" Kz f fd)(B:Bl mg):bU P w K mg base bo 1 f fd ["out_lists","start"] yF:=by
 refine F.ok oM (fun vs H Q E h=>?_) (fun fX A outer s H vs Q E hr h=>?_)
 .obtain⟨ol,n,s,ts,rfl,_⟩:=h;rfl
 .obtain⟨ol,n,st,ts,rfl,fi,hs,O,k⟩:=h;have n1:=fi.n1;have n2:=fi.n2;refine'⟨_,ak (fE (i:=2) (g:=bH 0) (NB:=["others"]) (src:=[none]) (bz (by kernel_rfl)) rfl (bN (pv 0)) ?g ?t ?e oM.nd rfl rfl rfl)
   (ak (d8 az (gx (pv 2) (pv 1) dY))
   (ak (aW (i:=3) oM.nd rfl aL (cH (aa (pv 1) ag)))
   (ak (aW (i:=4) oM.nd rfl aL az)
   (ak (zM eI (aY nw (pv 4) (aJ aV (by rfl) B.len fc (aa (pv 3) ag)) (bp _))
    (ak (aW (i:=5) oM.nd rfl aL (aX aG (pv 3) (pv 4) (fun _ _=>rfl)))
    (ak (du eI rfl (bN (aX aG (pv 0) (pv 5) (fun _ _=>rfl))) (aA (i:=6) oM.nd rfl aL)
     (av (dS (aY Cy (aX aG (pv 2) (pv 6) (fun _ _=>rfl)) ij (bp _))
      (ak (d8 (a9 dM (aX aG (pv 2) (pv 5) (fun _ _=>rfl)) az) (gx (pv 2) (pv 6) dY))
      (av (cG (gQ gy i9 i8 cV (pv 3) (aa (pv 6) ag))))) b8)))
    (av (Qw (i:=4) oM.nd rfl aL az Qx)))))
   (av (bh (pv 2))))))),?_⟩
  case g=>exact fun cl C s₃ H₃ fp=>aA (i:=0) nbO rfl aL cW
  case t=>exact fun cl C s₃ H₃ fp=>dC
  case e=>exact fun cl C s₃ H₃ fp=>ij
  obtain⟨bs,Ik,PV,Pf⟩:=id O;refine⟨_,rfl,ol,rfl,⟨_,a8.of Ik⟩,fun D hD=>?_⟩;have nol:ol≠D:=am Ik hD;refine fZ (xs:=bs.map V.ref) (fun i ys σ H2=>(∃a,σ=[a])/\ys=List.replicate i V.cI/\H2=upd H D (.lst ys)) ⟨⟨_,rfl⟩,rfl,rfl⟩ (fun i ys σ H2 _ ⟨_,_,e⟩=>by rw[e];exact a8.of (by rw[aq nol];exact Ik)) ?_ ?_
  .rintro i x ys σ H2 Kt Kf hx ⟨⟨a,rfl⟩,rfl,rfl⟩ kt kf;have hi:=(PU hx).1;refine kt _ _ _ ae ?_ ⟨⟨_,rfl⟩,?_,by rw[mN]⟩
   .rw[i_];exact bv hi (by rw[PV];exact aZ n2 (by decide))
   .rw[uh]
  .rintro ys σ H2 ⟨_,rfl,rfl⟩;rw[aT,PV];refine⟨_,rfl,_,rfl,D,_,st,st,rfl,rfl,ae,by rw[i_];exact eJ hs,?_⟩;rw[mN,vA hs];refine⟨_,rfl,by show 1<=sizeLine;decide,fun R hR=>?_⟩;have Ip:D≠R:=am (H:=upd H D (.lst (iB n [st] (fun _=>0)))) ae hR;have NA:H R=none:=by rw[aq Ip.symm] at hR;exact hR
   refine zQ (fun σ H2=>∃ (i:Nat) (Rs:aQ) (f:ub),i<=Rs.length/\Br n ts st i Rs f/\(∃a b,σ=[some (.ref ol),some (.int st),some (.ref D),some (.ref R),some (.int (i:Int)),a,b])/\aI H H2/\H2 D=some (.lst (iB n Rs f))/\H2 R=some (.lst (NV Rs)))
    (fun σ _=>n-Wy σ) ⟨0,[st],fun _=>0,cp _,Br.start hs,⟨none,none,rfl⟩,bj (aj hD) NA,?_,ae⟩ ?_ ?_
   .rw[aq Ip,ae]
   .rintro σ H2 ⟨i,Rs,f,hi,Bf,⟨a,b,rfl⟩,sm,jz,wd⟩;have hRn:Rs.length<=n:=f8 Bf.nd Bf.lt;refine⟨_,rfl,_,rfl,R,_,rfl,.inl (a8.of wd),_,_,rfl,rfl,_,rfl,?_⟩;rw[be];by_cases wU:i<Rs.length
    .rw[show decide ((i:Int)<((Rs.length:Nat):Int))=true by simp;lia];refine vY ?_;have hu:Rs[i]?=some Rs[i]:=cz wU;generalize Rs[i]=u at hu;have AT:u<n:=Bf.lt u (dz hu);have huR:(NV Rs)[i]?=some (.int (u:Int)):=by rw[cA,hu];rfl
     refine⟨_,rfl,_,rfl,R,_,_,_,rfl,rfl,a8.of wd,aD huR,?_⟩;have hb1:(bs.map V.ref)[u]?=some (.ref (bs.getD u 0)):=by
      rw[cA,cw,cz (by rw[PV];exact AT)];rfl
     have hb2:=sm _ _ (Pf _ AT);refine⟨_,rfl,_,rfl,ol,_,_,_,rfl,rfl,a8.of (sm _ _ Ik),aD hb1,_,rfl,⟨_,a8.of hb2⟩,?_⟩;have nbD:bs.getD u 0≠D:=am (Pf _ AT) hD;have nbR:bs.getD u 0≠R:=am (Pf _ AT) NA;refine eM (K:=K) (xs:=NV (bX n ts u)) (fun j σ H3=>∃ (iZ:aQ) (f':ub),Br n ts st i iZ f'/\iZ[i]?=some u/\(∀v∈(bX n ts u).take j,v∈iZ/\f' v<=f' u+1)/\
      (∃b,σ=[some (.ref ol),some (.int st),some (.ref D),some (.ref R),some (.int (i:Int)),some (.int (u:Int)),b])/\aI H H3/\H3 D=some (.lst (iB n iZ f'))/\H3 R=some (.lst (NV iZ)))
      ⟨Rs,f,Bf,hu,fun v hv=>by simp at hv,⟨_,rfl⟩,sm,jz,wd⟩ (fun j σ H3 _ ⟨_,_,_,_,_,_,Hw,_⟩=>a8.of (Hw _ _ (Pf _ AT))) ?_ ?_
     .rintro j x σ H3 hx ⟨iZ,f',yG,sM,dn,⟨b',rfl⟩,Hw,pY,Bq⟩;rw[cA] at hx;cases hv:(bX n ts u)[j]? with
      |none=>rw[hv] at hx;cases hx
      |some v=>
       rw[hv] at hx;obtain rfl:V.int ((v:Nat):Int)=x:=cB hx;have RM:v∈bX n ts u:=dz hv;have KA:v<n:=tV fi AT RM;have tuv:T ts u v:=(ji fi AT).mp RM;have tk:(bX n ts u).take (j+1)=(bX n ts u).take j++[v]:=by rw[gW,hv];rfl
       have KB:u∈iZ:=dz sM;refine⟨_,rfl,_,rfl,D,_,_,_,rfl,rfl,a8.of pY,aD (jk KA),rfl,_,rfl,?_⟩;by_cases DC:v∈iZ
       .rw[ap DC];refine jT ⟨iZ,f',yG,sM,fun x hx=>?_,⟨_,rfl⟩,Hw,pY,Bq⟩;rw[tk] at hx;rcases cL.mp hx with z|z
        .exact dn x z
        .simp at z;subst z;exact⟨DC,yG.bd u sM _ DC⟩
       .rw[ao DC];refine vY ?_;have L_:(iB n iZ f')[u]?=some (.int ((f' u:Nat):Int)):=by rw[jk AT,ap KB]
        refine⟨_,rfl,_,rfl,D,_,_,_,rfl,rfl,a8.of pY,aD L_,_,_,rfl,rfl,_,rfl,_,rfl,D,_,_,_,rfl,rfl,pY,by rw[kG];exact eJ KA,?_⟩;have e1:(iB n iZ f').set v (.int (((f' u:Nat):Int)+1))=iB n (iZ++[v]) (put f' v (f' u+1)):=by
         rw[show ((f' u:Nat):Int)+1=((f' u+1:Nat):Int) by lia,AS KA]
        rw[e1];have tU:(upd H3 D (.lst (iB n (iZ++[v]) (put f' v (f' u+1))))) R=some (.lst (NV iZ)):=by rw[aq Ip.symm];exact Bq
        have KC:iZ.length<=n:=f8 yG.nd yG.lt;refine⟨_,rfl,.inl ⟨rfl,_,a8.of tU⟩,_,rfl,R,_,_,rfl,rfl,tU,by rw[be];exact bv (show iZ.length<33 by lia) (by decide),?_⟩;have vO:i<iZ.length:=(eR.mp sM).1;have nuv:u≠v:=fun z=>DC (z ▸ KB);refine⟨iZ++[v],put f' v (f' u+1),yG.add sM KA tuv DC,by rw[j4 vO];exact sM,fun x hx=>?_,⟨_,rfl⟩,bj (bj Hw hD) NA,?_,?_⟩
        .rw[hW nuv];rw[tk] at hx;rcases cL.mp hx with z|z
         .obtain⟨q1,q2⟩:=dn x z;exact⟨gC _ q1,by rw[hW (fun (z:x=v)=>DC (z ▸ q1))];exact q2⟩
         .simp at z;subst z;exact⟨by simp,by rw[kB];exact aP _⟩
        .rw[aq Ip,ae]
        .rw[ae];show _=some (HO.lst (NV (iZ++[v])));rw[show NV (iZ++[v])=NV iZ++[.int (v:Int)] by unfold NV;rw[dt];rfl]
     .rintro σ H3 ⟨iZ,f',yG,sM,dn,⟨b',rfl⟩,Hw,pY,Bq⟩;rw[be,ja] at dn;have vO:i<iZ.length:=(eR.mp sM).1;have KC:iZ.length<=n:=f8 yG.nd yG.lt;refine⟨_,rfl,_,_,rfl,rfl,⟨⟨i+1,iZ,f',vO,yG.next sM (fun v t=>dn v ((ji fi AT).mpr t)),⟨_,_,rfl⟩,Hw,pY,Bq⟩,?_⟩⟩;show n-((i:Int)+1).toNat<n-(i:Int).toNat;lia
    .rw[show decide ((i:Int)<((Rs.length:Nat):Int))=false by rw[BG];lia];have e:iB n Rs f=NV ((List.range n).map (far ts st)):=by
      unfold iB NV;rw[dQ];refine j6 fun x hx=>?_;obtain⟨q1,q2⟩:=Bf.done fi (by lia) (bY.mp hx);rw[ap q1,q2];rfl
     rw[e] at jz;refine jT ⟨_,rfl,k D H2 sm hD jz⟩
   .rintro σ H2 Q1 Q2 imp ⟨v,e1,v2,e2,p,ys,e3,e4,i1,i2,e5,e6,kk,e7,q⟩;exact⟨v,e1,v2,e2,p,ys,e3,e4,i1,i2,e5,e6,kk,e7,imp _ _ q⟩
theorem Wz:(["row"]:bQ).Nodup:=by decide +kernel
theorem NC:aN ["distances"] ["distances"] (aw DB):=dW (by decide +kernel)
def yH:Sp:=fun vs H Q _=>∃ (l:Addr) (ds:bR) (n:Nat) (o:Nat->List V),vs=[.ref l]/\H l=some (.lst (ds.map V.ref))/\n<=32/\Holds H ds n (fun j=>.lst (o j))/\(∀j,j<n->∀x∈o j,∃i,x=.int i)/\∀H',aI H H'->Q .cI H'
theorem KD(F:iI K "check_reached" "check_reached" DB f fd)(B:Bl mg):bU P w K mg base bo 1 f fd ["distances"] yH:=by
 refine F.ok NC (fun vs H Q E h=>?_) (fun fX A outer s H vs Q E hr h=>?_)
 .obtain⟨l,ds,n,o,rfl,_⟩:=h;rfl
 .obtain⟨l,ds,n,o,rfl,hl,n2,hh,hx,k⟩:=h;refine'⟨_,av (dS (jR (aJ (wP rfl) (by rfl) B.any PyProof.Rows.boot_any (aa ?c ag))) ff b8),?_⟩;case c=>
   refine' cQ (g:=bH 0) (te:=jS (ZR K false) (tC .cI) (bb 0)) (NB:=["row"]) (src:=[none]) (bz (by kernel_rfl)) rfl (bN (pv 0)) ?g ?t ?e;case g=>exact fun cl C s₃ H₃ fp=>aA (i:=0) Wz rfl aL cW
   case t=>exact fun cl C s₃ H₃ fp=>dC
   case e=>exact fun cl C s₃ H₃ fp=>pq Gh ij (pv 0) rfl
  refine⟨_,rfl,l,rfl,⟨_,a8.of hl⟩,fun D hD=>?_⟩;have nl:l≠D:=am hl hD;refine fZ (xs:=ds.map V.ref) (fun i ys σ H2=>(∃a,σ=[a])/\ys=(List.replicate i false).map V.bl/\H2=upd H D (.lst ys)) ⟨⟨_,rfl⟩,rfl,rfl⟩ (fun i ys σ H2 _ ⟨_,_,e⟩=>by rw[e];exact a8.of (by rw[aq nl];exact hl)) ?_ ?_
  .rintro i x ys σ H2 Kt Kf hxi ⟨⟨a,rfl⟩,rfl,rfl⟩ kt kf;obtain⟨hi,rfl⟩:=PU hxi;rw[hh.1] at hi;have hd:=hh.2 i hi;have nd:ds.getD i 0≠D:=am hd hD;have q1:(o i).all g7=true:=kO.mpr fun x qU=>by obtain⟨z,rfl⟩:=hx i hi x qU;rfl
   have q2:L5 .cI (o i)=false:=by
    unfold L5;rw[ux];intro x qU;obtain⟨z,rfl⟩:=hx i hi x qU;exact fun z=>by cases z
   refine⟨_,rfl,_,_,rfl,.inl (a8.of (by rw[aq nd];exact hd)),rfl,q1,?_⟩;refine kt _ _ _ ae ?_ ⟨⟨_,rfl⟩,?_,by rw[mN]⟩
   .rw[aT,i_];exact bv hi (aZ n2 (by decide))
   .rw[uh,dt,q2];rfl
  .rintro ys σ H2 ⟨_,rfl,rfl⟩;refine⟨D,_,rfl,a8.of ae,_,rfl,?_⟩;have e:(List.replicate (ds.map V.ref).length false).any id=false:=by
    rw[ux];intro x qU;rw[(BZ.mp qU).2];decide
   rw[e];exact jT (k _ (aj hD))
theorem nb2:(["one","other"]:bQ).Nodup:=by decide +kernel
theorem WA:(["house","many","ties"]:bQ).Nodup:=by decide +kernel
theorem aaq:(["house","self"]:bQ).Nodup:=by decide +kernel
def pZ(p Pt:Addr)(H H':Hp):Prop:=∀b o,H b=some o->b≠p->b≠Pt->H' b=some o
theorem iJ.mono(h:iJ H l n zs)(e:pZ p Pt H H')(hp:H p=some (.ins C dx fs))(tb:m9 Pt H):iJ H' l n zs:=
 ⟨h.lE,e _ _ h.at_ (ig h.at_ hp (by intro z;cases z)) (tb.not h.at_ nofun),fun z hz=>e _ _ (h.po z hz) (ig (h.po z hz) hp (by intro z;cases z)) (tb.not (h.po z hz) nofun)⟩
theorem m9.mono(t:m9 Pt H)(e:∀b o,H b=some o->b≠p->H' b=some o)(hp:H p=some (.ins C dx fs)):m9 Pt H':=by
 rcases t with z|⟨c,z,y⟩
 .exact .inl (e _ _ z (ig z hp (by intro q;cases q)))
 .exact .inr ⟨c,e _ _ z (ig z hp (by intro q;cases q)),e _ _ y (ig y hp (by intro q;cases q))⟩
theorem m9.full(t:m9 Pt H):H Pt≠none:=by
 rcases t with z|⟨c,z,y⟩ <;> rw[z] <;> intro q <;> cases q
theorem pZ.free(s:pZ p Pt H H')(hp:H' p≠none)(tb:m9 Pt H')(h:H' r=none):H r=none:=by
 cases z:H r with
 |none=>rfl
 |some o=>
  by_cases e1:r=p
  .subst e1;exact absurd h hp
  .by_cases e2:r=Pt
   .subst e2;exact absurd h tb.full
   .rw[s r o z e1 e2] at h;cases h
theorem PX(h:k [] H):h_ σ H k:=h
theorem mU{H:Hp}{p:Addr}{o:HO}(h:H p=some o):H p≠none:=by rw[h];intro z;cases z
theorem RP:aN ["self","many","ties"] ["self","many","ties"] (aw Fd):=dW (by decide +kernel)
def DD(C Pt:Addr):Sp:=fun vs H Q E=>∃ (p dx:Addr) (n:Nat) (l:Addr) (zs:Zs),vs=[.ref p,.int n,.ref l]/\H p=some (.ins C dx [])/\iJ H l n zs/\m9 Pt H/\
  ∀H',dE C H' (fun a=>H a=none) p n (zp zs)->m9 Pt H'->pZ p Pt H H'->Q .cI H'
theorem ND{f C Pt:Addr}{fd:eA}(F:iI K "__init__" "Net.__init__" Fd f fd)(T:NT K mg C)(B:Bl mg)(CT:d9 P w K mg base bo 6 "check_ties" ["many","ties"] mT)(CB:d9 P w K mg base bo 1 "check_balance" ["many","ties"] mT)(HO':d9 P w K mg base bo 1 "houses_out" ["many","ties","house"] (yE Pt))(DF:d9 P w K mg base bo 1 "distances_from" ["out_lists","start"] yF)(CR:d9 P w K mg base bo 1 "check_reached" ["distances"] yH):
  bU P w K mg base bo 7 f fd ["self","many","ties"] (DD C Pt):=by
 refine F.ok RP (fun vs H Q E h=>?_) (fun fX A outer s H vs Q E hr h=>?_)
 .obtain⟨p,dx,n,l,zs,rfl,_⟩:=h;rfl
 .have DE:df 1 _:=hr.mono (by decide);refine'⟨_,ak (cG (aH CT hr aM (aa (pv 1) (aa (pv 2) ag))))
   (ak (cG (aH CB DE aM (aa (pv 1) (aa (pv 2) ag))))
   (ak (uV (pv 0) (pv 1) rfl)
   (ak (uV (pv 0) (aJ Dd (by rfl) B.sorted nK (aa ?c1 ag)) rfl)
   (ak (uV (pv 0) ?c2 rfl)
   (ak (uV (pv 0) ?c3 rfl)
   (av (cG (aH CR DE aM (aa (k9 (pv 0) rfl) ag))))))))),?_⟩
  case c1=>
   refine' cQ (g:=uS K 2 (gn (bH 0) (gn (bH 1) uR))) (te:=sG (bJ (bb 0) (bJ (bb 1) h_))) (NB:=["one","other"]) (src:=[none,none]) (bz (by kernel_rfl)) rfl (bN (pv 2)) ?g ?t ?e;case g=>exact fun cl C s₃ H₃ fp=>dX (n:=2) rfl (aE (aA (i:=0) nb2 rfl aL cW) (aE (aA (i:=1) nb2 rfl aL cW) cM))
   case t=>exact fun cl C s₃ H₃ fp=>dC
   case e=>exact fun cl C s₃ H₃ fp=>bT (aa (pv 0) (aa (pv 1) ag))
  case c2=>
   refine' cQ (g:=bH 0) (te:=rR (yE Pt) [] E0 (bJ (bb 1) (bJ (bb 2) (bJ (bb 0) h_)))) (NB:=["house","many","ties"]) (src:=[none,some 1,some 2]) (bz (by kernel_rfl)) rfl (b9 rfl B.range (aa (pv 1) ag)) ?g ?t ?e;case g=>exact fun cl C s₃ H₃ fp=>aA (i:=0) WA rfl aL cW
   case t=>exact fun cl C s₃ H₃ fp=>dC
   case e=>exact fun cl C s₃ H₃ fp=>aH HO' DE aM (aa (pv 1) (aa (pv 2) (aa (pv 0) ag)))
  case c3=>
   refine' cQ (g:=bH 0) (te:=rR yF [] E0 (bJ (Mw K (bb 1) "out_lists") (bJ (bb 0) h_))) (NB:=["house","self"]) (src:=[none,some 0]) (bz (by kernel_rfl)) rfl (b9 rfl B.range (aa (pv 1) ag)) ?g ?t ?e;case g=>exact fun cl C s₃ H₃ fp=>aA (i:=0) aaq rfl aL cW
   case t=>exact fun cl C s₃ H₃ fp=>dC
   case e=>exact fun cl C s₃ H₃ fp=>aH DF DE aM (aa (k9 (pv 1) rfl) (aa (pv 0) ag))
  obtain⟨p,dx,n,l,zs,rfl,hp,TT,tb,k⟩:=h;have fi:=TT.lE;have n1:=fi.n1;have n2:=fi.n2;have e8:zs.length<=256:=by have:=fi.len;rw[b_] at this;exact this
  refine⟨_,rfl,_,rfl,n,l,zs,rfl,TT,fun H1 s1=>?_⟩;refine⟨_,rfl,_,rfl,n,l,zs,rfl,TT.same s1,fun H2 s2=>?_⟩;have Ux:aI H H2:=s1.trans s2;refine⟨_,rfl,_,rfl,p,C,dx,[],rfl,Ux _ _ hp,T.cl,T.nH,(by show 0<1000;decide),?_⟩
  let G1:Hp:=upd H2 p (.ins C dx (eY "house_count" (.int n) []))
  have d1:pZ p Pt H G1:=fun b o e h1 _=>by show upd _ _ _ _=_;rw[aq h1];exact Ux _ _ e
  have YV:G1 p=some (.ins C dx (eY "house_count" (.int n) [])):=ae;have TT1:iJ G1 l n zs:=TT.mono d1 hp tb;have tb1:m9 Pt G1:=tb.mono (fun b o e h1=>by show upd _ _ _ _=_;rw[aq h1];exact Ux _ _ e) hp;refine⟨_,rfl,l,rfl,⟨_,a8.of TT1.at_⟩,fun D hD=>?_⟩;refine vz (fun y=>y) (fun σ=>∃a b,σ=[a,b]) TT1.at_ TT1.po hD (by lia) ⟨_,_,rfl⟩ ?_ ?_
  .rintro z σ H3 R Kf hz ⟨a,b,rfl⟩ _ ha kk;refine⟨_,_,rfl,cu.of ha,rfl,_,_,rfl,_,_,rfl,rfl,?_⟩;exact⟨_,rfl,_,rfl,by show 2<=sizeLine;decide,fun t ht=>kk _ _ ⟨_,_,rfl⟩ ht⟩
  .intro zy H3 sm pY RQ ez WB;rw[List.map_id'] at ez;have Ie:zy.length=zs.length:=by rw[<-b_,ez,b_]
   refine PX ?_;refine Nj pY RQ (by lia) (fun u hu=>by have:=(fi.rg u (ez ▸ hu)).2;lia) fun tl PY htl pm m_=>?_;have aar:H tl=none:=d1.free (mU YV) tb1 (sm.free htl);have LX:∀z∈PY,H z.1=none:=fun z hz=>d1.free (mU YV) tb1 (WB z (pm.mem_iff.mp hz));have e3p:H3 p=some (.ins C dx (eY "house_count" (.int n) [])):=sm _ _ YV;have RU:p≠tl:=am e3p htl;refine⟨_,rfl,p,C,dx,_,rfl,by rw[aq RU];exact e3p,T.cl,T.nT,by show 1<1000;decide,?_⟩
   let G2:Hp:=upd (upd H3 tl (.lst (zr PY))) p (.ins C dx (eY "tie_list" (.ref tl) (eY "house_count" (.int n) [])))
   have q2:∀b o,H3 b=some o->b≠p->G2 b=some o:=fun b o e h1=>by
    show upd _ _ _ _=_;rw[aq h1,aq (am e htl)];exact e
   have d2:pZ p Pt H G2:=fun b o e h1 h2=>q2 _ _ (sm _ _ (d1 _ _ e h1 h2)) h1;have g2t:G2 tl=some (.lst (zr PY)):=by show upd _ _ _ _=_;rw[aq RU.symm,ae]
   have g2o:PO G2 PY:=fun z hz=>q2 _ _ (RQ z (pm.mem_iff.mp hz)) (ig (RQ z (pm.mem_iff.mp hz)) e3p (by intro z;cases z));have RV:G2 p=some (.ins C dx (eY "tie_list" (.ref tl) (eY "house_count" (.int n) []))):=ae;have TT2:iJ G2 l n zs:=TT.mono d2 hp tb;have RW:m9 Pt G2:=tb1.mono (fun b o e h1=>q2 _ _ (sm _ _ e) h1) YV;refine⟨_,rfl,n,rfl,by lia,by lia,fun D2 jz=>?_⟩;refine fJ (n:=n) (lo:=0) (fun i ys σ H4=>(∃a,σ=[a,some (.int n),some (.ref l)])/\∃bs:List Addr,ys=bs.map V.ref/\(∀b∈bs,H b=none)/\Holds H4 bs i (fun h=>.lst (NV (bX n (zp zs) h)))/\mq Pt G2 H4/\m9 Pt H4/\H4 D2=some (.lst ys)/\∀b∈bs,b≠D2)
    ⟨⟨_,rfl⟩,[],rfl,(fun _ h=>nomatch h),Holds.nil,mq.of (aj jz),RW.same (aj jz),ae,(fun _ h=>nomatch h)⟩ ?_ ?_
   .rintro i ys σ H4 Kt Kf hi ⟨⟨a,rfl⟩,bs,rfl,hbN,hb,yI,Uy,Bt,hbD⟩ kt kf;have TT4:iJ H4 l n zs:=TT2.mono (p:=p) (fun b o e _ h2=>yI _ _ e h2) RV RW;have Uz:=yI _ _ RV (RW.not RV nofun);refine⟨_,rfl,_,rfl,_,rfl,n,l,i,zs,by rw[iG];rfl,hi,TT4,Uy,fun r H5 t5 zo AU hr5=>?_⟩;have hrN:H r=none:=pZ.free (fun b o e h1 h2=>yI _ _ (d2 _ _ e h1 h2) h2) (mU Uz) Uy AU;have YW:H5 D2=some (.lst (bs.map V.ref)):=zo _ _ Bt (Uy.not Bt nofun);have WC:r≠D2:=by rintro rfl;rw[Bt] at AU;cases AU
    have nC:∀b o v7,H5 b=some o->b≠D2->(upd H5 D2 v7) b=some o:=fun b o v7 e h=>by rw[aq h];exact e
    refine kt _ _ _ YW (by rw[aT,hb.1];exact bv hi (aZ n2 (by decide))) ⟨⟨_,rfl⟩,bs++[r],by rw[dt];rfl,?_,?_,?_,?_,ae,?_⟩
    .intro b v6;rcases cL.mp v6 with z|z
     .exact hbN b z
     .rw[dA.mp z];exact hrN
    .refine Holds.snoc (hb.mono fun j hj e=>?_) (nC _ _ _ hr5 WC);refine nC _ _ _ (zo _ _ e (Uy.not e nofun)) (hbD _ ?_);rw[cw,cz (by rw[hb.1];exact hj)];exact ie _
    .intro b o e h;exact nC _ _ _ (zo _ _ (yI _ _ e h) h) (am e jz)
    .rcases t5 with z|⟨c,z,y⟩
     .exact .inl (nC _ _ _ z (ig z YW (by intro q;cases q)))
     .exact .inr ⟨c,nC _ _ _ z (ig z YW (by intro q;cases q)),nC _ _ _ y (ig y YW (by intro q;cases q))⟩
    .intro b v6;rcases cL.mp v6 with z|z
     .exact hbD b z
     .rw[dA.mp z];exact WC
   .rintro ys σ H4 ⟨_,bs,rfl,hbN,hb,yI,Uy,Bt,hbD⟩;have Uz:H4 p=some (.ins C dx (eY "tie_list" (.ref tl) (eY "house_count" (.int n) []))):=yI _ _ RV (RW.not RV nofun);have aas:H D2=none:=d2.free (mU RV) RW jz;refine⟨_,rfl,p,C,dx,_,rfl,Uz,T.cl,T.nO,by have h1:=fA "tie_list" (V.ref tl) (eY "house_count" (V.int n) []);have h2:=fA "house_count" (V.int n) [];simp at h2;lia,?_⟩
    let G3:Hp:=upd H4 p (.ins C dx (eY "out_lists" (.ref D2) (eY "tie_list" (.ref tl) (eY "house_count" (.int n) []))))
    have q3:∀b o,H4 b=some o->b≠p->G3 b=some o:=fun b o e h1=>by show upd _ _ _ _=_;rw[aq h1];exact e
    have RX:G3 p=some (.ins C dx (eY "out_lists" (.ref D2) (eY "tie_list" (.ref tl) (eY "house_count" (.int n) [])))):=ae;have d3:pZ p Pt H G3:=fun b o e h1 h2=>q3 _ _ (yI _ _ (d2 _ _ e h1 h2) h2) h1;have tb3:m9 Pt G3:=Uy.mono q3 Uz;have hb3:Holds G3 bs n (fun h=>.lst (NV (bX n (zp zs) h))):=hb.mono fun j hj e=>q3 _ _ e (ig e Uz (by intro z;cases z));have g3D:G3 D2=some (.lst (bs.map V.ref)):=q3 _ _ Bt (ig Bt Uz (by intro z;cases z));have O3:vB G3 D2 n (zp zs):=⟨bs,g3D,hb3⟩
    refine⟨_,rfl,n,rfl,by lia,by lia,fun D3 RY=>?_⟩;refine fJ (n:=n) (lo:=0) (fun i ys σ H6=>(∃a,σ=[a,some (.ref p)])/\∃ds:List Addr,ys=ds.map V.ref/\(∀b∈ds,H b=none)/\Holds H6 ds i (fun s=>.lst (NV ((List.range n).map (far (zp zs) s))))/\aI G3 H6/\H6 D3=some (.lst ys)/\∀b∈ds,b≠D3)
     ⟨⟨_,rfl⟩,[],rfl,(fun _ h=>nomatch h),Holds.nil,aj RY,ae,(fun _ h=>nomatch h)⟩ ?_ ?_
    .rintro i ys σ H6 Kt Kf hi ⟨⟨a,rfl⟩,ds,rfl,hdN,hd,NF,RZ,Vi⟩ kt kf;refine⟨_,rfl,p,C,dx,_,_,rfl,NF _ _ RX,T.cl,T.nO,by rw[bS,ap rfl],_,rfl,D2,n,i,zp zs,by rw[iG];rfl,fi,hi,O3.same NF,fun r H7 st7 R1 hr7=>?_⟩;have e7D:H7 D3=some (.lst (ds.map V.ref)):=st7 _ _ RZ;have WC:r≠D3:=by rintro rfl;rw[RZ] at R1;cases R1
     have hrN:H r=none:=pZ.free (fun b o e h1 h2=>NF _ _ (d3 _ _ e h1 h2)) (mU (NF _ _ RX)) (tb3.same NF) R1;have nC:∀b o v7,H7 b=some o->b≠D3->(upd H7 D3 v7) b=some o:=fun b o v7 e h=>by rw[aq h];exact e
     refine kt _ _ _ e7D (by rw[aT,hd.1];exact bv hi (aZ n2 (by decide))) ⟨⟨_,rfl⟩,ds++[r],by rw[dt];rfl,?_,?_,?_,ae,?_⟩
     .intro b v6;rcases cL.mp v6 with z|z
      .exact hdN b z
      .rw[dA.mp z];exact hrN
     .refine Holds.snoc (hd.mono fun j hj e=>?_) (nC _ _ _ hr7 WC);refine nC _ _ _ (st7 _ _ e) (Vi _ ?_);rw[cw,cz (by rw[hd.1];exact hj)];exact ie _
     .intro b o e;exact nC _ _ _ (st7 _ _ (NF _ _ e)) (am e RY)
     .intro b v6;rcases cL.mp v6 with z|z
      .exact Vi b z
      .rw[dA.mp z];exact WC
    .rintro ys σ H6 ⟨_,ds,rfl,hdN,hd,NF,RZ,Vi⟩;have WD:=NF _ _ RX;refine⟨_,rfl,p,C,dx,_,rfl,WD,T.cl,T.nD,by have h1:=fA "tie_list" (V.ref tl) (eY "house_count" (V.int n) []);have h2:=fA "house_count" (V.int n) [];have h3:=fA "out_lists" (V.ref D2) (eY "tie_list" (V.ref tl) (eY "house_count" (V.int n) []));simp at h2;lia,?_⟩;have q4:∀b o u,H6 b=some o->b≠p->(upd H6 p u) b=some o:=fun b o u e h1=>by rw[aq h1];exact e
     refine⟨_,rfl,p,C,dx,_,_,rfl,ae,T.cl,T.nD,by rw[bS,ap rfl],D3,ds,n,fun s=>NV ((List.range n).map (far (zp zs) s)),rfl,q4 _ _ _ RZ (ig RZ WD (by intro z;cases z)),n2,hd.mono fun j hj e=>q4 _ _ _ e (ig e WD (by intro z;cases z)),fun j hj x hx=>?_,fun H8 s8=>?_⟩
     .obtain⟨y,hy,rfl⟩:=bB.mp hx;exact⟨_,rfl⟩
     .have up:∀b o,G3 b=some o->b≠p->H8 b=some o:=fun b o e h1=>s8 _ _ (q4 _ _ _ (NF _ _ e) h1);have aat:H D3=none:=d3.free (mU RX) tb3 RY;have upT:∀b o,G2 b=some o->b≠p->b≠Pt->H8 b=some o:=fun b o e h1 h2=>up _ _ (q3 _ _ (yI _ _ e h2) h1) h1;refine k H8 ⟨fi,dx,tl,D2,D3,s8 _ _ ae,aas,aat,⟨bs,up _ _ g3D (ig g3D RX (by intro z;cases z)),hbN,hb3.mono fun j hj e=>up _ _ e (ig e RX (by intro z;cases z))⟩,
       ⟨ds,s8 _ _ (q4 _ _ _ RZ (ig RZ WD (by intro z;cases z))),hdN,hd.mono fun j hj e=>s8 _ _ (q4 _ _ _ e (ig e WD (by intro z;cases z)))⟩,
       ⟨aar,PY,upT _ _ g2t RU.symm (RW.not g2t nofun),fun z hz=>upT _ _ (g2o z hz) (ig (g2o z hz) RV (by intro z;cases z)) (RW.not (g2o z hz) nofun),LX,((show (zp PY).Perm (zp zy) from pm.map _).trans (lS ez)),m_⟩⟩ ?_ fun b o e h1 h2=>up _ _ (d3 _ _ e h1 h2) h1
      exact tb3.mono up RX
theorem jA:NV xs++[.int (x:Int)]=NV (xs++[x]):=by unfold NV;rw[dt];rfl
theorem p6{xs:aQ}{i:Nat}{x:V}(h:(NV xs)[i]?=some x):∃y,xs[i]?=some y/\x=.int (y:Int):=by
 unfold NV at h;rw[cA] at h;cases e:xs[i]? with
 |none=>rw[e] at h;cases h
 |some z=>rw[e] at h;exact⟨z,rfl,(cB h).symm⟩
end
end r9
namespace L2
open PySem PySem.Spec PyProof.Rows
section
variable {X:Cx}
def WE(X:Cx)(H:Hp)(d:Nat)(x y:V):Prop:=∀ (af:cE) (s:aR) (σ:St) (A:br) (u v:Value),aU X af σ H s->A.units+d<cLine->bW x u->bW y v->SeqAt.EqAt A s u v true
theorem NG:WE X H 0 (.int i) (.int i):=by
 intro af s σ A u v I hu rx ry;have h:=x_ (A:=A) (s:=s) rx ry rfl rfl;rw[show uY (.int i) (.int i)=true by show decide (i=i)=true;simp] at h;exact h
theorem Hz(I:aU X af σ H s)(hu:A.units+d<cLine)(rx:ba xs us)(ry:ba ys vs)(he:∀i,i<xs.length->i<ys.length->WE X H d (xs.getD i .cI) (ys.getD i .cI)):∀j (h1:j<us.toArray.size) (h2:j<vs.toArray.size),SeqAt.EqAt A s us.toArray[j] vs.toArray[j] true:=by
 intro j h1 h2;have j1:j<xs.length:=by rw[rx.length];simpa using h1
 have j2:j<ys.length:=by rw[ry.length];simpa using h2
 have e1:xs[j]?=some (xs.getD j .cI):=by rw[cw,cz j1];rfl
 have e2:ys[j]?=some (ys.getD j .cI):=by rw[cw,cz j2];rfl
 obtain⟨u,VR,ru⟩:=rx.get e1;obtain⟨v,QZ,rv⟩:=ry.get e2;have eu:us.toArray[j]=u:=by
  have:us[j]?=some us.toArray[j]:=by simp at h1 |-
  rw[VR] at this;exact(cB this).symm
 have ev:vs.toArray[j]=v:=by
  have:vs[j]?=some vs.toArray[j]:=by simp at h2 |-
  rw[QZ] at this;exact(cB this).symm
 rw[eu,ev];exact he j j1 j2 af s σ A u v I hu ru rv
theorem KE:(List.range n).all (fun _=>true)=true:=kO.mpr fun _ _=>rfl
def WF(X:Cx)(QG:Bool)(d:Nat):R2:=fun x y H Q=>∃p q xs ys,x=.ref p/\y=.ref q/\cu X.K H p xs/\cu X.K H q ys/\xs.length=ys.length/\(∀i,i<xs.length->i<ys.length->WE X H d (xs.getD i .cI) (ys.getD i .cI))/\Q (.bl (!QG)) H
theorem NH(hu:X.A.units+(d+1)<cLine):nr X (compareOp .Eq) (WF X false d):=by
 intro af s σ H x y v u Q I rx ry h;obtain⟨p,q,xs,ys,rfl,rfl,hp,hq,hl,he,k⟩:=h;obtain rfl:v=Value.ref p:=rx;obtain rfl:u=Value.ref q:=ry;obtain⟨us,r1,p1,_⟩:=I.tuple hp;obtain⟨vs,r2,p2,_⟩:=I.tuple hq;have e:(us.toArray.size==vs.toArray.size)=true:=by simp only[ce];rw[<-r1.length,<-r2.length,hl];simp
 refine SeqAt.eq_tupleAt (e:=fun _=>true) (show s.heap.IsTuple p us.toArray from p1) (show s.heap.IsTuple q vs.toArray from p2) (by lia) (Hz I (by show X.A.units+1+d<cLine;lia) r1 r2 he) ⟨.bl _,H,I,rfl,?_⟩;rw[KE,e];exact k
end
end L2
namespace r9
open PySem L2 ln
section
variable {P:bL} {w:World} {K:a_} {mg:cr} {base:Heap}
end
end r9
namespace L2
open PySem PySem.Spec PyProof.Rows
def vC(P:bL)(w:World)(h:Heap)(vs:bw)(ps:List (List iW×Addr×Value)):Prop:=vs.length=ps.length/\∀ (i:Nat) (v:Value),vs[i]?=some v->∃ (a:Addr) (o:Obj) (n:Nat) (b:Addr) (k:List iW) (x:Value),v=Value.ref a/\h.get? a=some o/\o.cls=.type "tuple"/\o.data=.seq #[.ref b,x] n/\(tupleKind (cZ P w)).is h k b/\ps[i]?=some (k,b,x)
theorem AV(x:(tupleKind (cZ Pzz w)).is h k b)(q:∀b o,(∃xs n,o.data=.seq xs n)->h.get? b=some o->h'.get? b=some o):(tupleKind (cZ Pzz w)).is h' k b:=by
 obtain⟨o,its,n,h1,h2,h3,h4⟩:=x;exact⟨o,its,n,q _ _ ⟨_,_,h3⟩ h1,h2,h3,h4⟩
theorem vC.keeps(x:vC Pzz w h vs ps)(k:∀b o,(∃xs n,o.data=.seq xs n)->h.get? b=some o->h'.get? b=some o):vC Pzz w h' vs ps:=
 ⟨x.1,fun i v hv=>let ⟨a,o,n,b,kk,y,e1,e2,e3,e4,e5,e6⟩:=x.2 i v hv;⟨a,o,n,b,kk,y,e1,k a o ⟨_,_,e4⟩ e2,e3,e4,AV e5 k,e6⟩⟩
theorem vD{P:bL}{w:World}{h h':Heap}{d:Addr}{xs:List (List iW×Addr×Value)}(x:h.DictOfH (tupleKind (cZ P w)) d xs)(kd:∀o,h.get? d=some o->h'.get? d=some o)(q:∀b o,(∃xs n,o.data=.seq xs n)->h.get? b=some o->h'.get? b=some o):h'.DictOfH (tupleKind (cZ P w)) d xs:=by
 obtain⟨o,es,ep,h1,h2,h3,h4,h5,h6⟩:=x;exact⟨o,es,ep,kd _ h1,h2,h3,h4,fun y hy=>AV (h5 y hy) q,h6⟩
section
variable {prog:bL} {w:World} {A:br} {E:bV} {s:aR} {R:zB} {l d Ia:Addr}
theorem DG{vs:bw}{ps:List (List iW×Addr×Value)}(hh:A.handled=none)(hu:A.units+4<cLine)(hlD:l≠d)(Z3:l≠Ia)(hdI:d≠Ia):
  ∀ (k i:Nat) (j:Int) (t:Tok) (s:aR) (dR:List (List iW×Addr×Value)),vs.length-i=k->i<=vs.length->s.heap.IsListIter Ia l i->s.heap.IsList l vs.toArray->vC prog w s.heap vs ps->s.heap.DictOfH (tupleKind (cZ prog w)) d dR->dR.length+k<=4096->
   (∀h' tk,(∀b o,b≠d->b≠Ia->s.heap.get? b=some o->h'.get? b=some o)->h'.DictOfH (tupleKind (cZ prog w)) d ((ps.drop i).foldl (fun m p=>storedH m p.1 p.2.1 p.2.2) dR)->R (.ok (.ret .none)) { s with heap:=h',toks:=tk })->
   codeAny (model prog w) A (.builtin "dict.update.loop" ⟨[.ref d,.ref Ia,.int j t,.none],[]⟩) R s:=by
 intro k;induction k with
 |zero=>
  intro i j t s dR hk hi zq hl hp hD hz hR;refine lT rW ?_;rw[qy jw _];show wpAny _ A.in1 (pyNext (.ref Ia) >>= _) _ _ s;refine au (BW (show A.in1.handled=none from hh) zq hl (by simp;lia) fun h' eb=>?_);have hd:ps.drop i=[]:=by rw[List.drop_eq_nil_iff];have:=hp.1;lia
  have hR':=hR h' s.toks (fun b o hb MR e=>eb b o MR e);rw[hd] at hR';refine au (wpAny_pure (wpAny_pure (hR' ?_)));refine vD hD (fun o e=>eb d o hdI e) fun b o hb e=>eb b o (fun z=>?_) e;obtain⟨oi,e1,_,d1⟩:=zq;obtain⟨xs,m,hb⟩:=hb;rw[z,e1] at e;cases e;rw[d1] at hb;cases hb
 |succ k ih=>
  intro i j t s dR hk hi zq hl hp hD hz hR;have eX:i<vs.length:=by lia
  refine lT rW ?_;rw[qy jw _];show wpAny _ A.in1 (pyNext (.ref Ia) >>= _) _ _ s;have hv:vs[i]?=some vs[i]:=cz eX;refine au (BS zq hl (x:=vs[i]) (by simpa using hv) fun h1 QV sO=>?_);have YE:∀b ob,(∃xs n,ob.data=.seq xs n)->s.heap.get? b=some ob->b≠Ia:=fun b ob ⟨xs,m,z⟩ e z'=>by
   obtain⟨oi,e1,_,d1⟩:=zq;rw[z',e1] at e;cases e;rw[d1] at z;cases z
  have k1:∀b ob,(∃xs n,ob.data=.seq xs n)->s.heap.get? b=some ob->h1.get? b=some ob:=fun b ob hb e=>(sO.2 b (YE b ob hb e)).trans e;have mY:vC prog w h1 vs ps:=hp.keeps k1;have DH:h1.DictOfH (tupleKind (cZ prog w)) d dR:=vD hD (fun o e=>(sO.2 d hdI).trans e) k1;have Bo:h1.IsList l vs.toArray:=by
   obtain⟨ol,q1,q2⟩:=hl;exact⟨ol,(sO.2 l Z3).trans q1,q2⟩
  obtain⟨a,o,n,b,kk,x,ea,VH,ec,ed,ek,ep⟩:=mY.2 i _ hv;rw[ea];have neD:∀b ob,(∃xs n,ob.data=.seq xs n)->h1.get? b=some ob->b≠d:=fun b ob ⟨xs,m,z⟩ e z'=>by
   obtain⟨oS,es,U0,q1,_,q4,_⟩:=DH;rw[z',q1] at e;cases e;rw[q4] at z;cases z
  have hT:Shared.TypeIs { s with heap:=h1 } (.ref a) "tuple":=⟨o,VH,ec⟩
  refine au (gK ?_);show wpAny _ A.in1 (Sem.tryCatch (Builtin.Dict.pairItems (.ref a)) _ >>= _) _ _ _;refine au (wpAny_tryCatch ?_);unfold Builtin.Dict.pairItems;refine au (qP hT ?_);rw[ap (by decide)];refine au (iF VH ed (wpAny_pure ?_));show wpAny _ A.in1 (holding [.ref b,x] (dictSet d (.ref b) x)) _ _ _;refine gK (wpAny_dictSet_heap (s:={ s with heap:=h1 }) (show A.in1.units<cLine from by show A.units+1<cLine;lia) ek DH (fun h2 jz q_=>?_) (aZ (by lia:dR.length<=4096) (by decide)));refine wpAny_pure ⟨uN jw _,?_⟩;have Ab:i<ps.length:=by have:=hp.1;lia
  have Z5:ps.drop i=(kk,b,x)::ps.drop (i+1):=by
   rw[qo Ab];have:ps[i]?=some ps[i]:=cz Ab;rw[this] at ep;rw[cB ep]
  have e8:(storedH dR kk b x).length<=dR.length+1:=by
   unfold storedH;split
   .rw[aT];lia
   .rw[dh];simp
  have k2:∀b ob,(∃xs n,ob.data=.seq xs n)->h1.get? b=some ob->h2.get? b=some ob:=fun b ob hb e=>(q_.2 b (neD b ob hb e)).trans e;refine ih (i+1) _ _ { s with heap:=h2,toks:=_ } (storedH dR kk b x) (by lia) eX ?_ ?_ (mY.keeps k2) jz (by lia) fun h3 Z6 k3 D3=>?_
  .obtain⟨oi,q1,q2⟩:=QV;exact⟨oi,(q_.2 Ia (dI hdI)).trans q1,q2⟩
  .obtain⟨ol,q1,q2⟩:=Bo;exact⟨ol,(q_.2 l hlD).trans q1,q2⟩
  .refine hR h3 Z6 (fun b ob hb MR e=>k3 b ob hb MR ((q_.2 b hb).trans ((sO.2 b MR).trans e))) ?_;rw[Z5];exact D3
end
section
variable {prog:bL} {w:World} {A:br} {E:bV} {s:aR} {l:Addr}
theorem R4(h:Heap):(h.push { cls:=.type "dict",data:=.dict #[] }).DictOfH (tupleKind (cZ Pzz w)) h.objs.size []:=
 ⟨_,#[],0,cX _ rfl,⟨rfl,rfl,rfl⟩,rfl,rfl,(fun x hx=>nomatch hx),kR⟩
theorem DI(hh:A.handled=none)(hu:A.units+8<cLine)(hl:s.heap.get? l=some { cls:=.type "list",data:=.seq vs.toArray n })(hp:vC prog w s.heap vs ps)(hz:vs.length<=4096)(h:∀h' tk,h'.DictOfH (tupleKind (cZ prog w)) s.heap.objs.size (ps.foldl (fun m p=>storedH m p.1 p.2.1 p.2.2) [])->(∀b o,s.heap.get? b=some o->h'.get? b=some o)->Q (.ref s.heap.objs.size) { s with heap:=h',toks:=tk }):
  wpAny (model prog w) A (call (.type "dict") [.ref l]) Q E s:=by
 refine callType_codes (Q₁:=fun obj s₁=>obj=.ref s.heap.objs.size/\s₁={ s with heap:=s.heap.push { cls:=.type "dict",data:=.dict #[] } }) F.kt_called_dict (F.kt_typeCall_dict_1 _) F.entry_dict_init (kt_code_dict_new _ ⟨rfl,rfl⟩) ?_;rintro obj s₁ ⟨rfl,rfl⟩;have PZ:(s.heap.push { cls:=.type "dict",data:=.dict #[] }).DictOf (cZ prog w) s.heap.objs.size []:=Heap.DictOf.new s.heap;have u7:(s.heap.push { cls:=.type "dict",data:=.dict #[] }).DictOfH (tupleKind (cZ prog w)) s.heap.objs.size []:=R4 s.heap;have iD:(s.heap.push { cls:=.type "dict",data:=.dict #[] }).objs.size=s.heap.objs.size+1:=jc ..;have up:∀b o,s.heap.get? b=some o->(s.heap.push { cls:=.type "dict",data:=.dict #[] }).get? b=some o:=fun b o e=>bP _ e;have eX:l<s.heap.objs.size:=aS hl;refine⟨PZ.typeIs,F.args_dict_init_2 _ _,?_⟩;generalize (s.heap.push { cls:=.type "dict",data:=.dict #[] })=hD at *;have hT:Shared.TypeIs { s with heap:=hD } (.ref l) "list":=⟨_,up _ _ hl,rfl⟩
 unfold Builtin.«dict.__init__»;refine au ?_;unfold Builtin.Dict.selfAndRest;refine au (wpAny_notOrdered_dict PZ.typeIs (wpAny_pure ?_));show wpAny _ _ (Builtin.Dict.updateFrom "dict.__init__" s.heap.objs.size (.ref l) [] .none) _ _ _;unfold Builtin.Dict.updateFrom;refine au (qP hT ?_);rw[ap (by decide)];refine au (Q9 (s:={ s with heap:=hD }) (show A.in1.handled=none from hh) (up _ _ hl) fun h1 tk1 k1=>?_);have Bo:h1.get? l=some { cls:=.type "list",data:=.seq vs.toArray n }:=k1 _ _ (up _ _ hl);have t8:h1.IsList l vs.toArray:=⟨_,Bo,rfl,n,rfl⟩
 rw[ap (by rfl)];refine au (fv ?_);refine au (uB (s:={ s with heap:=h1,toks:=tk1 }) t8 ?_);have hDI:s.heap.objs.size<h1.objs.size:=by
  obtain⟨o,es,ep,q1,q2⟩:=u7;exact aS (k1 _ _ q1)
 refine wpAny_pure ⟨uN jw _,?_⟩;refine DG (l:=l) (vs:=vs) (ps:=ps) (Ia:=h1.objs.size) (show A.in1.handled=none from hh) (show A.units+1+4<cLine by lia) (bf eX) (bf (qM eX hDI)) (bf hDI) vs.length 0 0 0 _ [] (by simp) (cp _) ⟨_,cX _ rfl,rfl,rfl⟩ ?_ ?_ ?_ (by simpa using hz) fun h2 DJ k2 D2=>?_
 .exact⟨_,bP _ Bo,rfl,n,rfl⟩
 .exact hp.keeps fun b o _ e=>bP _ (k1 _ _ (up _ _ e))
 .exact vD u7 (fun o e=>bP _ (k1 _ _ e)) fun b o _ e=>bP _ (k1 _ _ e)
 .refine⟨rfl,h h2 DJ D2 fun b o e=>k2 b o (bf (aS e)) (bf (qM (aS e) hDI)) (bP _ (k1 _ _ (up _ _ e)))⟩
end
abbrev TK:=List iW×Addr×V
def eF(m:List (List iW×V))(ps:List TK):List (List iW×V):=ps.foldl (fun m p=>ve m p.1 p.2.2) m
inductive KP (H:Hp):List TK->List (List iW×Addr×Value)->Prop where
 |nil:KP H [] []
 |cons {k:List iW} {b:Addr} {v:V} {u:Value} {ps:List TK} {us:List (List iW×Addr×Value)} (hb:H b=some (.tup (k.map kV))) (r:bW v u) (t:KP H ps us):KP H ((k,b,v)::ps) ((k,b,u)::us)
theorem KP.fold:∀ {ps:List TK} {us:List (List iW×Addr×Value)} {m:List (List iW×V)} {m':List (List iW×Addr×Value)},KP H ps us->KT H m m'->KT H (eF m ps) (us.foldl (fun m p=>storedH m p.1 p.2.1 p.2.2) m')
 |[],_,_,_,.nil,r=>r
 |(k,b,v)::ps,_,m,m',.cons (us:=us) hb rv t,r=>by
  have:=KP.fold (ps:=ps) (us:=us) t (r.put k hb rv);exact this
theorem r_:∀ (ps:List TK) (m:List (List iW×V)),(eF m ps).length<=m.length+ps.length
 |[],m=>by show m.length<=_;simp
 |p::ps,m=>by
  have h1:=r_ ps (ve m p.1 p.2.2);have h2:=Ar m p.1 p.2.2;show (eF (ve m p.1 p.2.2) ps).length<=_;rw[fj];lia
theorem AW(ok:oo Pzz w H h):∀ (ts:bR) (ps:List TK),ts.length=ps.length->(∀i,i<ps.length->∃k b v,ps[i]?=some (k,b,v)/\H (ts.getD i 0)=some (.tup [.ref b,v])/\H b=some (.tup (k.map kV)))->
  ∃us:List (List iW×Addr×Value),KP H ps us/\vC Pzz w h (ts.map Value.ref) us
 |[],[],_,_=>⟨[],.nil,rfl,fun i v hv=>by simp at hv⟩
 |[],_::_,e,_=>by simp at e
 |_::_,[],e,_=>by simp at e
 |t::ts,(k,b,v)::ps,e,hs=>by
  obtain⟨us,r,T⟩:=AW ok ts ps (by simpa using e) fun i hi=>by
   obtain⟨k',b',v',h1,h2,h3⟩:=hs (i+1) (by simp;lia);exact⟨k',b',v',by simpa using h1,by simpa using h2,h3⟩
  obtain⟨k0,b0,v0,g1,g2,g3⟩:=hs 0 (by simp);have g1':(k,b,v)=(k0,b0,v0):=by simpa using g1
  cases g1';have g2':H t=some (.tup [.ref b,v]):=by simpa using g2
  obtain⟨_,its,rv,o,q1,q2,n,q3⟩:=ok t _ g2';cases rv with
  |cons ra rr=>
   cases rr with
   |cons rb rr2=>
    cases rr2;rename_i ka vb;obtain rfl:ka=Value.ref b:=ra;refine⟨(k,b,vb)::us,.cons g3 rb r,by simp[T.1],fun i x hx=>?_⟩;cases i with
    |zero=>
     have qU:Value.ref t=x:=by simpa using hx
     exact⟨t,o,n,b,k,vb,qU.symm,q1,q2,q3.1,rj ok g3,rfl⟩
    |succ i=>exact T.2 i x (by simpa using hx)
section
variable {X:Cx}
def R7:List V->Hp->VK->Prop:=fun xs H Q=>∃ (l:Addr) (ts:bR) (ps:List TK),xs=[.ref l]/\H l=some (.lst (ts.map V.ref))/\ts.length=ps.length/\(∀i,i<ps.length->∃k b v,ps[i]?=some (k,b,v)/\H (ts.getD i 0)=some (.tup [.ref b,v])/\H b=some (.tup (k.map kV)))/\ps.length<=4096/\
 ∀D,H D=none->Q (.ref D) (upd H D (.dT (eF [] ps)))
theorem DK(hc:X.calm=true)(hu:X.A.units+8<cLine):gf X (.type "dict") R7:=by
 intro af s σ H xs us Q I r h;obtain⟨l,ts,ps,rfl,hl,e8,ht,hz,q⟩:=h;obtain⟨u1,rfl,r1⟩:=r.one;obtain rfl:u1=Value.ref l:=r1;obtain⟨z,its,n,rv,_,e⟩:=I.ye hl;have yo:its=ts.map Value.ref:=yn rv;subst yo;obtain⟨vs,kv,T⟩:=AW I.cY ts ps e8 ht;refine DI (I.ok.hd hc) hu e T (by rw[aT,e8];exact hz) fun h' tk D k=>?_;have hs:sysModules<s.heap.objs.size:=qM (by decide:sysModules<mainGlobals) (I.mod.glob.keeps I.bk).lt;have nf:=I.cY.fresh (aP s.heap.objs.size);have I2:aU X af σ (upd H s.heap.objs.size (.dT (eF [] ps))) { s with heap:=h',toks:=tk }:=by
  obtain⟨o,es,ep,h1,h2,h3,h4,_,h6⟩:=D;refine I.z_ (t':=tk) k (qx (aP _)) ⟨?_,?_,_,KT.keeps (KP.fold kv .nil) fun b ys eb=>?_,o,es,ep,h1,h2,h3,h4,h6⟩
  .have:=r_ ps [];exact aZ this (aZ (by simpa using hz) (by decide:4096<=sizeLine))
  .rw[pb];exact gO hs
  .rw[aq (am eb nf)];exact eb
 exact⟨.ref s.heap.objs.size,_,I2,rfl,q _ nf⟩
end
structure WG(K:a_)(C:Addr):Prop where
 makes:W.makesIn K C=true
 init:W.findIn K (.ref C) "__init__"=some (some (.builtin "object.__init__"))
 keep:W.keepIn K (.ref C)=true
section
variable {X:Cx} {C:Addr} {x:Str} {p pos:Pos}
def aau(C:Addr):TE:=fun _ H Q=>∀y dx,H y=none->H dx=none->dx≠y->Q (.ref y) (upd (upd H dx (.own y)) y (.ins C dx []))
theorem yJ(M:WG X.K C)(hg:Gl X x)(hm:X.mg x=some (.ref C))(Gf:(x==("__debug__":Str))=false:=by decide):PE X (.Call (.Name x p) [] [] pos) (aau C):=by
 intro af s σ H Q I h;refine nX (tH I hg hm ?_ Gf);have I2:=aU.made (C:=C) I;have d_:wpAny (model X.prog X.w) X.A (call (.ref C) []) (EP X af σ Q) X.xe s:=by
  refine qR ?_;refine Gd I.pf M.makes M.init (fun self=>W.Looks.of_pure (W.oi_bind self)) ?_;have Y:=W.makes_of (M:=model X.prog X.w) I.pf M.makes;have t1:W.Looks (model X.prog X.w) ((s.heap.push W.emptyDict).push (W.instObj C s.heap.objs.size)) (typeOf (.ref (s.heap.objs.size+1))) (.ref C):=(W.Looks.ld (by heap_get)).andThen .now;have t2:W.Looks (model X.prog X.w) ((s.heap.push W.emptyDict).push (W.instObj C s.heap.objs.size)) (isInstance (.ref (s.heap.objs.size+1)) (.type "object")) true:=t1.andThen (Y.top.keeps fun b o e=>bP _ (bP _ e));refine xz W.oi_plain W.entry_oi (@W.check_slot (model X.prog X.w) _ _ _ "object.__init__" "object" "__init__" (.ref (s.heap.objs.size+1)) [] [] _ W.oi_kind W.oi_split t2 (W.oi_args (.ref (s.heap.objs.size+1))) ?_);rw[W.oi_run];refine wpAny_pure (And.intro rfl ?_);exact⟨.ref (s.heap.objs.size+1),_,I2,rfl,h _ _ (I.cY.fresh (xP _)) (I.cY.fresh (aP _)) (bf (lM _))⟩
 exact W.callWith_K0 I.pf M.keep d_
end
section
variable {X:Cx}
def WI:R2:=fun x y H Q=>∃a b xs ys,x=.ref a/\y=.ref b/\H a=some (.tup xs)/\H b=some (.tup ys)/\xs.length+ys.length<=sizeLine/\∀r H',aI H H'->H' r=some (.tup (xs++ys))->Q (.ref r) H'
theorem NI:nr X (binaryOp .Add) WI:=by
 intro af s σ H x y v u Q I rx ry h;obtain⟨a,b,xs,ys,rfl,rfl,ha,hb,hz,q⟩:=h;cases rx;cases ry;obtain⟨its,r1,p1,_⟩:=I.tuple (cu.of ha);obtain⟨k_,r2,p2,_⟩:=I.tuple (cu.of hb);obtain⟨⟨cls,dd,data,sl⟩,ho,hc,n,hd⟩:=id p1;obtain⟨⟨acp,dd2,data2,sl2⟩,UA,Uv,n2,R8⟩:=id p2;simp only at hc hd Uv R8;subst hc hd Uv R8;have e:its.toArray++k_.toArray=(its++k_).toArray:=by simp
 by_cases hv:xs=[]
 .subst hv;have hi:its=[]:=r1.tP.mpr rfl;exact concat_meets ⟨_,ho,rfl⟩ ⟨_,UA,rfl⟩ Cm seq_tuple_add BJ BH (BB _ _)
   (tuple_addW0 a b its.toArray k_.toArray n n2 dd dd2 sl sl2 (by simp[hi])) ⟨ho,UA,⟨.ref b,H,I,rfl,q b H (aI.refl _) hb⟩⟩
 .have hi:its≠[]:=fun z=>hv (r1.tP.mp z);by_cases hw:ys=[]
  .subst hw;have hj:k_=[]:=r2.tP.mpr rfl;exact concat_meets ⟨_,ho,rfl⟩ ⟨_,UA,rfl⟩ Cm seq_tuple_add BJ BH (BB _ _)
    (tuple_addW1 a b its.toArray k_.toArray n n2 dd dd2 sl sl2 (by simpa using hi) (by simp[hj])) ⟨ho,UA,⟨.ref a,H,I,rfl,q a H (aI.refl _) (by rw[jI];exact ha)⟩⟩
  .have hj:k_≠[]:=fun z=>hw (r2.tP.mp z);refine concat_meets ⟨_,ho,rfl⟩ ⟨_,UA,rfl⟩ Cm seq_tuple_add BJ BH (BB _ _)
    (tuple_addW2 a b its.toArray k_.toArray n n2 dd dd2 sl sl2 (by simpa using hi) (by simpa using hj) (by rw[ce,ce,<-r1.length,<-r2.length];exact hz)) ⟨ho,UA,?_⟩
   rw[e];have nf:=I.cY.fresh (aP s.heap.objs.size);refine⟨.ref s.heap.objs.size,_,I.laid (t':=s.toks) (o:=.tup (xs++ys)) (fun b ob q=>bP _ q) (aP _) ?_,rfl,q _ _ (aj nf) ae⟩;exact⟨by rw[dh];exact hz,_,r1.append r2,l0.new _ _⟩
theorem p7{prog:bL}{w:World}{A:br}{E:bV}{s:aR}{t sl:Addr}{items:bD}{vl vu:Value}{lo hi:lu}{Q:bV}(ht:IsTup s.heap t items)(hs:s.heap.IsSliceOf sl vl vu .none)(pl:IsPart vl lo)(pu:IsPart vu hi)(hw:HT.fY items.size 0 lo=0/\HT.fY items.size items.size hi=items.size)(h:Q (.ref t) s):wpAny (model prog w) A (getItem (.ref t) (.ref sl)) Q E s:=by
 obtain⟨os,L3,Yz,L4⟩:=id hs;have ZN:s.TypeIs (.ref sl) "slice":=⟨os,L3,Yz⟩
 unfold getItem;try with_reducible refine gK ?_
 first|refine au (wpAny_pure ?_)|skip
 refine au (wpAny_sequenceKey ht.typeIs (by decide) ?_);refine au (o5 (name:=Str.ofString "__getitem__") ht.typeIs wo
  (lN wo ht.typeIs entry_tuple_getitem ?_ (args_tuple_getitem _ _)))
 show wpAny _ _ (Builtin.Tuple.tupleItemsOf (.ref t) >>= _) _ _ s;refine au (tupleItemsOf_ ht ?_);refine au (qP ZN ?_);rw[ap (by decide)];refine au (HT.kh hs pl pu ?_);have aav:(((HT.fY items.size 0 lo:Nat):Int)==0&&(1:Int)==1&&(HT.fY items.size items.size hi-HT.fY items.size 0 lo)==items.size)=true:=by
  rw[hw.1,hw.2];simp
 show wpAny _ _ (if (((HT.fY items.size 0 lo:Nat):Int)==0&&(1:Int)==1&&(HT.fY items.size items.size hi-HT.fY items.size 0 lo)==items.size)=true then _ else _) _ _ s;rw[ap aav];refine au (Q:=_) (m:=Builtin.Tuple.tupleIsExact (.ref t)) ?_;unfold Builtin.Tuple.tupleIsExact;refine au (qP ht.typeIs ?_);refine wpAny_pure ?_;rw[ap (by decide)];exact au (fv (wpAny_pure ⟨_,rfl,wpAny_pure h⟩))
def aaw:V->Option Int->Option Int->Hp->VK->Prop:=fun x lo hi H Q=>∃a xs,x=.ref a/\H a=some (.tup xs)/\∀r H',aI H H'->H' r=some (.tup (iw xs lo hi))->Q (.ref r) H'
theorem KG{xs:bg}{lo hi:lu}(hw:HT.fY xs.length 0 lo=0/\HT.fY xs.length xs.length hi=xs.length):iw xs lo hi=xs:=by
 unfold iw;rw[hw.1,hw.2,uK,Ch,ja]
theorem Fj:YA X aaw:=by
 intro af s σ H x v vl vu lo hi sl Q I rx hs pl pu h;obtain⟨a,xs,rfl,hx,q⟩:=h;by_cases hw:HT.fY xs.length 0 lo=0/\HT.fY xs.length xs.length hi=xs.length
 .cases rx;obtain⟨its,r,ht,hz⟩:=I.tuple (cu.of hx);have e8:its.toArray.size=xs.length:=by rw[ce];exact r.length.symm
  refine⟨"tuple",_,wo.lookup,ht.typeIs,?_⟩;exact p7 ht hs pl pu (by rw[e8];exact hw) ⟨.ref a,H,I,rfl,q a H (aI.refl _) (by rw[KG hw];exact hx)⟩
 .exact QE af s σ H _ v vl vu lo hi sl Q I rx hs pl pu ⟨a,xs,rfl,cu.of hx,hw,fun p hp=>q p _ (aj hp) ae⟩
end
end L2
namespace ln
abbrev gu(ts:Ts)(h:Int):Nat:=(ts.filter fun t=>decide (t.1=h)).length
theorem Fk:gu (ts++us) h=gu ts h+gu us h:=by unfold gu;rw[ic,dh]
theorem yK:gu [(a,b),(b,a)] h=(if a=h then 1 else 0)+(if b=h then 1 else 0):=by
 unfold gu;by_cases c1:a=h <;> by_cases c2:b=h <;> simp[c1,c2]
theorem Fl:gu (et (ps++[(a,b)])) h=gu (et ps) h+((if a=h then 1 else 0)+(if b=h then 1 else 0)):=by
 rw[oG,Fk];exact congrArg _ yK
theorem NJ:et [(a,b)]=[(a,b),(b,a)]:=rfl
theorem NK(ha:a<n)(hb:b<n)(rX:a≠b):Bs n [(ci a,ci b),(ci b,ci a)]:=by
 have ne:ci a≠ci b:=fun e=>rX (d7 e);refine⟨?_,?_,?_,?_,?_⟩
 .rw[gI];refine⟨fun h=>?_,by simp⟩;have:=dA.mp h;exact ne (congrArg Prod.fst this)
 .intro t ht;rcases bq.mp ht with rfl|ht
  .exact⟨⟨by lia,by lia⟩,⟨by lia,by lia⟩⟩
  .rw[dA.mp ht];exact⟨⟨by lia,by lia⟩,⟨by lia,by lia⟩⟩
 .intro t ht;rcases bq.mp ht with rfl|ht
  .exact ne
  .rw[dA.mp ht];exact fun e=>ne e.symm
 .intro h;by_cases c1:ci a=h <;> by_cases c2:ci b=h <;> simp[c1,c2]
 .intro h;have:=yK (a:=ci a) (b:=ci b) (h:=h);show gu [(ci a,ci b),(ci b,ci a)] h<=8;rw[this];split <;> split <;> lia
theorem cJ.pair(F:cJ n (et ps))(ha:a<n)(hb:b<n)(rX:a≠b)(h1:(ci a,ci b)∉ps)(h2:(ci b,ci a)∉ps)(d1:gu (et ps) (ci a)<=7)(d2:gu (et ps) (ci b)<=7):cJ n (et (ps++[(ci a,ci b)])):=by
 rw[oG,NJ];have ne:ci a≠ci b:=fun e=>rX (d7 e);refine F.app (tW F.pre (NK ha hb rX) (fun t ht=>?_) fun h=>?_)
 .rcases bq.mp ht with rfl|ht
  .exact fun z=>(pS.mp z).elim h1 h2
  .rw[dA.mp ht];exact fun z=>(pS.mp z).elim h2 h1
 .show gu (et ps) h+gu [(ci a,ci b),(ci b,ci a)] h<=8;rw[yK];have m:=F.most h;by_cases c1:ci a=h
  .subst c1;rw[ap rfl,ao (fun e=>ne e.symm)];lia
  .by_cases c2:ci b=h
   .subst c2;rw[ao c1,ap rfl];lia
   .rw[ao c1,ao c2];exact m
theorem NL(Pzz:Bs n ts):Bs n (ts.map wb):=by
 have fl:∀h:Int,((ts.map wb).filter fun t=>decide (t.1=h)).length=(ts.filter fun t=>decide (t.2=h)).length:=fun h=>by
  rw[qK,aT];rfl
 have fl2:∀h:Int,((ts.map wb).filter fun t=>decide (t.2=h)).length=(ts.filter fun t=>decide (t.1=h)).length:=fun h=>by
  rw[qK,aT];rfl
 refine⟨?_,fun t ht=>?_,fun t ht=>?_,fun h=>?_,fun h=>?_⟩
 .refine gk.mpr (Pzz.nd.imp fun {x y} wT e=>wT ?_);have e1:=congrArg Prod.fst e;have e2:=congrArg Prod.snd e;exact iH e2 e1
 .obtain⟨u,hu,rfl⟩:=bB.mp ht;exact⟨(Pzz.rg u hu).2,(Pzz.rg u hu).1⟩
 .obtain⟨u,hu,rfl⟩:=bB.mp ht;exact fun e=>Pzz.ne u hu e.symm
 .rw[fl,fl2,Pzz.G9]
 .rw[fl,<-Pzz.G9];exact Pzz.most h
theorem R9(h:3<=m)(hk:k<m):pk m (pk m k)≠k:=by
 unfold pk;split <;> split <;> lia
theorem AX(n1:3<=n)(n2:n<=32)(pm:xs.Perm (List.range n)):cJ n (et (wa xs)):=by
 have F:=w_ (by lia) n2 pm;have nd:xs.Nodup:=pm.nodup_iff.mpr jH;have hl:xs.length=n:=by rw[pm.length_eq,dk]
 have lt:∀x∈xs,x<n:=fun x hx=>bY.mp (pm.mem_iff.mp hx);obtain⟨Pzz,one⟩:=yx nd lt (by lia);have Q:=NL Pzz;refine cJ.perm ?_ jj;refine F.app (tW Pzz Q (fun t ht hm=>?_) fun h=>?_)
 .obtain⟨u,hu,rfl⟩:=bB.mp ht;obtain⟨k,hk,rfl⟩:=pR hu;obtain⟨j,hj,e⟩:=pR hm;have e1:xs.getD k 0=xs.getD (pk xs.length j) 0:=d7 (congrArg Prod.fst e);have e2:xs.getD (pk xs.length k) 0=xs.getD j 0:=d7 (congrArg Prod.snd e);have pj:=w9 hj;have pk':=w9 hk;rw[dD hk,dD pj] at e1;rw[dD pk',dD hj] at e2;have i1:=kC nd hk pj e1;have i2:=kC nd pk' hj e2;rw[<-i2] at i1;exact R9 (by lia) hk i1.symm
 .have o1:=one h;have e:((wa xs).map wb).filter (fun t=>decide (t.1=h))=((wa xs).filter fun t=>decide (t.2=h)).map wb:=by rw[qK];rfl
  rw[e,aT,<-Pzz.G9];lia
def oO(xs:aQ):Ts:=(List.range xs.length).map fun k=>(ci (xs.getD k 0),ci (xs.getD ((k+1) % xs.length) 0))
theorem KH:((List.range m).map fun k=>(k+1) % m).Perm (List.range m):=by
 cases m with
 |zero=>exact iE _
 |succ m=>
  rw[lw,dt,List.map_singleton,Nat.mod_self];have e:(List.range m).map (fun k=>(k+1) % (m+1))=(List.range m).map (·+1):=j6 fun k hk=>jF (by have:=bY.mp hk;lia);rw[e];refine j5.trans ?_;rw[<-lw,qt];exact iE _
theorem mV:(oO xs).Perm (wa xs):=by
 have h:=(KH (m:=xs.length)).map fun k=>(ci (xs.getD (pk xs.length k) 0),ci (xs.getD k 0))
 rw[dQ] at h;refine List.Perm.trans (lS ?_) h;unfold oO;refine j6 fun k hk=>?_;have L7:=bY.mp hk;have:pk xs.length ((k+1) % xs.length)=k:=by
  by_cases c:k+1=xs.length
  .rw[c,Nat.mod_self];unfold pk;rw[ap rfl];lia
  .rw[jF (by lia)];unfold pk;rw[ao (by lia)];lia
 show _=(ci (xs.getD (pk xs.length ((k+1) % xs.length)) 0),ci (xs.getD ((k+1) % xs.length) 0));rw[this]
theorem cJ.round(F:cJ n ts)(nd:xs.Nodup)(lt:∀x∈xs,x<n)(c2:2<=xs.length)(hf:∀x∈xs,gu ts (ci x)<=7)(hn:∀t∈oO xs,t∉ts):cJ n (ts++oO xs):=by
 have Pzz:=Ha F.pre nd lt c2 (fun t ht=>?_) (fun t ht=>hn t (mV.mem_iff.mpr ht))
 .exact(F.app Pzz).perm (lH _ mV)
 .obtain⟨k,hk,rfl⟩:=pR ht;exact hf _ (mS (w9 hk))
end ln
namespace r9
open PySem L2 ln
abbrev R_:Stmt:=top 39
abbrev KI:Stmt:=top 40
abbrev KJ:Stmt:=top 52
structure UB(mg:cr):Prop where
 abs:mg "abs"=none
 divmod:mg "divmod"=none
 dict:mg "dict"=none
 zip:mg "zip"=none
 repr:mg "repr"=none
theorem HB:∀ {xs:bg},jv e xs []=decide (xs=[])
 |[]=>rfl
 |x::xs=>by simp[jv]
def bn(H:Hp)(p:Addr):Prop:=∃a b:Int,H p=some (.lst [.int a,.int b])/\0<=a/\0<=b/\b<4294967296
theorem bn.same(h:bn H p)(s:aI H H'):bn H' p:=let ⟨a,b,e,r⟩:=h;⟨a,b,s _ _ e,r⟩
theorem bn.full(h:bn H p):H p≠none:=by obtain⟨a,b,e,_⟩:=h;rw[e];intro z;cases z
theorem bn.ne(h:bn H p)(e:H q=none):q≠p:=by rintro rfl;exact h.full e
theorem bn.put(h:bn H p)(n:p≠q):bn (upd H q o) p:=let ⟨a,b,e,r⟩:=h;⟨a,b,by rw[aq n];exact e,r⟩
theorem bn.neT(h:bn H p)(e:H q=some (.tup xs)):q≠p:=by rintro rfl;obtain⟨a,b,z,_⟩:=h;rw[e] at z;cases z
theorem PO.sf(h:PO H zs)(s:aO p H H')(hp:bn H p):PO H' zs:=fun z hz=>s _ _ (h z hz) (hp.neT (h z hz))
theorem WJ{j:Int}(h1:0<j)(h2:j<2 ^ 200):Nat.log2 j.natAbs<200:=(Nat.log2_lt (by lia)).mpr (by lia)
theorem KL{X:Cx}:nr X (binaryOp .FloorDiv) (rI (fun _ j=>0<j/\j<2 ^ 200) fun i j=>.int (i / j)):=Ve fun i j _ _ _ _ _ hc q=>by
 have h1:(0:Int)<j:=hc.1;have h2:j<2 ^ 200:=hc.2;refine PyProof.Rows.floordiv_int (by lia) (by rw[By i (by lia)];exact q) (.inl (IF ?_));exact qM (WJ h1 h2) (by decide)
theorem yL{X:Cx}:gf X (.builtin "divmod") (fun xs H Q=>∃i j,xs=[.int i,.int j]/\(0<j/\j<2 ^ 200)/\∀p,H p=none->Q (.ref p) (upd H p (.tup [.int (i / j),.int (i % j)]))):=by
 intro af s σ H xs us Q I r h;obtain⟨i,j,rfl,⟨h1,h2⟩,q⟩:=h;obtain⟨u,w',rfl,⟨t,rfl⟩,⟨t',rfl⟩⟩:=Jb r;refine PyProof.Rows.divmod_int (by lia) ?_ (.inl (IF (qM (WJ h1 h2) (by decide))));rw[By i (by lia),Bx i (by lia)];have hn:H s.heap.objs.size=none:=I.cY.fresh (aP _);refine⟨.ref s.heap.objs.size,_,?_,rfl,q _ hn⟩;refine I.laid (fun b o e=>bP _ e) (aP _) ⟨by simp only[fj,List.length_nil];rw[ge];decide,[.int (i / j) s.toks,.int (i % j) (s.toks+1)],.cons ⟨_,rfl⟩ (.cons ⟨_,rfl⟩ .nil),?_⟩;exact⟨_,cX s.heap rfl,rfl,0,rfl,rfl⟩
section
variable {P:bL} {w:World} {K:a_} {mg:cr} {base:Heap}
theorem P0:aN ["_law_script","_law_k","_law_cell"] ["_law_script","_law_k"] (aw R_):=dW (by decide +kernel)
def KM(K:a_):Sp:=fun vs H Q _=>∃ (a:Addr) (ns:dG) (k:Nat),vs=[.ref a,.int k]/\a8 K H a (ns.map V.int)/\k<64/\∀ (r:Addr) (H':Hp),aI H H'->H r=none->bn H' r->Q (.ref r) H'
theorem Sa(F:iI K "_law_pot" "_law_pot" R_ f fd)(B:Bl mg)(B2:UB mg):bU P w K mg base bo 1 f fd ["_law_script","_law_k"] (KM K):=by
 refine F.ok P0 (fun vs H Q E h=>?_) (fun fX A outer s H vs Q E hr h=>?_)
 .obtain⟨a,ns,k,rfl,_⟩:=h;rfl
 .obtain⟨a,ns,k,rfl,hS,hk,q⟩:=h;refine⟨_,(ak (aW (i:=2) P0.nd rfl aL (zK (aY nw (pv 1) (aJ aV (by rfl) B.len fc (aa (pv 0) ag)) (bp _)) (aX aG (pv 0) (pv 1) (fun _ _=>rfl)) az))
   (av (bh (cH (aa (aJ (wA rfl) (by rfl) B.max BM (aa az (aa (a9 k8 (aJ zV (by rfl) B2.abs PyProof.Rows.boot_abs (aa (pv 2) ag)) (a9 Cw az az)) ag))) (aa (a9 dM (a9 dM (a9 je (aJ zV (by rfl) B2.abs PyProof.Rows.boot_abs (aa (pv 2) ag)) az) (a9 l8 az (pv 1))) az) ag)))))),?_⟩
  dsimp only;refine xa (fun σ Hc=>Hc=H/\∃c:Int,σ=[some (.ref a),some (.int k),some (.int c)]) ?_ ?_
  .rintro σ Hc ⟨rfl,c,rfl⟩;obtain⟨z,hz,z0⟩:∃z:Int,z=(if c<0 then -c else c)/\0<=z:=⟨_,rfl,by split <;> lia⟩
   have m0:0<=z % 2147483629:=uC _ (by decide);have m1:z % 2147483629<2147483629:=um _ (by decide);refine⟨_,rfl,c,rfl,?_⟩;rw[<-hz];refine⟨_,_,rfl,rfl,⟨by decide,by decide,by decide⟩,_,_,rfl,rfl,0,_,rfl,_,rfl,c,rfl,?_⟩;rw[<-hz];refine⟨_,_,rfl,rfl,(by show (0:Int)<2147483629;decide),_,rfl,_,_,rfl,rfl,.inl ⟨by decide,by decide⟩,_,_,rfl,rfl,_,_,rfl,rfl,by show 2<=sizeLine;decide,fun r CY=>?_⟩;exact q r _ (aj CY) CY ⟨_,_,ae,by split <;> lia,by lia,by lia⟩
  .intro N hN;refine⟨_,rfl,_,rfl,a,_,rfl,.inl hS,_,_,rfl,rfl,_,rfl,gU (fun e=>?_) (fun e=>hN _ _ ⟨rfl,0,rfl⟩)⟩;have Pp:k<ns.length:=by have:=fu e;rw[aT] at this;lia
   exact⟨_,rfl,_,rfl,a,_,_,.int ns[k],rfl,rfl,hS,aD (by rw[cA,cz Pp];rfl),hN _ _ ⟨rfl,_,rfl⟩⟩
theorem KO:aN ["_law_pot_here","_law_many","_law_digit"] ["_law_pot_here","_law_many"] (aw KI):=dW (by decide +kernel)
def ip:Sp:=fun vs H Q _=>∃ (p:Addr) (m:Nat),vs=[.ref p,.int m]/\0<m/\m<2 ^ 200/\bn H p/\∀ (d:Nat) (H':Hp),d<m->aO p H H'->bn H' p->Q (.int d) H'
theorem NM(F:iI K "_law_take" "_law_take" KI f fd)(B2:UB mg):bU P w K mg base bo 1 f fd ["_law_pot_here","_law_many"] ip:=by
 refine F.ok KO (fun vs H Q E h=>?_) (fun fX A outer s H vs Q E hr h=>?_)
 .obtain⟨p,m,rfl,_⟩:=h;rfl
 .obtain⟨p,m',rfl,m0',m1',⟨a,b,hp,a0,b0,b1⟩,q'⟩:=h;generalize hm:((m':Nat):Int)=m;have m0:0<m:=by lia
  have m1:m<2 ^ 200:=by lia
  have q:∀ (d a b:Int) (H':Hp),0<=d->d<m->0<=a->0<=b->b<4294967296->aO p H H'->H' p=some (.lst [.int a,.int b])->Q (.int d) H':=fun d a b H' h1 h2 h3 h4 h5 h6 h7=>by
   have:=q' d.toNat H' (by lia) h6 ⟨a,b,h7,h3,h4,h5⟩;rw[qw h1] at this;exact this
  refine⟨_,(ak (dS (aY Pa (aX aG (pv 0) az (fun _ _=>rfl)) az (bp _)) (ak (d8 (aJ yL (by rfl) B2.divmod PyProof.Rows.boot_divmod (aa (aX aG (pv 0) az (fun _ _=>rfl)) (aa (pv 1) ag))) (dX (n:=2) rfl (aE (gx (pv 0) az dY) (aE (aA (i:=2) KO.nd rfl aL) cM))))
    (av (bh (pv 2)))) b8)
   (ak (d8 (a9 je (a9 dM (a9 l8 (aX aG (pv 0) az (fun _ _=>rfl)) az) az) az) (gx (pv 0) az dY))
   (av (bh (a9 je (a9 KL (a9 je (a9 l8 (aX aG (pv 0) az (fun _ _=>rfl)) (aX aG (pv 0) az (fun _ _=>rfl))) az) az) (pv 1)))))),?_⟩
  have g0:zY [V.int a,V.int b] 0=some (.int a):=aD (j:=0) rfl;have g1:zY [V.int a,V.int b] 1=some (.int b):=aD (j:=1) rfl;refine⟨_,rfl,p,_,_,_,rfl,rfl,a8.of hp,g0,_,_,rfl,rfl,_,rfl,?_⟩;refine gU (fun e=>?_) (fun e=>?_)
  .refine⟨_,rfl,p,_,_,_,rfl,rfl,a8.of hp,g0,_,rfl,_,_,rfl,⟨m0,by lia⟩,fun t ht=>?_⟩;have npt:p≠t:=am hp ht;refine⟨t,_,rfl,cu.of ae,rfl,_,_,rfl,?_⟩;refine⟨_,rfl,p,_,0,0,rfl,rfl,by rw[aq npt];exact hp,eJ (j:=0) (by show 0<2;decide),_,_,rfl,rfl,_,rfl,?_⟩;exact q _ _ _ _ (uC _ (by lia)) (um _ m0) (Int.ediv_nonneg a0 (by lia)) b0 b1 (fun c o e n=>by rw[aq n,aq (am e ht)];exact e) ae
  .refine⟨_,rfl,p,_,_,_,rfl,rfl,a8.of hp,g1,_,_,rfl,rfl,.inl ⟨by lia,by lia⟩,_,_,rfl,rfl,_,_,rfl,rfl,(by show (0:Int)<2147483647;decide),?_⟩;refine⟨_,rfl,p,_,1,1,rfl,rfl,hp,eJ (j:=1) (by show 1<2;decide),?_⟩;have c0:0<=(b*48271+12345) % 2147483647:=uC _ (by decide);have c1:(b*48271+12345) % 2147483647<2147483647:=um _ (by decide);refine⟨_,rfl,p,_,_,_,rfl,rfl,a8.of ae,aD (j:=1) rfl,_,rfl,p,_,_,_,rfl,rfl,a8.of ae,aD (j:=1) rfl,_,_,rfl,rfl,.inl ⟨by lia,by lia⟩,_,_,rfl,rfl,(by show (0:Int)<2147483629;decide),_,_,rfl,rfl,⟨by decide,by decide⟩,_,rfl,_,_,rfl,rfl,m0,?_⟩;exact q _ _ _ _ (uC _ (by lia)) (um _ m0) a0 c0 (by lia) aO.upd ae
theorem AY:∀ {xs:aQ} {k:Nat},(NV xs).eraseIdx k=NV (xs.eraseIdx k)
 |[],_=>rfl
 |x::xs,0=>rfl
 |x::xs,k+1=>congrArg (V.int (x:Nat)::·) (AY (xs:=xs) (k:=k))
theorem vE:∀ {ls:aQ} {k:Nat} (hk:k<ls.length),(ls[k]::ls.eraseIdx k).Perm ls
 |x::xs,0,_=>iE _
 |x::xs,k+1,h=>(List.Perm.swap x _ _).trans ((vE (ls:=xs) (k:=k) (by simpa using h)).cons x)
theorem KR{xs ls:aQ}{k v:Nat}{r:aQ}(p:(xs++ls).Perm r)(h:ls[k]?=some v):(xs++[v]++ls.eraseIdx k).Perm r:=by
 refine List.Perm.trans ?_ p;rw[dP];refine lH _ ?_;obtain⟨hk,e⟩:=eR.mp h;subst e;exact vE hk
theorem Sb:aN ["_law_pot_here"] ["_law_pot_here"] (aw KJ):=dW (by decide +kernel)
def DL:Sp:=fun vs H Q _=>∃ (p:Addr),vs=[.ref p]/\bn H p/\∀ (d:Nat) (H':Hp),d<10 ^ 18->aO p H H'->bn H' p->Q (.int d) H'
theorem NN(F:iI K "_law_beat" "_law_beat" KJ f fd)(D:d9 P w K mg base bo 1 "_law_take" ["_law_pot_here","_law_many"] ip):bU P w K mg base bo 2 f fd ["_law_pot_here"] DL:=by
 refine F.ok Sb (fun vs H Q E h=>?_) (fun fX A outer s H vs Q E hr h=>?_)
 .obtain⟨p,rfl,_⟩:=h;rfl
 .obtain⟨p,rfl,hp,q⟩:=h;refine⟨_,(av (bh (aX aG (cH (aa (aH D hr aM (aa (pv 0) (aa az ag))) (aa (aH D hr aM (aa (pv 0) (aa (a9 Cw az az) ag))) ag))) (aH D hr aM (aa (pv 0) (aa az ag))) (fun _ _=>rfl)))),?_⟩;refine⟨_,rfl,p,40,rfl,by decide,by decide,hp,fun d1 H1 hd1 s1 mY=>⟨_,rfl,_,_,rfl,rfl,⟨by decide,by decide,by decide⟩,p,10 ^ 18,rfl,by decide,by decide,mY,fun d2 H2 R8 s2 vP=>⟨by show 2<=sizeLine;decide,fun l hl=>?_⟩⟩⟩;have sl:=aj (o:=.lst [.int (d1:Int),.int (d2:Int)]) hl;refine⟨_,rfl,p,2,rfl,by decide,by decide,vP.same sl,fun d3 H3 hd3 s3 nE=>?_⟩;have s4:=((s1.trans s2).trans (aO.of sl)).trans s3;have hl3:=s3 _ _ (ae (H:=H2) (a:=l) (o:=.lst [.int (d1:Int),.int (d2:Int)])) (vP.ne hl);rcases(show d3=0\/d3=1 by lia) with rfl|rfl
  .exact⟨l,_,_,_,rfl,rfl,a8.of hl3,aD (j:=0) rfl,q d1 H3 (by lia) s4 nE⟩
  .exact⟨l,_,_,_,rfl,rfl,a8.of hl3,aD (j:=1) rfl,q d2 H3 R8 s4 nE⟩
end
end r9
namespace ln
theorem vv.zero(Tr:vv n (List.range n) k ts)(hk:k<=n)(h:k<=x):gu ts (ci x)=0:=by
 unfold gu;rw[uf.mpr];· rfl
 intro t ht z;obtain⟨a,b,ha,hb,rfl⟩:=Tr.ends t ht;rw[List.take_range,Cb hk] at ha;have:=bY.mp ha;have:=d7 (fu z);lia
def ren(xs:aQ)(t:lG):Int×Int:=(ci (xs.getD t.1.toNat 0),ci (xs.getD t.2.toNat 0))
theorem vF{n:Nat}{xs:aQ}(pm:xs.Perm (List.range n)){a b:Nat}(ha:a<n)(hb:b<n)(e:xs.getD a 0=xs.getD b 0):a=b:=by
 have xl:xs.length=n:=by have:=pm.length_eq;rwa [dk] at this
 rw[dD (by lia),dD (by lia)] at e;exact kC (pm.nodup_iff.mpr jH) (by lia) (by lia) e
theorem P1{n:Nat}{xs:aQ}(pm:xs.Perm (List.range n)){a:Nat}(ha:a<n):xs.getD a 0<n:=by
 have xl:xs.length=n:=by have:=pm.length_eq;rwa [dk] at this
 exact bY.mp (pm.mem_iff.mp (mS (by lia)))
theorem KS{n:Nat}{xs:aQ}(pm:xs.Perm (List.range n)){b:Nat}(hb:b<n):∃a,a<n/\xs.getD a 0=b:=by
 have xl:xs.length=n:=by have:=pm.length_eq;rwa [dk] at this
 obtain⟨a,ha,e⟩:=nQ.mp (pm.mem_iff.mpr (bY.mpr hb));exact⟨a,by lia,by rw[dD ha];exact e⟩
theorem WL(h:T ts a b):T (ts.map (ren xs)) (xs.getD a 0) (xs.getD b 0):=bB.mpr ⟨_,h,rfl⟩
theorem AZ:∀ {k b:Nat},fU ts k a b->fU (ts.map (ren xs)) k (xs.getD a 0) (xs.getD b 0)
 |0,b,h=>congrArg (fun x=>xs.getD x 0) (show a=b from h)
 |k+1,b,⟨c,w,t⟩=>⟨_,AZ w,WL t⟩
theorem fV:∀ {l:List α},(∀x∈l,c (f x)=d x)->((l.map f).filter c).length=(l.filter d).length
 |[],_=>rfl
 |x::l,h=>by
  rw[gJ,eU,eU,h x cK];have ih:=fV (l:=l) fun y hy=>h y (dq _ hy);split <;> simp[ih]
theorem cJ.ren{n:Nat}{ts:Ts}{xs:aQ}(F:cJ n ts)(pm:xs.Perm (List.range n)):cJ n (ts.map (ren xs)):=by
 have P3:∀t∈ts,∃a b:Nat,a<n/\b<n/\t=(ci a,ci b):=fun t ht=>by
  obtain⟨⟨a0,a1⟩,⟨b0,b1⟩⟩:=F.rg t ht;exact⟨t.1.toNat,t.2.toNat,by lia,by lia,iH (qw a0).symm (qw b0).symm⟩
 have c1:∀h:Int,(∃a,a<n/\h=ci (xs.getD a 0))\/∀a,a<n->ci (xs.getD a 0)≠h:=fun h=>by
  by_cases z:∃a,a<n/\h=ci (xs.getD a 0)
  .exact .inl z
  .exact .inr fun a ha e=>z ⟨a,ha,e.symm⟩
 have cf:∀h:Int,((ts.map (ln.ren xs)).filter fun t=>decide (t.1=h)).length=((ts.map (ln.ren xs)).filter fun t=>decide (t.2=h)).length/\((ts.map (ln.ren xs)).filter fun t=>decide (t.1=h)).length<=8:=fun h=>by
  rcases c1 h with ⟨a,ha,rfl⟩|no
  .rw[fV (d:=fun t=>decide (t.1=ci a)) fun t ht=>?_,fV (d:=fun t=>decide (t.2=ci a)) fun t ht=>?_]
   .exact⟨F.G9 _,F.most _⟩
   .obtain⟨x,y,hx,hy,rfl⟩:=P3 t ht;exact uz.mpr ⟨fun e=>congrArg ci (vF pm hy ha (d7 e)),fun e=>by have:=d7 e;show ci (xs.getD y 0)=_;rw[this]⟩
   .obtain⟨x,y,hx,hy,rfl⟩:=P3 t ht;exact uz.mpr ⟨fun e=>congrArg ci (vF pm hx ha (d7 e)),fun e=>by have:=d7 e;show ci (xs.getD x 0)=_;rw[this]⟩
  .rw[fV (d:=fun _=>false) fun t ht=>?_,fV (d:=fun _=>false) fun t ht=>?_]
   .have z:ts.filter (fun _=>false)=[]:=uf.mpr fun x _ q=>nomatch q;rw[z];exact⟨rfl,cp _⟩
   .obtain⟨x,y,hx,hy,rfl⟩:=P3 t ht;exact gY (no y hy)
   .obtain⟨x,y,hx,hy,rfl⟩:=P3 t ht;exact gY (no x hx)
 refine⟨F.n1,F.n2,?_,fun t ht=>?_,fun t ht=>?_,fun h=>(cf h).1,fun h=>(cf h).2,fun a b ha hb=>?_⟩
 .refine(gk.mpr (F.nd.imp_of_mem fun {t u} ht hu ne e=>ne ?_));obtain⟨x,y,hx,hy,rfl⟩:=P3 t ht;obtain⟨x',y',qU,YJ,rfl⟩:=P3 u hu;have e1:x=x':=vF pm hx qU (d7 (congrArg Prod.fst e));have e2:y=y':=vF pm hy YJ (d7 (congrArg Prod.snd e));rw[e1,e2]
 .obtain⟨u,hu,rfl⟩:=bB.mp ht;obtain⟨x,y,hx,hy,rfl⟩:=P3 u hu;have:=P1 pm hx;have:=P1 pm hy;exact⟨⟨by show (0:Int)<=ci _;lia,by show ci (xs.getD x 0)<_;lia⟩,⟨by show (0:Int)<=ci _;lia,by show ci (xs.getD y 0)<_;lia⟩⟩
 .obtain⟨u,hu,rfl⟩:=bB.mp ht;have:=F.ne u hu;obtain⟨x,y,hx,hy,rfl⟩:=P3 u hu;intro e;exact this (congrArg ci (vF pm hx hy (d7 e)))
 .obtain⟨a',QL,rfl⟩:=KS pm ha;obtain⟨b',v6,rfl⟩:=KS pm hb;obtain⟨k,w⟩:=F.con a' b' QL v6;exact⟨k,AZ w⟩
theorem KU:∀ {xs:List α},(xs.flatMap fun x=>f x++g x).Perm (xs.flatMap f++xs.flatMap g)
 |[]=>.refl _
 |x::xs=>by
  rw[nY,nY,nY,dP,dP];refine lH _ (((KU (xs:=xs)).append_left _).trans ?_);rw[<-dP,<-dP];exact xt _ j5
theorem yM{α β γ:Type}{f:α->β->List γ}{ys:List β}:∀ {xs:List α},(xs.flatMap fun x=>ys.flatMap (f x)).Perm (ys.flatMap fun y=>xs.flatMap fun x=>f x y)
 |[]=>by
  rw[List.flatMap_nil,List.flatMap_eq_nil_iff.mpr fun y _=>List.flatMap_nil]
 |x::xs=>by
  rw[nY];refine((yM (xs:=xs)).append_left _).trans ?_;refine(KU (xs:=ys)).symm.trans (lS ?_);exact congrArg (fun g=>ys.flatMap g) (funext fun y=>(nY (f:=fun x=>f x y)).symm)
theorem xb:∀ {l:List α},(l.filter c).map f=l.flatMap fun x=>if c x=true then [f x] else []
 |[]=>rfl
 |x::l=>by
  rw[eU,nY,<-xb (l:=l)];by_cases h:c x=true
  .rw[ap h,ap h];rfl
  .rw[ao h,ao h];rfl
def A0(ns:aQ)(i h:Nat):List (Nat×Nat):=(List.range i).flatMap fun j=>if h / pr (ns.take j) % ns.getD j 0+1<ns.getD j 0 then [(h,h+pr (ns.take j))] else []
theorem KW{m:Nat}{ns:aQ}:((List.range m).flatMap (A0 ns ns.length)).Perm ((List.range ns.length).flatMap fun j=>E9 m (pr (ns.take j)) (ns.getD j 0)):=by
 refine(yM (f:=fun h j=>if h / pr (ns.take j) % ns.getD j 0+1<ns.getD j 0 then [(h,h+pr (ns.take j))] else [])).trans (lS ?_);refine congrArg (fun f=>(List.range ns.length).flatMap f) (funext fun j=>?_);unfold E9;rw[xb];refine congrArg (fun f=>(List.range m).flatMap f) (funext fun h=>?_);simp
def NO(b i h:Nat):List (Nat×Nat):=(List.range (b-h / b ^ i % b-1)).map fun k=>(h,h+(k+1)*b ^ i)
def HC(b i h:Nat):List (Nat×Nat):=(List.range i).flatMap fun j=>NO b j h
theorem KY{f b:Nat}:((List.range (b ^ f)).flatMap (HC b f)).Perm (vx f b):=yM (f:=fun h j=>NO b j h)
theorem mr(h:ps.Perm qs):(et ps).Perm (et qs):=by
 unfold et;exact List.Perm.flatMap_right _ h
theorem HD(n1:3<=n)(n2:n<=32):cJ n (et (oO (List.range n))):=(AX n1 n2 (iE _)).perm (mr mV)
end ln
namespace r9
open PySem L2 ln
theorem mw:∀ {k:Nat},(List.replicate k [x]).flatten=List.replicate k x
 |0=>rfl
 |k+1=>by rw[nV,uw,mw,nV];rfl
theorem xc{A B:Prop}{b:Bool}(hb:b=true)(h:A):if b=true then A else B:=by rw[ap hb];exact h
theorem sg{A B:Prop}{b:Bool}(hb:b=false)(h:B):if b=true then A else B:=by rw[ao (by rw[hb];decide)];exact h
def p8(H:Hp)(D:Addr)(ts:Ts)(H2:Hp):Prop:=aI H H2/\∃zs:Zs,H2 D=some (.lst (zr zs))/\PO H2 zs/\zp zs=ts
theorem NP(c:Nat->Bool)(c_:rQ)(hD:H0 D=none)(hn:n<=1000)(h0:c_ σB)(hs:∀x σ H (Kt:j_) (Kf:iu),x<n->c_ σ->aI H0 H->(∀σ2 H2,c_ σ2->aI H H2->c x=true->Kt (.int (lo+(x:Nat))) σ2 H2)->(∀σ2 H2,c_ σ2->aI H H2->c x=false->Kf σ2 H2)->
   g (.int (lo+(x:Nat))) σ H fun σ2 H2=>tt σ2 H2 fun b H3=>if b=true then te σ2 H3 fun v H4=>Kt v σ2 H4 else Kf σ2 H3)(hd:∀H,aI H0 H->H D=some (.lst (((List.range n).filter c).map fun (x:Nat)=>V.int (lo+(x:Int))))->d_ H):iy (H_ lo n) g tt te D d_ σB (upd H0 D (.lst [])):=by
 refine fJ (fun i ys σ H=>c_ σ/\aI H0 H/\H D=some (.lst ys)/\ys=((List.range i).filter c).map fun (x:Nat)=>V.int (lo+(x:Int))) ⟨h0,aj hD,ae,rfl⟩ ?_ ?_
 .rintro i ys σ H Kt Kf hi ⟨sh,sm,kD,rfl⟩ kt kf;refine hs i σ H Kt Kf hi sh sm (fun σ2 H2 yD s2 e=>?_) (fun σ2 H2 yD s2 e=>?_)
  .refine kt _ _ _ (s2 _ _ kD) ?_ ⟨yD,bj (sm.trans s2) hD,ae,?_⟩
   .rw[aT];refine eK (iL _ _) ?_;rw[dk];exact bv (show i<1000 by lia) (by decide)
   .rw[lw,ic,dt];simp[eU,e]
  .refine kf _ _ ⟨yD,sm.trans s2,s2 _ _ kD,?_⟩;rw[lw,ic];simp[eU,e]
 .rintro ys σ H ⟨_,sm,kD,rfl⟩;exact hd H sm kD
theorem rE:∀ {xs:aQ} {j x:Nat},(NV xs).set j (.int (x:Int))=NV (xs.set j x)
 |[],_,_=>rfl
 |y::ys,0,x=>rfl
 |y::ys,j+1,x=>congrArg (V.int (y:Int)::·) (rE (xs:=ys) (j:=j) (x:=x))
theorem iT(h:j<xs.length):(NV xs)[j]?=some (.int ((xs.getD j 0:Nat):Int)):=by
 unfold NV;rw[cA,cw,cz h];rfl
def eS(n:Nat)(ps:Ts):List Nat:=(List.range n).map fun (h:Nat)=>gu (et ps) (ci h)
theorem iC:(eS n ps).length=n:=by unfold eS;rw[aT,dk]
theorem kH(hh:h<n):(eS n ps).getD h 0=gu (et ps) (ci h):=by
 unfold eS;rw[cw,cA,f_ hh];rfl
theorem A1(ha:a<n)(hb:b<n)(rX:a≠b):((eS n ps).set a (gu (et ps) (ci a)+1)).set b (gu (et ps) (ci b)+1)=eS n (ps++[(ci a,ci b)]):=by
 have ne:∀x y:Nat,ci x=ci y->x=y:=fun x y e=>d7 e;refine lL fun i=>?_;by_cases hi:i<n
 .have g:∀qs:Ts,(eS n qs)[i]?=some (gu (et qs) (ci i)):=fun qs=>by unfold eS;rw[cA,f_ hi];rfl
  rw[g,Fl,uv,uv,g,jb,iC];by_cases c1:b=i
  .subst c1;rw[ap rfl,ap hb,ao (fun z=>rX (ne _ _ z)),ap rfl,jJ]
  .rw[ao c1,ao (fun z=>c1 (ne _ _ z))];by_cases c2:a=i
   .subst c2;rw[ap rfl,ap ha,ap rfl]
   .rw[ao c2,ao (fun z=>c2 (ne _ _ z))];rfl
 .rw[f9 (by rw[jb,jb,iC];lia),f9 (by rw[iC];lia)]
theorem KZ:List.replicate n (V.int 0)=NV (eS n []):=by
 refine lL fun i=>?_;unfold NV eS;rw[dQ,ud,cA];by_cases hi:i<n
 .rw[ap hi,f_ hi];rfl
 .rw[ao hi,f9 (by rw[dk];lia)];rfl
theorem vG(Pv:zJ)(h0:Pv 0 [] σB H0)(hl:∀i ys σ H,i<=xs.length->Pv i ys σ H->cu K H a xs)(hs:∀i x ys σ H (Kt:j_) (Kf:iu),xs[i]?=some x->Pv i ys σ H->
   (∀v σ2 H4,H4 D=some (.lst ys)->ys.length<sizeLine->Pv (i+1) (ys++[v]) σ2 (upd H4 D (.lst (ys++[v])))->Kt v σ2 H4)->(∀σ2 H3,Pv (i+1) ys σ2 H3->Kf σ2 H3)->
   g x σ H fun σ2 H2=>tt σ2 H2 fun b H3=>if b=true then te σ2 H3 fun v H4=>Kt v σ2 H4 else Kf σ2 H3)(hd:∀ys σ H,Pv xs.length ys σ H->d_ H):iy (ZD K a) g tt te D d_ σB H0:=by
 refine⟨fun i m σ H=>m=xs.length-i/\i<=xs.length/\∃ys,Pv i ys σ H,⟨xs.length,by simp,cp _,[],h0⟩,?_⟩;rintro i m σ H ⟨rfl,hi,ys,p⟩;have q:=hl i ys σ H hi p;by_cases eX:i<xs.length
 .refine .inr ⟨⟨xs,xs[i],q,by simp[eX]⟩,?_⟩;rintro x H' ⟨rfl,y⟩;exact hs i x ys σ _ (fun v σ2 H4=>∃ys,H4 D=some (.lst ys)/\ys.length<sizeLine/\∃m',m'<xs.length-i/\m'=xs.length-(i+1)/\i+1<=xs.length/\∃v7,Pv (i+1) v7 σ2 (upd H4 D (.lst (ys++[v]))))
   (fun σ2 H3=>∃m',m'<xs.length-i/\m'=xs.length-(i+1)/\i+1<=xs.length/\∃v7,Pv (i+1) v7 σ2 H3) (y xs q) p
   (fun v σ2 H4 z1 z2 z3=>⟨ys,z1,z2,_,by lia,rfl,eX,_,z3⟩) (fun σ2 H3 z=>⟨_,by lia,rfl,eX,_,z⟩)
 .have e:i=xs.length:=by lia
  subst e;exact .inl ⟨⟨xs,q,aP _⟩,hd ys σ H p⟩
theorem NQ(c:Int×Int->Bool)(c_:rQ)(ha:H0 a=some (.lst (zr zs)))(hD:H0 D=none)(hn:zs.length<=1000)(h0:c_ σB)(hs:∀z σ H (Kt:j_) (Kf:iu),z∈zs->c_ σ->aI H0 H->(∀σ2 H2,c_ σ2->aI H H2->c z.2=true->Kt (.ref z.1) σ2 H2)->(∀σ2 H2,c_ σ2->aI H H2->c z.2=false->Kf σ2 H2)->
   g (.ref z.1) σ H fun σ2 H2=>tt σ2 H2 fun b H3=>if b=true then te σ2 H3 fun v H4=>Kt v σ2 H4 else Kf σ2 H3)(hd:∀H,aI H0 H->H D=some (.lst (zr (zs.filter fun z=>c z.2)))->d_ H):iy (I0 K a) g tt te D d_ σB (upd H0 D (.lst [])):=by
 refine fZ (xs:=zr zs) (fun i ys σ H=>c_ σ/\aI H0 H/\H D=some (.lst ys)/\ys=zr ((zs.take i).filter fun z=>c z.2)) ⟨h0,aj hD,ae,rfl⟩ (fun i ys σ H _ z=>a8.of (z.2.1 _ _ ha)) ?_ ?_
 .rintro i x ys σ H Kt Kf hx ⟨sh,sm,kD,rfl⟩ kt kf;obtain⟨z,hz,rfl⟩:=vy hx;have hi:i<zs.length:=(eR.mp hz).1;have tk:zs.take (i+1)=zs.take i++[z]:=by rw[gW,hz];rfl
  refine hs z σ H Kt Kf (dz hz) sh sm (fun σ2 H2 yD s2 e=>?_) (fun σ2 H2 yD s2 e=>?_)
  .refine kt _ _ _ (s2 _ _ kD) ?_ ⟨yD,bj (sm.trans s2) hD,ae,?_⟩
   .rw[dZ];exact eK (iL _ _) (eK (xy _ _) (bv (show i<1000 by lia) (by decide)))
   .rw[tk,ic,eO];simp[eU,e,zr]
  .refine kf _ _ ⟨yD,sm.trans s2,s2 _ _ kD,?_⟩;rw[tk,ic];simp[eU,e]
 .rintro ys σ H ⟨_,sm,kD,rfl⟩;rw[dZ,ja] at kD;exact hd H sm kD
theorem HF:zp (zs.filter fun z=>c z.2)=(zp zs).filter c:=by
 unfold zp;rw[qK];rfl
theorem we:(zr (zs.filter fun z=>c z.2)).length=((zp zs).filter c).length:=by rw[dZ,<-b_,HF]
section
variable {K:a_}
theorem Fm(po:PO H zs):zs.length=(zp zs).length/\∀i,i<(zp zs).length->cu K H ((zs.map (·.1)).getD i 0) [.int ((zp zs).getD i (0,0)).1,.int ((zp zs).getD i (0,0)).2]:=by
 refine⟨b_.symm,fun i hi=>?_⟩;rw[b_] at hi;rw[AO hi,Fc hi];exact cu.of (po _ (ie hi))
end
theorem eH:(List.range (n+1)).flatMap f=(List.range n).flatMap f++f n:=by
 rw[lw,List.flatMap_append];simp
theorem t9:∀ {ns:aQ} {x:Nat},pr (ns++[x])=pr ns*x
 |[],x=>by show x*1=1*x;lia
 |n::ns,x=>by show n*pr (ns++[x])=n*pr ns*x;rw[t9,Nat.mul_assoc]
theorem K0:∀ {ns:aQ} {st:Nat},bx m st ns=(List.range ns.length).flatMap fun j=>E9 m (st*pr (ns.take j)) (ns.getD j 0)
 |[],st=>rfl
 |n::ns,st=>by
  show E9 m st n++bx m (st*n) ns=_;rw[fj,qt,nY,K0 (ns:=ns)];congr 1
  .show E9 m st n=E9 m (st*1) n;rw[xO]
  .rw[List.flatMap_map];congr 1;funext j;show _=E9 m (st*(n*pr (ns.take j))) (ns.getD j 0);rw[Nat.mul_assoc]
theorem rc{α:Type}{g:Nat->List α}{M:Nat}(hg:∀x,(g x).length<=M):∀ {m:Nat},((List.range m).flatMap g).length<=m*M
 |0=>cp _
 |m+1=>by rw[eH,dh,Nat.succ_mul];have:=hg m;have:=rc hg (m:=m);lia
theorem jl:∀ {ns:aQ} {i:Nat},(∀x∈ns,1<=x)->pr (ns.take i)<=pr ns
 |[],i,_=>by rw[List.take_nil];exact aP _
 |n::ns,0,h=>by
  show 1<=n*pr ns;have:∀ {l:aQ},(∀x∈l,1<=x)->1<=pr l:=fun {l}=>by
   induction l with
   |nil=>intro _;exact aP _
   |cons x l ih=>intro hl;exact uO (hl x cK) (ih fun y hy=>hl y (dq _ hy))
  exact this (l:=n::ns) h
 |n::ns,i+1,h=>by
  show n*pr (ns.take i)<=n*pr ns;exact uj n (jl fun x hx=>h x (dq _ hx))
theorem p8.ext(hD:H D=none)(sm:aI H H2)(h1:H2 D=some (.lst (zr zy)))(DM:PO H2 zy)(ez:zp zy=ts)(s3:aI H2 H3)(po:PO H3 zs)(e:zp zs=us):p8 H D (ts++us) (upd H3 D (.lst (zr zy++zr zs))):=
 ⟨bj (sm.trans s3) hD,zy++zs,by rw[ae,eO],PO.putL (xs:=zr zy) ((DM.same s3).append po) (s3 _ _ h1),by rw[eQ,ez,e]⟩
theorem DN{xs:bg}{k:Nat}:iw xs none (some (k:Int))=xs.take k:=by
 have h1:HT.fY xs.length 0 none=0:=rfl;have h2:HT.fY xs.length xs.length (some (k:Int))=min k xs.length:=by
  unfold HT.fY;simp;try lia
 unfold iw;rw[h1,h2,Ch,uK,List.take_eq_take_iff];simp;try lia
theorem vH{xs:bg}{k:Nat}:iw xs (some (k:Int)) none=xs.drop k:=by
 have h1:HT.fY xs.length 0 (some (k:Int))=min k xs.length:=by
  unfold HT.fY;simp;try lia
 have h2:HT.fY xs.length xs.length none=xs.length:=rfl;unfold iw;rw[h1,h2];by_cases c:k<=xs.length
 .rw[Cb c];exact qr (by rw[kM];exact aP _)
 .rw[Nat.min_eq_right (by lia),List.drop_of_length_le (aP _),List.drop_of_length_le (by lia),List.take_nil]
theorem Fn(ms:List β)(e G:β->V)(c_:rQ)(ha:H0 a=some (.lst (ms.map e)))(hD:H0 D=none)(hn:ms.length<=1000)(h0:c_ σB)(hs:∀m σ H (R:j_) (Kf:iu),m∈ms->c_ σ->aI H0 H->(∀σ2 H2,c_ σ2->aI H H2->R (G m) σ2 H2)->
   g (e m) σ H fun σ2 H2=>tt σ2 H2 fun b H3=>if b=true then te σ2 H3 fun v H4=>R v σ2 H4 else Kf σ2 H3)(hd:∀H,aI H0 H->H D=some (.lst (ms.map G))->d_ H):iy (I0 K a) g tt te D d_ σB (upd H0 D (.lst [])):=by
 refine fZ (xs:=ms.map e) (fun i ys σ H=>c_ σ/\aI H0 H/\H D=some (.lst ys)/\ys=(ms.take i).map G) ⟨h0,aj hD,ae,rfl⟩ (fun i ys σ H _ z=>a8.of (z.2.1 _ _ ha)) ?_ ?_
 .rintro i x ys σ H Kt Kf hx ⟨sh,sm,kD,rfl⟩ kt kf;rw[cA] at hx;cases hz:ms[i]? with
  |none=>rw[hz] at hx;cases hx
  |some m=>
   rw[hz] at hx;obtain rfl:e m=x:=cB hx;refine hs m σ H Kt Kf (dz hz) sh sm (fun σ2 H2 yD s2=>?_);refine kt _ _ _ (s2 _ _ kD) ?_ ⟨yD,bj (sm.trans s2) hD,ae,?_⟩
   .rw[aT];exact eK (BO _ _) (eK hn (by decide))
   .rw[gW,hz,BY,dt];rfl
 .rintro ys σ H ⟨_,sm,kD,rfl⟩;rw[aT,ja] at kD;exact hd H sm kD
abbrev K1:Stmt:=top 41
abbrev K2:Stmt:=top 44
theorem HG:(["_law_k","_law_many"]:bQ).Nodup:=by decide +kernel
theorem rF:(["_law_house","_law_degrees"]:bQ).Nodup:=by decide +kernel
section
variable {P:bL} {w:World} {K:a_} {mg:cr} {base:Heap}
theorem Sd:aN ["_law_many"] ["_law_many"] (aw K1):=dW (by decide +kernel)
def yN:Sp:=fun vs H Q _=>∃n:Nat,vs=[.int n]/\2<=n/\n<=32/\∀ (r:Addr) (zs:Zs) (H':Hp),aI H H'->H r=none->H' r=some (.lst (zr zs))->PO H' zs->zp zs=oO (List.range n)->Q (.ref r) H'
theorem NR(F:iI K "_law_ring" "_law_ring" K1 f fd)(B:Bl mg):bU P w K mg base bo 1 f fd ["_law_many"] yN:=by
 refine F.ok Sd (fun vs H Q E h=>?_) (fun fX A outer s H vs Q E hr h=>?_)
 .obtain⟨n,rfl,_⟩:=h;rfl
 .obtain⟨n,rfl,n1,n2,q⟩:=h;refine'⟨_,(av (bh ?c1)),?_⟩;case c1=>
   refine' cQ (g:=(bH 0)) (te:=(sG (bJ (bb 0) (bJ (jS (rI (fun _ j=>0<j) fun i j=>.int (i % j)) (jS (zR fun i j=>.int (i+j)) (bb 0) (tC (.int 1))) (bb 1)) h_)))) (NB:=["_law_k","_law_many"]) (src:=[none,some 0]) (bz (by kernel_rfl)) rfl (b9 rfl B.range (aa (pv 0) ag)) ?g ?t ?e;case g=>exact fun cl C s₃ H₃ fp=>(aA (i:=0) HG rfl aL cW)
   case t=>exact fun cl C s₃ H₃ fp=>dC
   case e=>exact fun cl C s₃ H₃ fp=>(bT (aa (pv 0) (aa (a9 je (a9 dM (pv 0) az) (pv 1)) ag)))
  refine⟨_,rfl,(n:Int),rfl,by lia,by lia,fun T0 Se=>?_⟩;refine AQ (lo:=0) (n:=n) (fun k=>(ci k,ci ((k+1) % n))) (fun σ=>∃x,σ=[x,some (.int n)]) Se (by lia) ⟨_,rfl⟩ ?_ ?_
  .rintro k σ H2 R Kf hk ⟨x,rfl⟩ PJ kt;rw[iG];exact⟨_,rfl,_,rfl,_,_,rfl,rfl,_,rfl,_,_,rfl,rfl,(by show (0:Int)<(n:Int);lia),by show 2<=sizeLine;decide,fun t ht=>kt _ _ ⟨_,rfl⟩ ht⟩
  intro zs H2 s2 hT2 DM NS _;refine q T0 zs H2 s2 Se hT2 DM ?_;rw[NS];unfold oO;rw[dk];refine j6 fun k hk=>?_;have hk:=bY.mp hk;have Pp:(k+1) % n<n:=lW _ (by lia);rw[cw,f_ hk,cw,f_ Pp];rfl
theorem mx:aN ["_law_pot_here","_law_many","_law_more","_law_found","_law_degrees","_law_k","_law_some","_law_one","_law_other"] ["_law_pot_here","_law_many","_law_more"] (aw K2):=dW (by decide +kernel)
def DO:Sp:=fun vs H Q _=>∃ (p:Addr) (n m:Nat),vs=[.ref p,.int n,.int m]/\2<=n/\n<=32/\m<=64/\bn H p/\∀ (r:Addr) (zs:Zs) (H':Hp),aO p H H'->bn H' p->H r=none->H' r=some (.lst (zr zs))->PO H' zs->cJ n (et (zp zs))->Q (.ref r) H'
theorem NU(F:iI K "_law_some_pairs" "_law_some_pairs" K2 f fd)(B:Bl mg)(D:d9 P w K mg base bo 1 "_law_take" ["_law_pot_here","_law_many"] ip):bU P w K mg base bo 2 f fd ["_law_pot_here","_law_many","_law_more"] DO:=by
 refine F.ok mx (fun vs H Q E h=>?_) (fun fX A outer s H vs Q E hr h=>?_)
 .obtain⟨p,n,m,rfl,_⟩:=h;rfl
 .obtain⟨p,n,m,rfl,n1,n2,m1,hp,q⟩:=h;refine'⟨_,(ak (d8 (bT (aa (cH ag) (aa (a9 yf (cH (aa az ag)) (pv 1)) ag))) (dX (n:=2) rfl (aE (aA (i:=3) mx.nd rfl aL) (aE (aA (i:=4) mx.nd rfl cW) cM))))
   (ak (du eI rfl (qV rfl B.range (aa az (aa (pv 1) ag))) (aA (i:=5) mx.nd rfl aL)
    (ak (fE (i:=6) (g:=(bH 0)) (tt:=(pA (jS (zR fun i j=>.bl (decide (i<j))) (jS (sI K) (bb 1) (bb 0)) (tC (.int 7))))) (te:=(bb 0)) (NB:=["_law_house","_law_degrees"]) (src:=[none,some 4]) (bz (by kernel_rfl)) rfl (b9 rfl B.range (aa (pv 5) ag)) ?g1 ?t1 ?e1 mx.nd rfl rfl rfl)
    (ak (aW (i:=7) mx.nd rfl aL (aX aG (pv 6) (aH D hr aM (aa (pv 0) (aa (aJ aV (by rfl) B.len fc (aa (pv 6) ag)) ag))) (fun _ _=>rfl)))
    (ak (cG (gQ gy i9 i8 cV (pv 3) (aa (bT (aa (pv 7) (aa (pv 5) ag))) ag)))
    (av (d8 (bT (aa (a9 dM (aX aG (pv 4) (pv 7) (fun _ _=>rfl)) az) (aa az ag))) (dX (n:=2) rfl (aE (gx (pv 4) (pv 7) dY) (aE (gx (pv 4) (pv 5) dY) cM)))))))))
   (ak (du eI rfl (b9 rfl B.range (aa (pv 2) ag)) (aA (i:=5) mx.nd rfl aL)
    (ak (Cq (i:=7) (j:=8) rfl mx.nd rfl rfl (by decide) rfl rfl (aa (aH D hr aM (aa (pv 0) (aa (pv 1) ag))) (aa (aH D hr aM (aa (pv 0) (aa (pv 1) ag))) ag)) (by rfl))
    (av (dS (PW.pt (xU (aY zU (pv 7) (pv 8) (bp _)) (tJ (aY nw (aJ (wA rfl) (by rfl) B.max BM (aa (aX aG (pv 4) (pv 7) (fun _ _=>rfl)) (aa (aX aG (pv 4) (pv 8) (fun _ _=>rfl)) ag))) az (bp _))))) (av (dS (PW.pt (xU (aY (mR hr.u) (bT (aa (pv 7) (aa (pv 8) ag))) (pv 3) rfl) (tJ (aY (mR hr.u) (bT (aa (pv 8) (aa (pv 7) ag))) (pv 3) rfl)))) (ak (cG (gQ gy i9 i8 cV (pv 3) (aa (bT (aa (pv 7) (aa (pv 8) ag))) ag)))
      (ak (d8 (a9 dM (aX aG (pv 4) (pv 7) (fun _ _=>rfl)) az) (gx (pv 4) (pv 7) dY))
      (av (d8 (a9 dM (aX aG (pv 4) (pv 8) (fun _ _=>rfl)) az) (gx (pv 4) (pv 8) dY))))) b8)) b8))))
   (av (bh (pv 3)))))),?_⟩
  case g1=>exact fun cl C s₃ H₃ fp=>(aA (i:=0) rF rfl aL cW)
  case t1=>exact fun cl C s₃ H₃ fp=>g8 (aY nw (aX aG (pv 1) (pv 0) (fun _ _=>rfl)) az (bp _))
  case e1=>exact fun cl C s₃ H₃ fp=>(pv 0)
  refine⟨by show 0<=sizeLine;decide,fun Pr WM=>⟨by show 1<=sizeLine;decide,fun L1 t8=>⟨_,rfl,L1,_,_,rfl,rfl,ae,by lia,by lia,by rw[gE,lO];exact aZ (show 1*n<=32 by lia) (by decide),fun M hM=>?_⟩⟩⟩;rw[gE,mw,KZ];refine⟨by show 2<=sizeLine;decide,fun T0 Se=>⟨T0,_,rfl,cu.of ae,rfl,_,_,rfl,_,_,rfl,rfl,?_⟩⟩;have sP:=aj (o:=.lst []) WM;have s1:=sP.trans (aj (o:=.lst [.int 0]) t8);have s3:=aj (o:=.tup [.ref Pr,.ref M]) Se;have s2:=(s1.trans (aj (o:=.lst (NV (eS n []))) hM)).trans s3;have gP:=s3 _ _ (aj (o:=.lst (NV (eS n []))) hM _ _ (aj (o:=.lst [.int 0]) t8 _ _ (ae (H:=H) (a:=Pr) (o:=.lst (zr [])))));have gM:=s3 _ _ (ae (H:=upd (upd H Pr (.lst [])) L1 (.lst [.int 0])) (a:=M) (o:=.lst (NV (eS n []))));have YX:Pr≠M:=am (aj t8 _ _ ae) hM;have UC:H M=none:=s1.free hM;have WN:Pr≠p:=hp.ne WM;have Ma:M≠p:=hp.ne UC;generalize upd (upd (upd (upd H Pr _) L1 _) M _) T0 _=H0 at *;refine⟨_,rfl,1,(n:Int),rfl,⟨by decide,by decide,by lia,by lia⟩,?_⟩;rw[show ((n:Int)-1).toNat=n-1 by lia];refine eh (lo:=1) (n:=n-1) (fun i σ Hc=>∃zs:Zs,(∃a b c d,σ=[some (.ref p),some (.int n),some (.int m),some (.ref Pr),some (.ref M),a,b,c,d])/\aO p H Hc/\bn Hc p/\Hc Pr=some (.lst (zr zs))/\PO Hc zs/\Hc M=some (.lst (NV (eS n (zp zs))))/\vv n (List.range n) (i+1) (et (zp zs))/\gu (et (zp zs)) (ci i)<=1)
   ⟨[],⟨none,none,none,none,rfl⟩,aO.of s2,hp.same s2,gP,PO.nil,gM,vv.start (by rw[dk];lia),cp _⟩ ?_ ?_
  .rintro i σ Hc hi ⟨zs,⟨a,b,c,d',rfl⟩,sc,oP,NW,po,DP,Tr,dg⟩;have e1:(1:Int)+(i:Int)=((i+1:Nat):Int):=by lia
   rw[e1];have YY:zs.length=i:=by have:=Tr.len;rw[tX,b_] at this;lia
   refine⟨_,rfl,((i+1:Nat):Int),rfl,by lia,by lia,fun D1 DH=>?_⟩;rw[show (((i+1:Nat):Int)).toNat=i+1 from rfl];refine NP (lo:=0) (n:=i+1) (fun x=>decide (gu (et (zp zs)) (ci x)<7)) (fun σ=>∃a,σ=[a,some (.ref M)]) DH (by lia) ⟨_,rfl⟩ ?_ ?_
   .rintro x σ H4 Kt Kf hx ⟨a',rfl⟩ yI kt kf;rw[iG] at kt |-;have qU:x<(eS n (zp zs)).length:=by rw[iC];lia
    refine⟨_,rfl,_,rfl,M,_,_,_,rfl,rfl,a8.of (yI _ _ DP),aD (iT qU),_,_,rfl,rfl,_,rfl,?_⟩;have ed:=kH (ps:=zp zs) (show x<n by lia);refine gU (fun e=>?_) (fun e=>?_)
    .exact⟨_,rfl,kt _ _ ⟨_,rfl⟩ (aI.refl _) (iO (by have:=fu e;lia))⟩
    .exact kf _ _ ⟨_,rfl⟩ (aI.refl _) (gY (fun z=>e (iO (by lia))))
   .intro H4 yI Bt;have e0:((((List.range (i+1)).filter fun x=>decide (gu (et (zp zs)) (ci x)<7)).map fun (x:Nat)=>V.int (0+(x:Int))))=NV ((List.range (i+1)).filter fun x=>decide (gu (et (zp zs)) (ci x)<7)):=j6 fun x _=>by rw[iG]
    rw[e0] at Bt;have ne:0<((List.range (i+1)).filter fun x=>decide (gu (et (zp zs)) (ci x)<7)).length:=ue (gb.mpr ⟨bY.mpr (lM i),iO (show gu (et (zp zs)) (ci i)<7 by lia)⟩);have le:((List.range (i+1)).filter fun x=>decide (gu (et (zp zs)) (ci x)<7)).length<=i+1:=aZ (iL _ _) (by rw[dk];exact aP _);generalize hfs:(List.range (i+1)).filter (fun x=>decide (gu (et (zp zs)) (ci x)<7))=fs at *;have sn:=oP.same yI;refine⟨_,rfl,_,rfl,_,rfl,D1,_,rfl,.inl (a8.of Bt),p,_,rfl,by rw[be];exact ne,by rw[be];lia,sn,fun d H5 hd s5 xf=>?_⟩;rw[be] at hd;have nD1:D1≠p:=oP.ne DH;have hv:fs[d]?=some fs[d]:=cz hd;refine⟨D1,_,_,_,rfl,rfl,a8.of (s5 _ _ Bt nD1),aD (iT hd),?_⟩;have hsm:fs.getD d 0∈fs:=by rw[cw,hv];exact ie _
    generalize fs.getD d 0=sv at *;rw[<-hfs] at hsm;obtain⟨Gs,oX⟩:=gb.mp hsm;have hsv:sv<i+1:=bY.mp Gs;have hsd:gu (et (zp zs)) (ci sv)<7:=fu oX;have P4:=s5 _ _ (yI _ _ NW) WN;have UD:=s5 _ _ (yI _ _ DP) Ma;have Iq:PO H5 zs:=(po.same yI).sf s5 sn;refine⟨_,rfl,.inl ⟨rfl,_,a8.of P4⟩,_,rfl,_,rfl,by show 2<=sizeLine;decide,fun t ht=>?_⟩;have st:=aj (o:=oY (ci sv,ci (i+1))) ht;refine⟨Pr,_,_,rfl,rfl,st _ _ P4,by rw[dZ,YY];exact bv (show i<33 by lia) (by decide),?_⟩;have P5:(upd (upd H5 t (oY (ci sv,ci (i+1)))) Pr (.lst (zr zs++[.ref t]))) M=some (.lst (NV (eS n (zp zs)))):=by rw[aq YX.symm];exact st _ _ UD
    have WP:sv<(eS n (zp zs)).length:=by rw[iC];lia
    refine⟨_,rfl,_,rfl,M,_,_,_,rfl,rfl,a8.of P5,aD (iT WP),_,_,rfl,rfl,by show 2<=sizeLine;decide,fun T hT=>?_⟩;have WQ:(upd (upd H5 t (oY (ci sv,ci (i+1)))) Pr (.lst (zr zs++[.ref t]))) Pr=some (.lst (zr zs++[.ref t])):=ae;have o6:∀b,b≠Pr->(upd (upd H5 t (oY (ci sv,ci (i+1)))) Pr (.lst (zr zs++[.ref t]))) b=(upd H5 t (oY (ci sv,ci (i+1)))) b:=fun b n=>aq n;have P6:PO (upd (upd H5 t (oY (ci sv,ci (i+1)))) Pr (.lst (zr zs++[.ref t]))) (zs++[(t,(ci sv,ci (i+1)))]):=PO.putL (xs:=zr zs) ((Iq.same st).append (PO.one ae)) (st _ _ P4);generalize upd (upd H5 t (oY (ci sv,ci (i+1)))) Pr _=H6 at *;have sT:=aj (o:=.tup [.int ((((eS n (zp zs)).getD sv 0:Nat):Int)+1),.int 1]) hT;refine⟨T,_,rfl,cu.of ae,rfl,_,_,rfl,?_⟩;refine⟨_,rfl,_,rfl,M,_,(sv:Int),sv,rfl,rfl,sT _ _ P5,eJ (by rw[be];exact WP),?_⟩;have e2:(NV (eS n (zp zs))).set sv (V.int ((((eS n (zp zs)).getD sv 0:Nat):Int)+1))=NV ((eS n (zp zs)).set sv (gu (et (zp zs)) (ci sv)+1)):=by
     rw[kH (by lia)];exact rE (x:=gu (et (zp zs)) (ci sv)+1)
    have UE:i+1<((eS n (zp zs)).set sv (gu (et (zp zs)) (ci sv)+1)).length:=by rw[jb,iC];lia
    have z0:gu (et (zp zs)) (ci (i+1))=0:=Tr.zero (by lia) (aP _);generalize hH7:upd _ M _=H7;have gM7:H7 M=some (.lst (NV ((eS n (zp zs)).set sv (gu (et (zp zs)) (ci sv)+1)))):=by rw[<-hH7,ae];exact congrArg (fun l=>some (HO.lst l)) e2
    have o7:∀b,b≠M->∀o,H6 b=some o->H7 b=some o:=fun b n o e=>by rw[<-hH7,aq n];exact sT _ _ e
    refine⟨_,_,rfl,_,rfl,_,rfl,M,_,((i+1:Nat):Int),i+1,rfl,rfl,gM7,eJ (by rw[be];exact UE),rfl,?_⟩;generalize WR:upd H7 M _=H8;have e3:(NV ((eS n (zp zs)).set sv (gu (et (zp zs)) (ci sv)+1))).set (i+1) (V.int 1)=NV (eS n (zp zs++[(ci sv,ci (i+1))])):=by
     rw[<-A1 (by lia) (by lia) (by lia),z0];exact rE (x:=1)
    have YZ:H8 M=some (.lst (NV (eS n (zp zs++[(ci sv,ci (i+1))])))):=by rw[<-WR,ae];exact congrArg (fun l=>some (HO.lst l)) e3
    have o8:∀b,b≠M->∀o,H6 b=some o->H8 b=some o:=fun b n o e=>by rw[<-WR,aq n];exact o7 b n o e
    have ez:zp (zs++[(t,(ci sv,ci (i+1)))])=zp zs++[(ci sv,ci (i+1))]:=by rw[eQ];rfl
    refine⟨zs++[(t,(ci sv,ci (i+1)))],⟨_,_,_,_,rfl⟩,fun b o e n=>?_,?_,?_,fun z hz=>?_,by rw[ez];exact YZ,?_,?_⟩
    .refine o8 _ (am e UC) _ ?_;rw[o6 _ (am e WM)];exact st _ _ (s5 _ _ (yI _ _ (sc _ _ e n)) n)
    .obtain⟨x,y,e,r⟩:=xf.same st;exact⟨x,y,o8 _ Ma.symm _ (by rw[o6 _ WN.symm];exact e),r⟩
    .refine o8 _ YX _ ?_;rw[WQ,eO];rfl
    .have g:=P6 z hz;exact o8 _ (by rintro e;rw[e,P5] at g;cases g) _ g
    .rw[ez,oG];exact Tr.add jH (fun x hx=>bY.mp hx) (f_ (by lia)) (by rw[List.take_range,Cb (by lia)];exact Gs) (by show gu _ _<8;lia)
    .rw[ez,Fl,z0,ao (fun z=>by have:=d7 z;lia),ap rfl];lia
  rintro σ Hc ⟨zs,⟨a,b,c,d',rfl⟩,sc,oP,NW,po,DP,Tr,dg⟩;rw[show n-1+1=n by lia] at Tr;have F0:=Tr.lE n1 n2 (iE _);refine⟨_,rfl,(m:Int),rfl,by lia,by lia,?_⟩;refine eh (lo:=0) (n:=m) (fun i σ Hc=>∃zs:Zs,(∃a b c d,σ=[some (.ref p),some (.int n),some (.int m),some (.ref Pr),some (.ref M),a,b,c,d])/\aO p H Hc/\bn Hc p/\Hc Pr=some (.lst (zr zs))/\PO Hc zs/\Hc M=some (.lst (NV (eS n (zp zs))))/\cJ n (et (zp zs)))
   ⟨zs,⟨_,_,_,_,rfl⟩,sc,oP,NW,po,DP,F0⟩ ?_ ?_
  .clear F0 Tr dg po NW DP oP sc zs;rintro i σ Hc hi ⟨zs,⟨a',b',c',d',rfl⟩,sc,oP,NW,po,DP,Fi⟩;have YY:zs.length<=256:=by have:=Fi.len;rw[tX,b_] at this;lia
   refine⟨_,rfl,_,rfl,p,n,rfl,by lia,by lia,oP,fun a H4 ha s4 sn=>⟨_,rfl,_,rfl,p,n,rfl,by lia,by lia,sn,fun b H5 hb s5 xf=>⟨_,_,rfl,?_⟩⟩⟩;have Sf:=(sc.trans s4).trans s5;have P4:=s5 _ _ (s4 _ _ NW WN) WN;have UD:=s5 _ _ (s4 _ _ DP Ma) Ma;have Iq:=(po.sf s4 oP).sf s5 sn;clear s4 s5 sn NW DP po oP sc;dsimp only;have jP:∀Hd:Hp,aI H5 Hd->∃zs:Zs,(∃x1 x2 x3 x4,[some (V.ref p),some (.int n),some (.int m),some (.ref Pr),some (.ref M),some (.int (0+(i:Int))),b',some (.int (a:Nat)),some (.int (b:Nat))]=[some (.ref p),some (.int n),some (.int m),some (.ref Pr),some (.ref M),x1,x2,x3,x4])/\aO p H Hd/\bn Hd p/\Hd Pr=some (.lst (zr zs))/\PO Hd zs/\Hd M=some (.lst (NV (eS n (zp zs))))/\cJ n (et (zp zs)):=fun Hd sd=>⟨zs,⟨_,_,_,_,rfl⟩,Sf.trans (aO.of sd),xf.same sd,sd _ _ P4,Iq.same sd,sd _ _ UD,Fi⟩
   have han:a<(eS n (zp zs)).length:=by rw[iC];exact ha
   have hbn:b<(eS n (zp zs)).length:=by rw[iC];exact hb
   refine⟨_,rfl,_,rfl,rfl,_,rfl,?_⟩;by_cases rX:a=b
   .exact sg (by subst rX;simp) (jT (jP _ (aI.refl _)))
   refine xc (by simp;lia) ⟨_,rfl,_,rfl,M,_,_,_,rfl,rfl,a8.of UD,aD (iT han),_,rfl,_,rfl,M,_,_,_,rfl,rfl,a8.of UD,aD (iT hbn),_,_,rfl,_,_,rfl,rfl,_,rfl,?_⟩;rw[kH ha,kH hb];refine gU (fun cm=>?_) (fun cm=>jP _ (aI.refl _));have cm:=fu cm;have da:gu (et (zp zs)) (ci a)<=7:=by split at cm <;> lia
   have db:gu (et (zp zs)) (ci b)<=7:=by split at cm <;> lia
   refine⟨_,rfl,_,rfl,by show 2<=sizeLine;decide,fun t1 ht1=>?_⟩;have Bp:=aj (o:=oY (ci a,ci b)) ht1;obtain⟨l1,l2⟩:=Fm (K:=K) (Iq.same Bp);refine⟨_,rfl,t1,Pr,(ci a,ci b),zs.map (fun z:Addr×Int×Int=>z.1),zp zs,rfl,rfl,cu.of ae,by rw[<-iY];exact a8.of (Bp _ _ P4),by rw[aT];exact l1,l2,_,rfl,?_⟩;by_cases in1:(ci a,ci b)∈zp zs
   .exact sg (by simp[in1]) (jT (jP _ Bp))
   refine xc (by simp[in1]) ⟨_,rfl,_,rfl,by show 2<=sizeLine;decide,fun t2 ht2=>?_⟩;have lD:=Bp.trans (aj (o:=oY (ci b,ci a)) ht2);obtain⟨l1,l2⟩:=Fm (K:=K) (Iq.same lD);refine⟨_,rfl,t2,Pr,(ci b,ci a),zs.map (fun z:Addr×Int×Int=>z.1),zp zs,rfl,rfl,cu.of ae,by rw[<-iY];exact a8.of (lD _ _ P4),by rw[aT];exact l1,l2,_,rfl,?_⟩;by_cases in2:(ci b,ci a)∈zp zs
   .exact sg (by simp[in2]) (jP _ lD)
   have WQ:=lD _ _ P4;have P5:=lD _ _ UD;refine xc (by simp[in2]) ⟨_,rfl,.inl ⟨rfl,_,a8.of WQ⟩,_,rfl,_,rfl,by show 2<=sizeLine;decide,fun t ht=>?_⟩;have jq:=aj (o:=oY (ci a,ci b)) ht;refine⟨Pr,_,_,rfl,rfl,jq _ _ WQ,by rw[dZ];exact eK YY (by decide),?_⟩;have Sg:=PO.putL (xs:=zr zs) ((Iq.same (lD.trans jq)).append (PO.one ae)) (jq _ _ WQ) (o:=.lst (zr zs++[.ref t]));have Y0:∀x o,H x=some o->x≠p->x≠Pr->(upd (upd (upd (upd H5 t1 (oY (ci a,ci b))) t2 (oY (ci b,ci a))) t (oY (ci a,ci b))) Pr (.lst (zr zs++[.ref t]))) x=some o:=fun x o e n n2=>by
    rw[aq n2];exact jq _ _ (lD _ _ (Sf _ _ e n))
   have K3:=((xf.same lD).same jq).put (o:=.lst (zr zs++[.ref t])) WN.symm;have UF:=(aq (H:=upd (upd (upd H5 t1 (oY (ci a,ci b))) t2 (oY (ci b,ci a))) t (oY (ci a,ci b))) (o:=.lst (zr zs++[.ref t])) YX.symm).trans (jq _ _ P5);have hP7:=ae (H:=upd (upd (upd H5 t1 (oY (ci a,ci b))) t2 (oY (ci b,ci a))) t (oY (ci a,ci b))) (a:=Pr) (o:=.lst (zr zs++[.ref t]));generalize upd (upd (upd (upd H5 _ _) _ _) _ _) Pr _=H7 at *;refine⟨_,rfl,_,rfl,M,_,_,_,rfl,rfl,a8.of UF,aD (iT han),_,_,rfl,rfl,_,rfl,_,rfl,M,_,(a:Int),a,rfl,rfl,UF,eJ (by rw[be];exact han),?_⟩;have e2:(NV (eS n (zp zs))).set a (V.int ((((eS n (zp zs)).getD a 0:Nat):Int)+1))=NV ((eS n (zp zs)).set a (gu (et (zp zs)) (ci a)+1)):=by
    rw[kH ha];exact rE (x:=gu (et (zp zs)) (ci a)+1)
   have UE:b<((eS n (zp zs)).set a (gu (et (zp zs)) (ci a)+1)).length:=by rw[jb];exact hbn
   have ek:((eS n (zp zs)).set a (gu (et (zp zs)) (ci a)+1)).getD b 0=gu (et (zp zs)) (ci b):=by
    rw[cw,qv rX,<-cw,kH hb]
   generalize WR:upd H7 M _=H8;have YZ:H8 M=some (.lst (NV ((eS n (zp zs)).set a (gu (et (zp zs)) (ci a)+1)))):=by rw[<-WR,ae];exact congrArg (fun l=>some (HO.lst l)) e2
   have o8:∀b,b≠M->H8 b=H7 b:=fun b n=>by rw[<-WR,aq n]
   refine⟨_,rfl,_,rfl,M,_,_,_,rfl,rfl,a8.of YZ,aD (iT UE),_,_,rfl,rfl,_,rfl,_,rfl,M,_,(b:Int),b,rfl,rfl,YZ,eJ (by rw[be];exact UE),?_⟩;generalize hH9:upd H8 M _=H9;have e3:(NV ((eS n (zp zs)).set a (gu (et (zp zs)) (ci a)+1))).set b (V.int (((((eS n (zp zs)).set a (gu (et (zp zs)) (ci a)+1)).getD b 0:Nat):Int)+1))=NV (eS n (zp zs++[(ci a,ci b)])):=by
    rw[ek,<-A1 ha hb rX];exact rE (x:=gu (et (zp zs)) (ci b)+1)
   have gM9:H9 M=some (.lst (NV (eS n (zp zs++[(ci a,ci b)])))):=by rw[<-hH9,ae];exact congrArg (fun l=>some (HO.lst l)) e3
   have o9:∀b,b≠M->H9 b=H7 b:=fun b n=>by rw[<-hH9,aq n];exact o8 b n
   have ez:zp (zs++[(t,(ci a,ci b))])=zp zs++[(ci a,ci b)]:=by rw[eQ];rfl
   refine⟨zs++[(t,(ci a,ci b))],⟨_,_,_,_,rfl⟩,fun b o e n=>?_,?_,?_,fun z hz=>?_,by rw[ez];exact gM9,?_⟩
   .rw[o9 _ (am e UC)];exact Y0 _ _ e n (am e WM)
   .obtain⟨x,y,e,r⟩:=K3;exact⟨x,y,by rw[o9 _ Ma.symm];exact e,r⟩
   .rw[o9 _ YX,hP7,eO];rfl
   .have g:=Sg z hz;rw[o9 _ (by rintro e;rw[e,UF] at g;cases g)];exact g
   .rw[ez];exact Fi.pair ha hb rX in1 in2 da db
  .rintro σ Hc ⟨zs,⟨a',b',c',d',rfl⟩,sc,oP,NW,po,DP,Fi⟩;exact⟨_,rfl,q Pr zs Hc sc oP WM NW po Fi⟩
end
end r9
namespace L2
open PySem PySem.Spec PyProof.Rows
def Fp:List Nat->TA
 |[]=>h_
 |n::ns=>bJ (tC (.int (n:Nat))) (Fp ns)
def K4:List (List Nat)->TA
 |[]=>h_
 |c::cs=>bJ (sG (Fp c)) (K4 cs)
def rdN:Expr->Option Nat
 |.Constant (.int (.ofNat n)) _ _=>some n
 |_=>none
def NX:List Expr->Option (List Nat)
 |[]=>some []
 |e::es=>(rdN e).bind fun n=>(NX es).map (n::·)
def NY:List Expr->Option (List (List Nat))
 |[]=>some []
 |.Tuple es _ _::r=>(NX es).bind fun c=>(NY r).map (c::·)
 |_=>none
theorem Sh(h:rdN e=some n):∃j pos,e=.Constant (.int (n:Nat)) j pos:=by
 unfold rdN at h;split at h
 .cases h;exact⟨_,_,rfl⟩
 .cases h
theorem Fq:∀ {es:gZ} {ns:aQ},NX es=some ns->PA X es (Fp ns)
 |[],ns,h=>by cases h;exact ag
 |e::es,ns,h=>by
  unfold NX at h;obtain⟨n,h1,h2⟩:=Option.bind_eq_some_iff.mp h;obtain⟨ms,h3,rfl⟩:=Option.map_eq_some_iff.mp h2;obtain⟨j,pos,rfl⟩:=Sh h1;exact aa az (Fq h3)
theorem Fs:∀ {es:gZ} {cs:zA},NY es=some cs->PA X es (K4 cs)
 |[],cs,h=>by cases h;exact ag
 |e::r,cs,h=>by
  unfold NY at h;split at h
  .cases h;contradiction
  .rename_i es _ _ r' e';cases e';obtain⟨n,h1,h2⟩:=Option.bind_eq_some_iff.mp h;obtain⟨ms,h3,rfl⟩:=Option.map_eq_some_iff.mp h2;exact aa (bT (Fq h1)) (Fs h3)
  .cases h
end L2
namespace r9
open PySem L2 ln
abbrev Si:Stmt:=top 42
abbrev vI:Stmt:=top 43
theorem jr:(["_law_more","_law_house","_law_figure","_law_step"]:bQ).Nodup:=by decide +kernel
theorem K5:∀ {ns:aQ} {σ:St} {H:Hp} {Q:zG},Q (NV ns) H->Fp ns σ H Q
 |[],σ,H,Q,h=>h
 |n::ns,σ,H,Q,h=>K5 (ns:=ns) (Q:=fun xs H2=>Q (.int (n:Nat)::xs) H2) h
theorem K6:∀ {cs:zA} {σ:St} {H:Hp} {Q:zG},(∀c∈cs,c.length<=5)->(∀ (as:bR) (H':Hp),aI H H'->as.length=cs.length->(∀i,i<cs.length->H' (as.getD i 0)=some (.tup (NV (cs.getD i []))))->Q (as.map V.ref) H')->K4 cs σ H Q
 |[],σ,H,Q,_,h=>h [] H (aI.refl _) rfl fun i hi=>nomatch hi
 |c::cs,σ,H,Q,hc,h=>by
  refine K5 (ns:=c) ⟨?_,fun t ht=>?_⟩
  .rw[be];exact aZ (hc c cK) (by decide)
  refine K6 (cs:=cs) (fun c zI=>hc c (dq _ zI)) fun as H' s l e=>?_;refine h (t::as) H' ((aj ht).trans s) (congrArg (·+1) l) fun i hi=>?_;cases i with
  |zero=>exact s _ _ ae
  |succ i=>exact e i (Nat.lt_of_succ_lt_succ hi)
theorem yO:∀ {i:Nat},(A0 ns i h).length<=i
 |0=>cp _
 |i+1=>by
  have e:A0 ns (i+1) h=A0 ns i h++if h / pr (ns.take i) % ns.getD i 0+1<ns.getD i 0 then [(h,h+pr (ns.take i))] else []:=by unfold A0;rw[eH]
  rw[e,dh];have:=yO (ns:=ns) (h:=h) (i:=i);split <;> simp <;> lia
theorem yP(hb:b<=5):∀ {i:Nat},(HC b i h).length<=5*i
 |0=>cp _
 |i+1=>by
  have e:HC b (i+1) h=HC b i h++NO b i h:=by unfold HC;rw[eH]
  rw[e,dh];have:=yP (b:=b) (h:=h) hb (i:=i);have:(NO b i h).length<=5:=by unfold NO;rw[aT,dk];lia
  lia
theorem DQ:∃es q1 q2 q3 cs r,cP vI=.Assign [.Name "_law_sizes" q1] (.List es q2) q3::r/\r=(cP vI).drop 1/\NY es=some cs/\cs=[[1,3,3],[1,4,4],[1,5,5],[2,3,9],[2,4,16],[2,5,25],[3,3,27],[3,2,8],[5,2,32]]:=
 ⟨_,_,_,_,[[1,3,3],[1,4,4],[1,5,5],[2,3,9],[2,4,16],[2,5,25],[3,3,27],[3,2,8],[5,2,32]],_,rfl,rfl,by decide +kernel,rfl⟩
def NZ(p:Addr)(H:Hp)(Q:V->Hp->Prop):Prop:=∀ (t r:Addr) (n:Nat) (zs:Zs) (H':Hp),aO p H H'->bn H' p->H t=none->H r=none->H' t=some (.tup [.int n,.ref r])->H' r=some (.lst (zr zs))->PO H' zs->cJ n (et (zp zs))->Q (.ref t) H'
section
variable {P:bL} {w:World} {K:a_} {mg:cr} {base:Heap}
theorem p9:aN ["_law_pot_here","_law_sides","_law_whole","_law_k","_law_found","_law_house","_law_step","_law_side"] ["_law_pot_here"] (aw Si):=dW (by decide +kernel)
def xg:Sp:=fun vs H Q _=>∃p:Addr,vs=[.ref p]/\bn H p/\NZ p H Q
theorem Sj(F:iI K "_law_box" "_law_box" Si f fd)(B:Bl mg)(D:d9 P w K mg base bo 1 "_law_take" ["_law_pot_here","_law_many"] ip):bU P w K mg base bo 2 f fd ["_law_pot_here"] xg:=by
 refine F.ok p9 (fun vs H Q E h=>?_) (fun fX A outer s H vs Q E hr h=>?_)
 .obtain⟨p,rfl,_⟩:=h;rfl
 .obtain⟨p,rfl,hp,q⟩:=h;refine⟨_,(ak (Cq (i:=1) (j:=2) rfl p9.nd rfl rfl (by decide) rfl rfl (aa (cH ag) (aa az ag)) (by rfl))
   (ak (du eI rfl (b9 rfl B.range (aa (a9 dM az (aH D hr aM (aa (pv 0) (aa az ag)))) ag)) (aA (i:=3) p9.nd rfl aL)
    (av (dS (aY nw (pv 2) az (bp _)) (ak (cG (gQ gy i9 i8 cV (pv 1) (aa (a9 dM az (aH D hr aM (aa (pv 0) (aa (aJ (qW rfl) (by rfl) B.min BL (aa az (aa (a9 k8 (a9 tK az (pv 2)) az) ag))) ag)))) ag)))
     (av (aW (i:=2) p9.nd rfl aL (a9 l8 (pv 2) (aX aG (pv 1) (zS uU az) (fun _ _=>rfl)))))) b8)))
   (ak (aW (i:=4) p9.nd rfl aL (cH ag))
   (ak (du eI rfl (b9 rfl B.range (aa (pv 2) ag)) (aA (i:=5) p9.nd rfl aL)
    (ak (aW (i:=6) p9.nd rfl aL az)
    (av (du eI rfl (bN (pv 1)) (aA (i:=7) p9.nd rfl aL)
     (ak (dS (aY nw (a9 je (a9 tK (pv 5) (pv 6)) (pv 7)) (a9 k8 (pv 7) az) (bp _)) (av (cG (gQ gy i9 i8 cV (pv 4) (aa (bT (aa (pv 5) (aa (a9 dM (pv 5) (pv 6)) ag))) ag)))) b8)
     (av (aW (i:=6) p9.nd rfl aL (a9 l8 (pv 6) (pv 7)))))))))
   (av (bh (bT (aa (pv 2) (aa (pv 4) ag))))))))),?_⟩
  refine⟨by show 0<=sizeLine;decide,fun S hS=>⟨_,_,rfl,?_⟩⟩;have sS:=aj (o:=.lst []) hS;have Mb:S≠p:=hp.ne hS;dsimp only;refine⟨_,rfl,p,5,rfl,by decide,by decide,hp.same sS,fun d H1 hd s1 mY=>⟨_,_,rfl,rfl,(1+(d:Int)),rfl,by lia,by lia,?_⟩⟩;rw[show (1+(d:Int)).toNat=1+d by lia];refine eh (lo:=0) (n:=1+d) (fun i σ Hc=>∃ns:List Nat,(∃a,σ=[some (.ref p),some (.ref S),some (.int ((pr ns:Nat):Int)),a,none,none,none,none])/\aO p H Hc/\bn Hc p/\Hc S=some (.lst (NV ns))/\ns.length<=i/\(∀x∈ns,2<=x/\x<=8)/\pr ns<=32/\(0<i->ns≠[]))
   ⟨[],⟨_,rfl⟩,(aO.of sS).trans s1,mY,s1 _ _ ae Mb,aP _,fun x hx=>(nomatch hx),by decide,fun z=>absurd z (jd _)⟩ ?_ ?_
  .rintro i σ Hc hi ⟨ns,⟨a,rfl⟩,sc,oP,vQ,nl,nb,np,nn⟩;have p1:1<=pr ns:=jl (ns:=ns) (i:=0) fun x hx=>by have:=nb x hx;lia
   refine⟨_,rfl,_,_,rfl,rfl,_,rfl,gU (fun c=>?_) (fun c=>?_)⟩
   .have c:=fu c;have hq:(32:Int) / ((pr ns:Nat):Int)=((32 / pr ns:Nat):Int):=rfl;have q2:2<=32 / pr ns:=(Nat.le_div_iff_mul_le (by lia)).mpr (by lia);have em:(if (32:Int) / ((pr ns:Nat):Int)-1<7 then (32:Int) / ((pr ns:Nat):Int)-1 else 7)=((min 7 (32 / pr ns-1):Nat):Int):=by rw[hq];split <;> lia
    refine⟨_,rfl,.inl ⟨rfl,_,a8.of vQ⟩,_,rfl,_,rfl,_,_,rfl,rfl,⟨by lia,by lia⟩,_,_,rfl,rfl,7,_,rfl,p,min 7 (32 / pr ns-1),by rw[em];rfl,by lia,by lia,oP,fun e H2 he s2 vP=>⟨_,_,rfl,rfl,S,_,_,rfl,rfl,s2 _ _ vQ Mb,by rw[be];exact eK (show ns.length<=6 by lia) (by decide),?_⟩⟩;have e2:NV ns++[V.int (2+(e:Int))]=NV (ns++[2+e]):=by rw[<-jA];congr 2
    rw[e2];refine⟨_,rfl,_,rfl,_,rfl,S,_,_,_,rfl,rfl,a8.of ae,by rw[<-jA];exact zZ _ _,_,_,rfl,rfl,.inr ⟨by lia,by lia⟩,?_⟩;have Ur:pr ns*(2+e)<=32:=aZ (uj _ (show 2+e<=32 / pr ns by lia)) (Nat.mul_div_le _ _);refine⟨ns++[2+e],⟨some (.int (0+(i:Int))),?_⟩,fun b o g n=>?_,vP.put Mb.symm,ae,by rw[dh,lO];lia,fun x hx=>?_,by rw[t9];exact Ur,fun _=>by simp⟩
    .rw[t9,Int.natCast_mul];rfl
    .rw[aq (am g hS)];exact s2 _ _ (sc _ _ g n) n
    .rcases cL.mp hx with z|z
     .exact nb x z
     .rw[dA.mp z];lia
   .have c:¬ pr ns<17:=fun z=>c (iO (by lia));exact⟨ns,⟨_,rfl⟩,sc,oP,vQ,by lia,nb,np,fun _ z=>by rw[z] at c;exact c (by decide)⟩
  rintro σ Hc ⟨ns,⟨a,rfl⟩,sc,oP,vQ,nl,nb,np,nn⟩;have nn:=nn (by lia);have p1:1<=pr ns:=jl (ns:=ns) (i:=0) fun x hx=>by have:=nb x hx;lia
  have hn1:∀x∈ns,1<=x:=fun x hx=>by have:=nb x hx;lia
  refine⟨by show 0<=sizeLine;decide,fun R hR=>?_⟩;have sR:=aj (o:=.lst []) hR;refine⟨_,rfl,((pr ns:Nat):Int),rfl,by lia,by lia,?_⟩;rw[gE];have fl:∀i,i<=32->∀j,j<=5->(((List.range i).flatMap (A0 ns ns.length))++A0 ns j i).length<=200:=fun i hi j hj=>by
   rw[dh];have:=rc (m:=i) (g:=A0 ns ns.length) (M:=5) fun x=>aZ yO (by lia);have:=yO (ns:=ns) (h:=i) (i:=j);lia
  refine eh (lo:=0) (n:=pr ns) (fun i σ Hd=>(∃x a b c,σ=[some (.ref p),some (.ref S),some (.int ((pr ns:Nat):Int)),x,some (.ref R),a,b,c])/\p8 Hc R (((List.range i).flatMap (A0 ns ns.length)).map jo) Hd) ⟨⟨_,_,_,_,rfl⟩,sR,[],ae,PO.nil,rfl⟩ ?_ ?_
  .rintro i σ Hd hi ⟨⟨x3,x5,x6,x7,rfl⟩,Pi⟩;rw[iG];refine⟨_,rfl,S,rfl,⟨_,a8.of (Pi.1 _ _ vQ)⟩,eM (K:=K) (xs:=NV ns) (fun j σ He=>(∃x c,σ=[some (.ref p),some (.ref S),some (.int ((pr ns:Nat):Int)),x,some (.ref R),some (.int (i:Int)),some (.int ((pr (ns.take j):Nat):Int)),c])/\p8 Hc R ((((List.range i).flatMap (A0 ns ns.length))++A0 ns j i).map jo) He) ⟨⟨_,_,rfl⟩,by simpa [A0] using Pi⟩ (fun j σ He _ z=>a8.of (z.2.1 _ _ vQ)) ?_ ?_⟩
   .rintro j x σ He hx ⟨⟨y3,y7,rfl⟩,Pj⟩;obtain⟨n,hv,rfl⟩:=p6 hx;have hj:j<ns.length:=(eR.mp hv).1;have hnn:=nb n (dz hv);have qg:=jl (ns:=ns) (i:=j) hn1;have acq:1<=pr (ns.take j):=jl (ns:=ns.take j) (i:=0) fun x hx=>hn1 x (o_ hx);have gd:ns.getD j 0=n:=by rw[cw,hv];rfl
    have tk:ns.take (j+1)=ns.take j++[n]:=by rw[gW,hv];rfl
    have eB:A0 ns (j+1) i=A0 ns j i++if i / pr (ns.take j) % n+1<n then [(i,i+pr (ns.take j))] else []:=by unfold A0;rw[eH,gd]
    rw[tk,t9,eB];have fl':=fl i (by lia) j (by lia);generalize pr (ns.take j)=st at *;dsimp only;refine xa (fun σ He=>σ=[some (.ref p),some (.ref S),some (.int ((pr ns:Nat):Int)),y3,some (.ref R),some (.int (i:Int)),some (.int (st:Int)),some (.int (n:Int))]/\p8 Hc R ((((List.range i).flatMap (A0 ns ns.length))++(A0 ns j i++if i / st % n+1<n then [(i,i+st)] else [])).map jo) He) ?_ ?_
    .rintro σ He ⟨rfl,Pe⟩;exact⟨_,rfl,_,rfl,_,_,rfl,rfl,.inr ⟨by lia,by lia⟩,⟨_,_,rfl⟩,Pe⟩
    .intro N hN;have hdv:(i:Int) / (st:Int) % (n:Int)=((i / st % n:Nat):Int):=rfl;refine⟨_,rfl,_,rfl,_,_,rfl,rfl,⟨by lia,by lia⟩,_,rfl,_,_,rfl,rfl,(by show (0:Int)<(n:Int);lia),_,rfl,_,_,rfl,rfl,_,_,rfl,rfl,_,rfl,?_⟩;rw[hdv];obtain⟨sm,zy,wd,DM,NS⟩:=Pj;refine gU (fun c=>?_) (fun c=>?_)
     .have c:=fu c;refine⟨_,rfl,.inl ⟨rfl,_,a8.of wd⟩,_,rfl,_,rfl,_,rfl,_,_,rfl,rfl,by show 2<=sizeLine;decide,fun t ht=>?_⟩;have aF:=aj (o:=oY (jo (i,i+st))) ht;refine⟨R,_,_,rfl,rfl,aF _ _ wd,?_,?_⟩
      .rw[dZ,<-b_,NS,aT];exact eK fl' (by decide)
      .refine hN _ _ ⟨rfl,?_⟩;rw[ap (by lia),<-dP,dt];exact p8.ext (zs:=[(t,jo (i,i+st))]) hR sm wd DM NS aF (PO.one ae) rfl
     .refine hN _ _ ⟨rfl,?_⟩;rw[ao (fun z=>c (iO (by lia))),jI];exact⟨sm,zy,wd,DM,NS⟩
   .rintro σ He ⟨⟨y3,y7,rfl⟩,Pe⟩;refine⟨⟨_,_,_,_,rfl⟩,?_⟩;rw[be] at Pe;rw[eH];exact Pe
  .rintro σ Hd ⟨⟨x3,x5,x6,x7,rfl⟩,sm,zy,wd,DM,NS⟩;refine⟨_,rfl,_,rfl,by show 2<=sizeLine;decide,fun t ht=>?_⟩;have st:=aj (o:=.tup [.int ((pr ns:Nat):Int),.ref R]) ht;have fr:∀ {a:Addr},Hc a=none->H a=none:=fun h=>sc.free oP.full h;refine q t R (pr ns) zy _ (sc.trans (aO.of (sm.trans st))) ((oP.same sm).same st) (fr (sm.free ht)) (fr hR) ae (st _ _ wd) (DM.same st) ?_;rw[NS];refine(Ki (fun x hx=>(nb x hx).1) nn np).perm (mr (List.Perm.map _ ?_));refine KW.trans (lS ?_);unfold pT;rw[K0];simp only[Nat.one_mul]
theorem hX:aN ["_law_pot_here","_law_sizes","_law_figures","_law_base","_law_many","_law_found","_law_house","_law_step","_law_k","_law_figure"] ["_law_pot_here"] (aw vI):=dW (by decide +kernel)
theorem K7(F:iI K "_law_words" "_law_words" vI f fd)(B:Bl mg)(D:d9 P w K mg base bo 1 "_law_take" ["_law_pot_here","_law_many"] ip):bU P w K mg base bo 2 f fd ["_law_pot_here"] xg:=by
 refine F.ok hX (fun vs H Q E h=>?_) (fun fX A outer s H vs Q E hr h=>?_)
 .obtain⟨p,rfl,_⟩:=h;rfl
 .obtain⟨p,rfl,hp,q⟩:=h;obtain⟨es,q1,q2,q3,cs,r,eb,er,Z1,ec⟩:=DQ;rw[eb,er];refine'⟨_,(ak (aW (i:=1) hX.nd rfl aL (cH (Fs Z1)))
   (ak (d8 (aX aG (pv 1) (aH D hr aM (aa (pv 0) (aa az ag))) (fun _ _=>rfl)) (dX (n:=3) rfl (aE (aA (i:=2) hX.nd rfl aL) (aE (aA (i:=3) hX.nd rfl aL) (aE (aA (i:=4) hX.nd rfl aL) cM)))))
   (ak (aW (i:=5) hX.nd rfl aL (cH ag))
   (ak (du eI rfl (b9 rfl B.range (aa (pv 4) ag)) (aA (i:=6) hX.nd rfl cW)
    (ak (aW (i:=7) hX.nd rfl cW az)
    (av (du eI rfl (b9 rfl B.range (aa (pv 2) ag)) (aA (i:=8) hX.nd rfl aL)
     (ak (aW (i:=9) hX.nd rfl cW (a9 je (a9 tK (pv 6) (pv 7)) (pv 3)))
     (ak (cG (gQ gy PySem.F.slot_list_extend PySem.F.type_list_extend Gi (pv 5) (aa ?c1 ag)))
     (av (aW (i:=7) hX.nd rfl cW (a9 l8 (pv 7) (pv 3))))))))))
   (av (bh (bT (aa (pv 4) (aa (pv 5) ag))))))))),?_⟩
  case c1=>
   refine' cQ (g:=(bH 0)) (te:=(sG (bJ (bb 1) (bJ (jS (zR fun i j=>.int (i+j)) (bb 1) (jS (rI Mp fun i j=>.int (i*j)) (jS (zR fun i j=>.int (i-j)) (bb 0) (bb 2)) (bb 3))) h_)))) (NB:=["_law_more","_law_house","_law_figure","_law_step"]) (src:=[none,some 6,some 9,some 7]) (bz (by kernel_rfl)) rfl (qV rfl B.range (aa (a9 dM (pv 9) az) (aa (pv 3) ag))) ?g ?t ?e;case g=>exact fun cl C s₃ H₃ fp=>(aA (i:=0) jr rfl aL cW)
   case t=>exact fun cl C s₃ H₃ fp=>dC
   case e=>exact fun cl C s₃ H₃ fp=>(bT (aa (pv 1) (aa (a9 dM (pv 1) (a9 l8 (a9 k8 (pv 0) (pv 2)) (pv 3))) ag)))
  refine K6 (cs:=cs) (by rw[ec];decide) fun as H4 s4 la ea=>⟨?_,fun S hS=>?_⟩
  .rw[aT,la,ec];show 9<=sizeLine;decide
  have sS:=aj (o:=.lst (as.map V.ref)) hS;refine⟨_,rfl,_,rfl,p,9,rfl,by decide,by decide,(hp.same s4).same sS,fun d H5 hd s5 xf=>?_⟩;have had:as[d]?=some (as.getD d 0):=by rw[cw,cz (by rw[la,ec];exact hd)];rfl
  have nS:S≠p:=(hp.same s4).ne hS;have ga:=ea d (by rw[ec];exact hd);have ga5:=s5 _ _ (sS _ _ ga) ((hp.same s4).neT ga);have sd:∀d,d<9->∃f b:Nat,([[1,3,3],[1,4,4],[1,5,5],[2,3,9],[2,4,16],[2,5,25],[3,3,27],[3,2,8],[5,2,32]]:zA).getD d []=[f,b,b ^ f]/\1<=f/\f<=5/\2<=b/\b<=5/\b ^ f<=32:=fun d hd=>
   ⟨(([[1,3,3],[1,4,4],[1,5,5],[2,3,9],[2,4,16],[2,5,25],[3,3,27],[3,2,8],[5,2,32]]:zA).getD d []).getD 0 0,(([[1,3,3],[1,4,4],[1,5,5],[2,3,9],[2,4,16],[2,5,25],[3,3,27],[3,2,8],[5,2,32]]:zA).getD d []).getD 1 0,by revert d;decide⟩
  obtain⟨fg,b,e9,f1,f2,b1,b2,hm⟩:=sd d hd;rw[ec,e9] at ga5;refine⟨S,_,_,_,rfl,rfl,a8.of (s5 _ _ ae nS),aD (by rw[cA,had];rfl),_,_,rfl,cu.of ga5,rfl,_,_,rfl,_,_,rfl,_,_,rfl,rfl,?_⟩;have Sf:aO p H H5:=(aO.of (s4.trans sS)).trans s5;clear sd ga5 ga had ea la e9 hd s5;have hpw:∀i,i<=fg->b ^ i<=32:=fun i hi=>aZ (Nat.pow_le_pow_right (by lia) hi) hm;refine⟨by show 0<=sizeLine;decide,fun R hR=>?_⟩;have sR:=aj (o:=.lst []) hR;refine⟨_,rfl,((b ^ fg:Nat):Int),rfl,by lia,by lia,?_⟩;rw[gE];refine eh (lo:=0) (n:=b ^ fg) (fun i σ Hd=>(∃u v c e,σ=[some (.ref p),some (.ref S),some (.int (fg:Int)),some (.int (b:Int)),some (.int ((b ^ fg:Nat):Int)),some (.ref R),u,v,c,e])/\p8 H5 R (((List.range i).flatMap (HC b fg)).map jo) Hd) ⟨⟨_,_,_,_,rfl⟩,sR,[],ae,PO.nil,rfl⟩ ?_ ?_
  .rintro i σ Hd hi ⟨⟨x3,x5,x6,x7,rfl⟩,Pi⟩;rw[iG];refine⟨_,rfl,(fg:Int),rfl,by lia,by lia,?_⟩;rw[gE];refine eh (lo:=0) (n:=fg) (fun j σ He=>(∃c e,σ=[some (.ref p),some (.ref S),some (.int (fg:Int)),some (.int (b:Int)),some (.int ((b ^ fg:Nat):Int)),some (.ref R),some (.int (i:Int)),some (.int ((b ^ j:Nat):Int)),c,e])/\p8 H5 R ((((List.range i).flatMap (HC b fg))++HC b j i).map jo) He) ⟨⟨_,_,rfl⟩,by simpa [HC] using Pi⟩ ?_ ?_
   .rintro j σ He hj ⟨⟨y8,y9,rfl⟩,yI,zs4,hz4,po4,ez4⟩;have hbi:=hpw j (by lia);have hbp:0<b ^ j:=Nat.pow_pos (by lia);have hdv:(i:Int) / ((b ^ j:Nat):Int) % (b:Int)=((i / b ^ j % b:Nat):Int):=rfl;have eX:i / b ^ j % b<b:=lW _ (by lia);have zl:zs4.length<=1000:=by
     have e:=congrArg List.length ez4;rw[b_,aT,dh] at e;have z3:=rc (m:=i) (g:=HC b fg) (M:=25) fun x=>aZ (yP b2) (by lia);have z5:=yP (b:=b) (h:=i) b2 (i:=j);lia
    refine⟨_,rfl,_,rfl,_,_,rfl,rfl,⟨by lia,by lia⟩,_,rfl,_,_,rfl,rfl,(by show (0:Int)<(b:Int);lia),?_⟩;change bH 9 (V.int ((i:Int) / ((b ^ j:Nat):Int) % (b:Int))) _ _ _;rw[hdv];refine⟨_,rfl,.inl ⟨rfl,_,a8.of hz4⟩,_,rfl,_,_,rfl,rfl,_,rfl,_,_,rfl,⟨by lia,by lia,by lia,by lia⟩,fun L hL=>?_⟩;have hn:((b:Int)-(((i / b ^ j % b:Nat):Int)+1)).toNat=b-i / b ^ j % b-1:=by lia
    rw[hn];refine AQ (lo:=((i / b ^ j % b:Nat):Int)+1) (fun c=>jo (i,i+(c+1)*b ^ j)) (fun σ=>∃x,σ=[x,some (.int (i:Int)),some (.int ((i / b ^ j % b:Nat):Int)),some (.int ((b ^ j:Nat):Int))]) hL (by lia) ⟨_,rfl⟩ ?_ ?_
    .rintro c σ H7 R' Kf hc ⟨x,rfl⟩ sm7 kt;have hq:(((i / b ^ j % b:Nat):Int)+1+(c:Int)-((i / b ^ j % b:Nat):Int))*((b ^ j:Nat):Int)=(((c+1)*b ^ j:Nat):Int):=by rw[show ((i / b ^ j % b:Nat):Int)+1+(c:Int)-((i / b ^ j % b:Nat):Int)=((c+1:Nat):Int) by lia];exact(Int.natCast_mul _ _).symm
     refine⟨_,rfl,_,rfl,_,rfl,_,rfl,_,_,rfl,rfl,_,rfl,_,_,rfl,rfl,.inr ⟨by lia,by lia⟩,_,_,rfl,rfl,by show 2<=sizeLine;decide,fun t ht=>?_⟩;rw[hq];exact kt _ _ ⟨_,rfl⟩ ht
    .intro zs H7 s7 hL7 Sg ez7 _;have e5:zp zs=(NO b j i).map jo:=by rw[ez7];unfold NO;rw[dQ];rfl
     have l5:zs.length<=5:=by rw[<-b_,e5,aT];unfold NO;rw[aT,dk];lia
     refine⟨R,L,_,_,rfl,rfl,s7 _ _ hz4,hL7,by rw[dZ,dZ];exact aZ (show _<=1005 by lia) (by decide),?_⟩;refine⟨_,rfl,_,rfl,_,_,rfl,rfl,.inr ⟨by lia,by lia⟩,⟨some (.int (0+(j:Int))),some (.int ((i / b ^ j % b:Nat):Int)),?_⟩,?_⟩
     .rw[Nat.pow_succ];rfl
     .have eW:HC b (j+1) i=HC b j i++NO b j i:=by unfold HC;rw[eH]
      rw[eW,<-dP,dt];exact p8.ext hR yI hz4 po4 ez4 s7 Sg e5
   .rintro σ He ⟨⟨y8,y9,rfl⟩,Pe⟩;refine⟨⟨_,_,_,_,rfl⟩,?_⟩;rw[eH];exact Pe
  .rintro σ Hd ⟨⟨x3,x5,x6,x7,rfl⟩,sm,zy,wd,DM,NS⟩;refine⟨_,rfl,_,rfl,by show 2<=sizeLine;decide,fun t ht=>?_⟩;have st:=aj (o:=.tup [.int ((b ^ fg:Nat):Int),.ref R]) ht;have fr:∀ {a:Addr},H5 a=none->H a=none:=fun h=>Sf.free xf.full h;refine q t R (b ^ fg) zy _ (Sf.trans (aO.of (sm.trans st))) ((xf.same sm).same st) (fr (sm.free ht)) (fr hR) ae (st _ _ wd) (DM.same st) ?_;rw[NS];exact(Dq f1 f2 b1 b2 hm).1.perm (mr (List.Perm.map _ KY))
end
end r9
namespace L2
open PySem PySem.Spec PyProof.Rows
abbrev oQ(h:Heap)(z TI TO a:Addr)(f:Bool):Prop:=
 h.get? z=some { cls:=.type "zip",dict:=none,data:=.fields #[rawInt a,.bool f,.bool false,.ref TI,.ref TO],slots:=#[] }
theorem DR:typeLookup (.type "zip") "__len__"=pure none:=by rw[xK,xx];kernel_rfl
theorem A2:typeLookup (.type "zip") "__length_hint__"=pure none:=by rw[xK,xx];kernel_rfl
section
variable {prog:bL} {w:World} {A:br} {E:bV} {s:aR}
theorem xh{z TI TO a:Addr}{f:Bool}{oa:Obj}{Q:IL}(hz:oQ s.heap z TI TO a f)(ha:s.heap.get? a=some oa)(hQ:∀h',oQ h' z TI TO a true->Heap.SameBut z s.heap h'->Q false { s with heap:=h' }):wpAny (model prog w) A (Builtin.SmallTypes.ownedTupleIsFree (.ref z)) Q E s:=by
 unfold Builtin.SmallTypes.ownedTupleIsFree;refine au (gc hz rfl (x:=rawInt a) rfl ?_);show wpAny _ _ (loadIfAlive ((a:Int).toNat) >>= _) _ _ _;rw[gE];refine au (W.kdx_alive ha ?_);simp only[Option.isNone_some,iM,eG];refine au (gc hz rfl (x:=.bool f) rfl ?_);cases f with
 |true=>
  rw[ao (show ¬ ((Value.bool true != Value.bool true)=true) from di)];exact wpAny_pure (hQ s.heap hz (Heap.SameBut.refl _ _))
 |false=>
  rw[ap (show (Value.bool false != Value.bool true)=true from rfl)];refine au (qB hz (by simp) fun h₃ he₃ UG=>?_);exact wpAny_pure (hQ h₃ he₃ UG)
theorem HI{z TI TO i1 i2 l1 l2 a:Addr}{f:Bool}{oa:Obj}{k1 k2:Nat}{xs ys:bD}{x y:Value}{Q:IK}(D:ZipApart z TI TO i1 i2 l1 l2)(hz:oQ s.heap z TI TO a f)(ha:s.heap.get? a=some oa)(hTI:IsPair s.heap TI (.ref i1) (.ref i2))(h1:s.heap.IsListIter i1 l1 k1)(h2:s.heap.IsListIter i2 l2 k2)(Bo:s.heap.IsList l1 xs)(Ie:s.heap.IsList l2 ys)(hx:xs[k1]?=some x)(hy:ys[k2]?=some y)(hQ:∀h',oQ h' z TI TO a true->h'.IsListIter i1 l1 (k1+1)->h'.IsListIter i2 l2 (k2+1)->IsPair h' s.heap.objs.size x y->h'.objs.size=s.heap.objs.size+1->
   (∀c o,c≠z->c≠i1->c≠i2->s.heap.get? c=some o->h'.get? c=some o)->Q (some (.ref s.heap.objs.size)) { s with heap:=h' }):
  wpAny (model prog w) A (pyNext (.ref z)) Q E s:=by
 have hT:s.TypeIs (.ref z) "zip":=⟨_,hz,rfl⟩
 unfold pyNext;refine au (kW (o5 (name:=Str.ofString "__next__") hT F.slot_zip_next
  (lN F.slot_zip_next hT F.entry_zip_next ?_ (F.args_zip_next_1 _))))
 show wpAny _ _ (field (.ref z) 2 >>= _) _ _ _;refine au (gc hz rfl (x:=.bool false) rfl ?_);show wpAny _ _ (field (.ref z) 3 >>= _) _ _ _;refine au (gc hz rfl (x:=.ref TI) rfl ?_);refine au (iF hTI rfl ?_);show wpAny _ _ (Builtin.SmallTypes.ownedTupleIsFree (.ref z) >>= _) _ _ _;refine au (xh hz ha fun h₁ hz₁ Mc=>?_);simp only[iM,eG];refine au ?_;show wpAny _ _ (forIn #[Value.ref i1,Value.ref i2] _ _) _ _ _;rw[<-uq];simp only[qJ,qL];refine au (au (gK ?_));show wpAny _ _ (Builtin.SmallTypes.nextOf (.ref i1) >>= _) _ _ _;refine au (wpAny_nextOf_list_item (h1.extBut Mc.extBut D.i1z) (Bo.extBut Mc.extBut D.l1z) hx fun h₂ h1₂ Sk=>wpAny_pure ?_);refine wpAny_pure ?_;refine au (au (gK ?_));show wpAny _ _ (Builtin.SmallTypes.nextOf (.ref i2) >>= _) _ _ _;refine au (wpAny_nextOf_list_item ((h2.extBut Mc.extBut D.i2z).extBut Sk.extBut D.i12.symm) ((Ie.extBut Mc.extBut D.l2z).extBut Sk.extBut D.l2i1) hy fun h₃ h2₃ UG=>wpAny_pure ?_);refine wpAny_pure (wpAny_pure ?_);dsimp only;refine au (uH ?_ (by show 2<=sizeLine;decide));have iD:h₃.objs.size=s.heap.objs.size:=by rw[UG.1,Sk.1,Mc.1]
 refine wpAny_pure ⟨_,rfl,?_⟩;refine wpAny_pure ?_;show Q (some (.ref h₃.objs.size)) _;rw[iD];have up:∀c o,h₃.get? c=some o->(h₃.push { cls:=.type "tuple",data:=.seq #[x,y] }).get? c=some o:=fun c o e=>bP _ e;refine hQ _ (up _ _ (UG.extBut _ _ D.i2z.symm (Sk.extBut _ _ D.i1z.symm hz₁))) ((h1₂.extBut UG.extBut D.i12).at fun o e=>up _ o e) (h2₃.at fun o e=>up _ o e) ?_ (by rw[jc,iD]) fun c o c1 c3 c4 e=>up c o (UG.extBut _ _ c4 (Sk.extBut _ _ c3 (Mc.extBut _ _ c1 e)));rw[<-iD];exact cX _ rfl
theorem K8{z TI TO i1 i2 l1 l2 a:Addr}{f:Bool}{oa:Obj}{k1:Nat}{xs:bD}{Q:IK}(hh:A.handled=none)(D:ZipApart z TI TO i1 i2 l1 l2)(hz:oQ s.heap z TI TO a f)(ha:s.heap.get? a=some oa)(hTI:IsPair s.heap TI (.ref i1) (.ref i2))(h1:s.heap.IsListIter i1 l1 k1)(Bo:s.heap.IsList l1 xs)(hx:xs[k1]?=none)(hQ:∀h',(∀c o,c≠z->c≠TO->c≠i1->c≠i2->s.heap.get? c=some o->h'.get? c=some o)->Q none { s with heap:=h' }):
  wpAny (model prog w) A (pyNext (.ref z)) Q E s:=by
 have hT:s.TypeIs (.ref z) "zip":=⟨_,hz,rfl⟩
 unfold pyNext;refine au (kW (o5 (name:=Str.ofString "__next__") hT F.slot_zip_next
  (lN F.slot_zip_next hT F.entry_zip_next ?_ (F.args_zip_next_1 _))))
 show wpAny _ _ (field (.ref z) 2 >>= _) _ _ _;refine au (gc hz rfl (x:=.bool false) rfl ?_);show wpAny _ _ (field (.ref z) 3 >>= _) _ _ _;refine au (gc hz rfl (x:=.ref TI) rfl ?_);refine au (iF hTI rfl ?_);show wpAny _ _ (Builtin.SmallTypes.ownedTupleIsFree (.ref z) >>= _) _ _ _;refine au (xh hz ha fun h₁ hz₁ Mc=>?_);simp only[iM,eG];refine au ?_;show wpAny _ _ (forIn #[Value.ref i1,Value.ref i2] _ _) _ _ _;rw[<-uq];simp only[qJ,qL];refine au (au (gK ?_));show wpAny _ _ (Builtin.SmallTypes.nextOf (.ref i1) >>= _) _ _ _;refine au (wpAny_nextOf_list_end hh (h1.extBut Mc.extBut D.i1z) (Bo.extBut Mc.extBut D.l1z) hx fun h₂ e Sk he=>?_);obtain⟨o,ho,hc⟩:=he;refine au (Ck (T:="StopIteration") (b:=true) ⟨o,ho,hc⟩ isSubtype_stop ?_);exact wpAny_pure (hQ _ fun c o c1 _ c3 _ x=>Sk _ _ c3 (Mc.extBut _ _ c1 x))
structure Sl(h:Heap)(z TI TO i1 i2 l1 l2:Addr)(i:Nat)(xs ys:bD)(as:bR):Prop where
 hz:(as=[]/\IsZip h z TI TO .none)\/∃a r f,as=a::r/\oQ h z TI TO a f
 ti:IsPair h TI (.ref i1) (.ref i2)
 to:∃u v,IsPair h TO u v
 r1:h.IsListIter i1 l1 i
 r2:h.IsListIter i2 l2 i
 x:h.IsList l1 xs
 y:h.IsList l2 ys
 len:as.length=i
 pr:∀ (j:Nat) a,as[j]?=some a->∃x y,xs[j]?=some x/\ys[j]?=some y/\IsPair h a x y
theorem Sl.keep{h h':Heap}{z TI TO i1 i2 l1 l2 S:Addr}{i:Nat}{xs ys:bD}{as:bR}(t:Sl h z TI TO i1 i2 l1 l2 i xs ys as)(k:∀b o,b≠S->h.get? b=some o->h'.get? b=some o)(n1:z≠S)(n2:TI≠S)(n3:TO≠S)(n4:i1≠S)(n5:i2≠S)(n6:l1≠S)(n7:l2≠S)(n8:∀a∈as,a≠S):Sl h' z TI TO i1 i2 l1 l2 i xs ys as:=by
 obtain⟨hz,ti,⟨u,v,to⟩,r1,r2,x,y,len,pr⟩:=t;refine⟨?_,k _ _ n2 ti,⟨u,v,k _ _ n3 to⟩,r1.at fun o e=>k _ _ n4 e,r2.at fun o e=>k _ _ n5 e,?_,?_,len,fun j a hj=>?_⟩
 .rcases hz with ⟨e,q⟩|⟨a,r,f,e,q⟩
  .exact .inl ⟨e,k _ _ n1 q⟩
  .exact .inr ⟨a,r,f,e,k _ _ n1 q⟩
 .obtain⟨o,e,q⟩:=x;exact⟨o,k _ _ n6 e,q⟩
 .obtain⟨o,e,q⟩:=y;exact⟨o,k _ _ n7 e,q⟩
 .obtain⟨u,v,e1,e2,e3⟩:=pr j a hj;exact⟨u,v,e1,e2,k _ _ (n8 a (dz hj)) e3⟩
theorem K9{S z TI TO i1 i2 l1 l2 lo:Addr}{xs ys:bD}{R:zB}(hh:A.handled=none)(D:ZipApart z TI TO i1 i2 l1 l2)(hn:xs.size<=1000)(wT:xs.size=ys.size)(res:Value){h₁:Heap}(n1:z≠S)(n2:TI≠S)(n3:TO≠S)(n4:i1≠S)(n5:i2≠S)(n6:l1≠S)(n7:l2≠S)(Um:S<lo/\z<lo/\TO<lo/\i1<lo/\i2<lo)(hR:∀ (h':Heap) (tk:Nat) (dN:bD) (c:Nat) (as:bR),(∀b o,b≠S->b≠z->b≠TO->b≠i1->b≠i2->h₁.get? b=some o->h'.get? b=some o)->h'.get? S=some { cls:=.type "list",dict:=none,data:=.seq dN c,slots:=#[] }->as.length=xs.size->as.Nodup->(∀a∈as,lo<=a)->
   (∀ (j:Nat) a,as[j]?=some a->∃x y,xs[j]?=some x/\ys[j]?=some y/\IsPair h' a x y)->dN.toList=as.map Value.ref->R (.ok (.ret res)) { s with heap:=h',toks:=tk }):
  ∀ (k i:Nat) (h:Heap) (tk c:Nat) (dN:bD) (as:bR),xs.size-i=k->i<=xs.size->Sl h z TI TO i1 i2 l1 l2 i xs ys as->lo<=h.objs.size->(∀b o,b≠S->b≠z->b≠TO->b≠i1->b≠i2->h₁.get? b=some o->h.get? b=some o)->
   h.get? S=some { cls:=.type "list",dict:=none,data:=.seq dN c,slots:=#[] }->dN.toList=as.map Value.ref->as.Nodup->(∀a∈as,lo<=a)->
   codeAny (model prog w) A (.builtin "list.extend.loop" ⟨[.ref S,.ref z,res],[]⟩) R { s with heap:=h,toks:=tk }:=by
 obtain⟨m1,m2,m3,m4,m5⟩:=Um;intro k;induction k with
 |zero=>
  intro i h tk c dN as hk hi st hl K_ hS A3 nd ab;have wU:i=xs.size:=by lia
  have d_:∀h',(∀c o,c≠z->c≠TO->c≠i1->c≠i2->h.get? c=some o->h'.get? c=some o)->R (.ok (.ret res)) { s with heap:=h',toks:=tk }:=fun h' kp=>by
   refine hR h' tk dN c as (fun b o h1 h2 h3 h4 h5 e=>kp b o h2 h3 h4 h5 (K_ b o h1 h2 h3 h4 h5 e)) (kp S _ n1.symm n3.symm n4.symm n5.symm hS) (by rw[st.len,wU]) nd ab (fun j a hj=>?_) A3;obtain⟨u,v,e1,e2,e3⟩:=st.pr j a hj;have:=ab a (dz hj);exact⟨u,v,e1,e2,kp a _ (gO (by lia)) (gO (by lia)) (gO (by lia)) (gO (by lia)) e3⟩
  refine lT ID ?_;rw[qy Bz _];show wpAny _ A.in1 (pyNext (.ref z) >>= _) _ _ _;obtain⟨u,v,Md⟩:=st.to;rcases st.hz with ⟨e,q⟩|⟨a,r,f,e,q⟩
  .exact au (wpAny_pyNext_zip_end (s:={ s with heap:=h,toks:=tk }) (A:=A.in1) hh D q st.ti Md st.r1 st.r2 st.x st.y (.inl (by simp;lia)) fun h' kp=>wpAny_pure (d_ h' kp))
  .obtain⟨u',v',_,_,ga⟩:=st.pr 0 a (by rw[e];rfl);exact au (K8 (s:={ s with heap:=h,toks:=tk }) (A:=A.in1) hh D q ga st.ti st.r1 st.x (by simp;lia) fun h' kp=>wpAny_pure (d_ h' kp))
 |succ k ih=>
  intro i h tk c dN as hk hi st hl K_ hS A3 nd ab;have eX:i<xs.size:=by lia
  have iD:dN.size=i:=by rw[<-lJ,A3,aT,st.len]
  have hx:xs[i]?=some xs[i]:=by simp[eX]
  have hy:ys[i]?=some (ys[i]'(by lia)):=by simp
  have hal:∀a∈as,a<h.objs.size:=fun a ha=>by
   obtain⟨j,hj⟩:=xw.mp ha;obtain⟨_,_,_,_,e⟩:=st.pr j a hj;exact aS e
  have go:∀h' f,(∃u v,IsPair h' TO u v)->oQ h' z TI TO (as.headD h.objs.size) f->h'.IsListIter i1 l1 (i+1)->h'.IsListIter i2 l2 (i+1)->IsPair h' h.objs.size xs[i] (ys[i]'(by lia))->h'.objs.size=h.objs.size+1->(∀c o,c≠z->c≠TO->c≠i1->c≠i2->h.get? c=some o->h'.get? c=some o)->
    wpAny (model prog w) A.in1 (updateSeq S (·.push (Value.ref h.objs.size)) >>= fun _=>again (.builtin "list.extend.loop" ⟨[.ref S,.ref z,res],[]⟩)) (fun d_ s'=>match d_ with|.done f=>R (.ok f) s'|.again c'=>c'.quiet=true/\codeAny (model prog w) A c' R s') (fun e s'=>R (.error e) s') { s with heap:=h',toks:=tk }:=fun h' f ⟨u,v,Md⟩ gz g1 g2 gp gs kp=>by
   have Y1:=kp S _ n1.symm n3.symm n4.symm n5.symm hS;have up:∀b o,b≠S->h'.get? b=some o->(h'.update S (Obj.mapSeq (·.push (Value.ref h.objs.size)))).get? b=some o:=fun b o hb e=>(nM _ _ (dI hb)).trans e;have Ir:=nU (Obj.mapSeq (·.push (Value.ref h.objs.size))) Y1 rfl;have U1:∀a∈as++[h.objs.size],lo<=a:=fun a ha=>by
    rcases cL.mp ha with q|q
    .exact ab a q
    .rw[dA.mp q];exact hl
   have hnS:∀a∈as++[h.objs.size],a≠S:=fun a ha=>gO (bv m1 (U1 a ha));refine au (xI Y1 rfl (wpAny_pure ⟨uN Bz _,ih (i+1) _ tk _ (dN.push (Value.ref h.objs.size)) (as++[h.objs.size]) (by lia) eX ?_ ?_ (fun b o h1 h2 h3 h4 h5 e=>up b o h1 (kp b o h2 h3 h4 h5 (K_ b o h1 h2 h3 h4 h5 e))) Ir (by rw[nZ,A3,dt];rfl) ?_ U1⟩) (by rw[iD];exact aZ (show i<=1000 by lia) (by decide)) (by show (dN.push (Value.ref h.objs.size)).size<=sizeLine+1;rw[Array.size_push,iD];exact aZ (show i+1<=1001 by lia) (by decide)))
   .refine Sl.keep (h:=h') ⟨.inr ?_,kp _ _ D.TIz D.TITO D.TIi1 D.TIi2 st.ti,⟨u,v,Md⟩,g1,g2,?_,?_,by rw[dh,st.len];rfl,fun j b hj=>?_⟩ up n1 n2 n3 n4 n5 n6 n7 hnS
    .cases as with
     |nil=>exact⟨_,[],f,rfl,gz⟩
     |cons a r=>exact⟨a,r++[h.objs.size],f,rfl,gz⟩
    .obtain⟨o,e,q⟩:=st.x;exact⟨o,kp _ _ D.l1z D.l1TO D.l1i1 D.l1i2 e,q⟩
    .obtain⟨o,e,q⟩:=st.y;exact⟨o,kp _ _ D.l2z D.l2TO D.l2i1 D.l2i2 e,q⟩
    .rcases Nat.lt_trichotomy j as.length with h1|h1|h1
     .rw[j4 h1] at hj;obtain⟨u',v',e1,e2,e3⟩:=st.pr j b hj;have:=ab b (dz hj);exact⟨u',v',e1,e2,kp b _ (gO (by lia)) (gO (by lia)) (gO (by lia)) (gO (by lia)) e3⟩
     .subst h1;have hb:h.objs.size=b:=by simpa using hj
      subst hb;rw[st.len];exact⟨_,_,hx,hy,gp⟩
     .have vp:(as++[h.objs.size])[j]?=none:=f9 (by rw[dh,lO];lia);rw[vp] at hj;cases hj
   .rw[eV,gs];lia
   .exact j7.mpr ⟨nd,by simp,fun a ha b hb=>by rw[dA.mp hb];exact bf (hal a ha)⟩
  refine lT ID ?_;rw[qy Bz _];show wpAny _ A.in1 (pyNext (.ref z) >>= _) _ _ _;obtain⟨u,v,Md⟩:=st.to;rcases st.hz with ⟨e,q⟩|⟨a,r,f,e,q⟩
  .refine au (wpAny_pyNext_zip_item (s:={ s with heap:=h,toks:=tk }) D q st.ti Md st.r1 st.r2 st.x st.y hx hy fun h' a1 a2 a3 a4 a5 a6 a7=>?_);exact go h' false ⟨_,_,a2⟩ (by rw[e];exact a1) a3 a4 a5 a6 a7
  .obtain⟨u',v',_,_,ga⟩:=st.pr 0 a (by rw[e];rfl);refine au (HI (s:={ s with heap:=h,toks:=tk }) D q ga st.ti st.r1 st.r2 st.x st.y hx hy fun h' a1 a3 a4 a5 a6 a7=>?_);exact go h' true ⟨u,v,a7 TO _ D.TOz D.TOi1 D.TOi2 Md⟩ (by rw[e];exact a1) a3 a4 a5 a6 fun c o c1 _ c3 c4 e=>a7 c o c1 c3 c4 e
theorem DS{z TI TO i1 i2 l1 l2:Addr}{xs ys:bD}{R:zB}(hh:A.handled=none)(D:ZipApart z TI TO i1 i2 l1 l2)(hn:xs.size<=1000)(wT:xs.size=ys.size)(S:Addr)(c₀:Nat)(hS:s.heap.get? S=some { cls:=.type "list",data:=.seq #[] c₀ })(n1:z≠S)(n2:TI≠S)(n3:TO≠S)(n4:i1≠S)(n5:i2≠S)(n6:l1≠S)(n7:l2≠S)(st:Sl s.heap z TI TO i1 i2 l1 l2 0 xs ys [])(hR:∀ (h':Heap) (tk:Nat) (dN:bD) (c:Nat) (as:bR),(∀b o,b≠S->b≠z->b≠TO->b≠i1->b≠i2->s.heap.get? b=some o->h'.get? b=some o)->h'.get? S=some { cls:=.type "list",dict:=none,data:=.seq dN c,slots:=#[] }->as.length=xs.size->as.Nodup->(∀a∈as,s.heap.objs.size<=a)->
   (∀ (j:Nat) a,as[j]?=some a->∃x y,xs[j]?=some x/\ys[j]?=some y/\IsPair h' a x y)->dN.toList=as.map Value.ref->R (.ok (.ret .none)) { s with heap:=h',toks:=tk }):
  wpAny (model prog w) A.in1 (Builtin.List.listExtendWith (.ref S) (.ref z) .none)
   (fun d_ s'=>match d_ with|.done f=>R (.ok f) s'|.again c'=>c'.quiet=true/\codeAny (model prog w) A c' R s') (fun e s'=>R (.error e) s') s:=by
 have gz:IsZip s.heap z TI TO .none:=by
  rcases st.hz with ⟨_,q⟩|⟨a,r,f,e,q⟩
  .exact q
  .cases e
 have hT:s.TypeIs (.ref z) "zip":=⟨_,gz,rfl⟩
 unfold Builtin.List.listExtendWith;refine au (qP hT ?_);have h1:Builtin.List.listSameRef (.ref S) (.ref z)=false:=by simp[Builtin.List.listSameRef,n1.symm]
 have h2:(Value.type "zip"==Value.type "list")=false:=by decide
 have h3:(Value.type "zip"==Value.type "tuple")=false:=by decide
 simp only[h1,h2,h3,Bool.or_false,iM,eG];refine au (Cj gz ?_);refine au (gK ?_);unfold Builtin.List.listLengthHint;refine au (wpAny_specialOf hT DR ?_);show wpAny _ A.in1 (specialOf (Value.ref z) (Str.ofString "__length_hint__") >>= _) _ _ _;refine au (wpAny_specialOf hT A2 ?_);refine wpAny_pure ?_;show wpAny _ A.in1 (rule "list.extend.makes-room" >>= fun _=>Builtin.List.listTouch (.ref S) >>= fun _=>
  again (.builtin "list.extend.loop" ⟨[.ref S,.ref z,.none],[]⟩)) _ _ _
 refine au (fv ?_);refine au ?_;show wpAny _ A.in1 (updateSeq S (·.push .none) >>= fun _=>updateSeq S (·.pop)) _ _ _;refine au (xI hS rfl ?_);have Y2:=nU (Obj.mapSeq (·.push Value.none)) hS rfl;refine xI (hz:=by seq_fits) Y2 rfl ?_;have hS₃:=nU (Obj.mapSeq (·.pop)) Y2 rfl;have WS:∀b o,b≠S->s.heap.get? b=some o->((s.heap.update S (Obj.mapSeq (·.push Value.none))).update S (Obj.mapSeq (·.pop))).get? b=some o:=
  fun b o hb e=>(nM _ _ (dI hb)).trans ((nM _ _ (dI hb)).trans e)
 have WT:∀ {a k x},s.heap.IsListIter a k x->a<s.heap.objs.size:=fun h=>let ⟨o,e,_⟩:=h;aS e;obtain⟨u,v,Md⟩:=st.to;refine wpAny_pure ⟨uN F.plain_extend_loop _,K9 (s:=s) (h₁:=s.heap) (lo:=s.heap.objs.size) hh D hn wT .none n1 n2 n3 n4 n5 n6 n7 ⟨aS hS,aS gz,aS Md,WT st.r1,WT st.r2⟩ hR xs.size 0 _ s.toks _ #[] [] (uK _) (cp _)
  (st.keep WS n1 n2 n3 n4 n5 n6 n7 fun a ha=>(nomatch ha)) (by rw[eV,eV];exact aP _) (fun b o hb _ _ _ _ e=>WS b o hb e) hS₃ rfl kR fun a ha=>(nomatch ha)⟩
theorem wf{z TI TO i1 i2 l1 l2:Addr}{xs ys:bD}{Q:bV}(hh:A.handled=none)(D:ZipApart z TI TO i1 i2 l1 l2)(hn:xs.size<=1000)(wT:xs.size=ys.size)(st:Sl s.heap z TI TO i1 i2 l1 l2 0 xs ys [])(hQ:∀ (h':Heap) (tk:Nat) (dN:bD) (c:Nat) (as:bR),(∀b o,b≠z->b≠TO->b≠i1->b≠i2->s.heap.get? b=some o->h'.get? b=some o)->h'.get? s.heap.objs.size=some { cls:=.type "list",dict:=none,data:=.seq dN c,slots:=#[] }->as.length=xs.size->as.Nodup->(∀a∈as,s.heap.objs.size<a)->
   (∀ (j:Nat) a,as[j]?=some a->∃x y,xs[j]?=some x/\ys[j]?=some y/\IsPair h' a x y)->dN.toList=as.map Value.ref->Q (.ref s.heap.objs.size) { s with heap:=h',toks:=tk }):
  wpAny (model prog w) A (call (.type "list") [.ref z]) Q E s:=by
 refine callType_codes (Q₁:=fun obj s₁=>obj=.ref s.heap.objs.size/\s₁={ s with heap:=s.heap.push { cls:=.type "list",data:=.seq #[] } }) PySem.F.called_list (PySem.F.typeCall_list_1 _) PySem.F.entry_list_init
  (code_list_new _ ⟨rfl,rfl⟩) fun obj s₁ h₁=>?_
 obtain⟨rfl,rfl⟩:=h₁;have hS:(s.heap.push { cls:=.type "list",data:=.seq #[] }).get? s.heap.objs.size=some { cls:=.type "list",data:=.seq #[] }:=cX _ rfl;have gz:IsZip s.heap z TI TO .none:=by
  rcases st.hz with ⟨_,q⟩|⟨a,r,f,e,q⟩
  .exact q
  .cases e
 obtain⟨u,v,Md⟩:=st.to;have WT:∀ {a k x},s.heap.IsListIter a k x->a≠s.heap.objs.size:=fun h=>let ⟨o,e,_⟩:=h;bf (aS e);have l2':∀ {a x},s.heap.IsList a x->a≠s.heap.objs.size:=fun h=>let ⟨o,e,_⟩:=h;bf (aS e);have n1:=bf (aS gz);have n2:=bf (aS st.ti);have n3:=bf (aS Md);have n4:=WT st.r1;have n5:=WT st.r2;have n6:=l2' st.x;have n7:=l2' st.y;have Bp:=st.keep (h':=s.heap.push { cls:=.type "list",data:=.seq #[] }) (S:=s.heap.objs.size) (fun b o _ e=>bP _ e) n1 n2 n3 n4 n5 n6 n7 fun a ha=>(nomatch ha)
 refine⟨⟨_,hS,rfl⟩,PySem.F.args_list_init_2 _ _,?_⟩;show wpAny _ A.in1.in1 (do let iA <- Builtin.List.listItems (.ref s.heap.objs.size);Builtin.List.listUpdate (.ref s.heap.objs.size) (fun _=>#[]);letGo iA.toList.reverse;Builtin.List.listExtendWith (.ref s.heap.objs.size) (.ref z) .none) _ _ _;refine au ?_;unfold Builtin.List.listItems;refine au (iF hS rfl (wpAny_pure ?_));show wpAny _ A.in1.in1 (updateSeq s.heap.objs.size (fun _=>#[]) >>= fun _=>letGo (#[]:bD).toList.reverse >>= fun _=>Builtin.List.listExtendWith (.ref s.heap.objs.size) (.ref z) .none) _ _ _;refine au (xI hS rfl ?_);have Y2:=nU (Obj.mapSeq (fun _=>(#[]:bD))) hS rfl;have WS:∀b o,b≠s.heap.objs.size->(s.heap.push { cls:=.type "list",data:=.seq #[] }).get? b=some o->((s.heap.push { cls:=.type "list",data:=.seq #[] }).update s.heap.objs.size (Obj.mapSeq (fun _=>(#[]:bD)))).get? b=some o:=
  fun b o hb e=>(nM _ _ (dI hb)).trans e
 refine au (wpAny_letGo ?_);refine DS (A:=A.in1) hh D hn wT _ _ Y2 n1 n2 n3 n4 n5 n6 n7 (Bp.keep WS n1 n2 n3 n4 n5 n6 n7 fun a ha=>(nomatch ha)) fun h' tk dN c as hk Y1 hl hnd rX hpr A3=>⟨rfl,?_⟩
 refine hQ h' tk dN c as (fun b o b1 b2 b3 b4 e=>hk b o (bf (aS e)) b1 b2 b3 b4 (WS _ _ (bf (aS e)) (bP _ e))) Y1 hl hnd (fun a ha=>?_) hpr A3;have:=rX a ha;rw[eV,jc] at this;exact this
end
theorem aU.many(I:aU X af σ H s)(k:∀b u,s.heap.get? b=some u->h'.get? b=some u)(iA:∀b,b<s.heap.objs.size->H' b=H b)(new:∀b o,s.heap.objs.size<=b->H' b=some o->dB X.prog X.w H' h' b o):aU X af σ H' { s with heap:=h',toks:=t' }:=by
 have sm:∀b o,H b=some o->H' b=some o:=fun b o e=>by rw[iA b (I.cY b o e).lt];exact e
 refine I.un ⟨fun b u q _ _ _=>k b u q,fun b u q _ _ _=>⟨u.slots,k b u q⟩,fun b u q n _=>by rw[iA b (aS q)];exact n,fun b u q _=>⟨u,k b u q⟩,fun b xs q=>sm b _ q,fun b u xs q=>sm b _ q,fun b ps q=>⟨#[],by rw[sm b _ q];simp⟩⟩ fun b o e=>?_;by_cases hb:b<s.heap.objs.size
 .rw[iA b hb] at e;exact(I.cY b o e).jP (fun d u _ q=>k d u q) (fun d q=>sm d _ q) fun d xs q=>sm d _ q
 .exact new b o (Nat.not_lt.mp hb) e
open r9 in
def A7(H:Hp)(S:Addr)(zs:Zs):Hp:=fun b=>if b=S then some (.lst (zr zs)) else match zs.find? (fun z=>decide (z.1=b)) with
 |some z=>some (oY z.2)
 |none=>H b
open r9 in
theorem Ft:∀ {zs:Zs} {z:Addr×Int×Int},(zs.map (·.1)).Nodup->z∈zs->zs.find? (fun y=>decide (y.1=z.1))=some z
 |y::zs,z,nd,hz=>by
  obtain⟨n1,n2⟩:=gI.mp nd;rw[lR];rcases bq.mp hz with rfl|q
  .simp
  .have:y.1≠z.1:=fun e=>n1 (bB.mpr ⟨z,q,e.symm⟩);rw[gY this];exact Ft n2 q
section
open r9
variable {X:Cx}
def tLZ(K:a_)(ta:TA):TE:=fun σ H Q=>ta σ H fun vs H1=>∃ (a b:Addr) (ns ms:dG),vs=[.ref a,.ref b]/\a8 K H1 a (ns.map V.int)/\a8 K H1 b (ms.map V.int)/\ns.length=ms.length/\ns.length<=1000/\
 ∀ (l:Addr) (zs:Zs) (H':Hp),aI H1 H'->H1 l=none->H' l=some (.lst (zr zs))->r9.PO H' zs->zp zs=ns.zip ms->Q (.ref l) H'
theorem vJ:∀ {ns:dG} {us:bw} {j:Nat} {x:Value},ba (ns.map V.int) us->us[j]?=some x->∃n t,ns[j]?=some n/\x=.int n t
 |[],_,j,x,.nil,h=>by cases h
 |n::ns,_,0,x,.cons ⟨t,e⟩ r,h=>by subst e;cases h;exact⟨n,t,rfl,rfl⟩
 |n::ns,_,j+1,x,.cons _ r,h=>vJ (ns:=ns) r h
theorem Fu:∀ {zs:Zs},ba (zr zs) (zs.map fun z=>Value.ref z.1)
 |[]=>.nil
 |z::zs=>.cons rfl (Fu (zs:=zs))
theorem WU{a b:Expr}{ta:TA}{p p2 pos WV:Pos}(hc:X.calm=true)(hg:Gl X "zip")(hm:X.mg "zip"=none)(L_:Gl X "list")(QY:X.mg "list"=none)(ha:PA X [a,b] ta)(hs:starEach [a,b] X.env=[(false,eval a X.env),(false,eval b X.env)]:=by rfl)(oX:starEach [b] X.env=[(false,eval b X.env)]:=by rfl)(he:starEach [.Call (.Name "zip" p) [a,b] [] pos] X.env=[(false,eval (.Call (.Name "zip" p) [a,b] [] pos) X.env)]:=by rfl)(V5:starEach [] X.env=[]:=by rfl):
  PE X (.Call (.Name "list" p2) [.Call (.Name "zip" p) [a,b] [] pos] [] WV) (tLZ X.K ta):=by
 intro af s σ H Q I h;refine nX (jQ I L_ QY qp ?_);refine callWith_type1 ?_ (by rw[he,V5]) (by rw[V5];rfl);rw[he];show wpAny _ _ (spliced ((false,eval (.Call (.Name "zip" p) [a,b] [] pos) X.env)::backTo WV [])) _ _ s;refine Calls.spliced_cons ?_;refine Call_ (jQ I hg hm PyProof.Rows.boot_zip (qk (eD (ha pos af s σ H _ I h) fun us s1 ⟨vs,H1,I1,r1,q1⟩=>?_) (by rw[hs,oX]) (by rw[oX];rfl)));obtain⟨l,m,ns,ms,rfl,hl,hm',wT,Ur,q⟩:=q1;obtain⟨u1,u2,rfl,V6,ru2⟩:=r1.two;obtain rfl:u1=Value.ref l:=V6;obtain rfl:u2=Value.ref m:=ru2;obtain⟨its,rv,pt,_⟩:=I1.list hl;obtain⟨k_,rv2,Es,_⟩:=I1.list hm';have il:its.length=ns.length:=by rw[<-rv.length,aT]
 have il2:k_.length=ms.length:=by rw[<-rv2.length,aT]
 have eX:l<s1.heap.objs.size:=by obtain⟨o,e,_⟩:=pt.isList;exact aS e
 have J0:m<s1.heap.objs.size:=by obtain⟨o,e,_⟩:=Es.isList;exact aS e
 refine call_zip_2 pt.isList Es.isList fun h' gz gi gq r1 r2 gs k=>?_;refine Calls.spliced_nil ?_;have kl:∀ {a x},s1.heap.IsList a x->h'.IsList a x:=fun z=>let ⟨o,e,r⟩:=z;⟨o,k _ _ e,r⟩;refine wf (s:={ s1 with heap:=h' }) (I1.ok.hd hc) (zipApart_new eX J0) (by simp;lia) (by simp;lia) ⟨.inl ⟨rfl,gz⟩,gi,⟨_,_,gq⟩,r1,r2,kl pt.isList,kl Es.isList,rfl,fun j a hj=>by simp at hj⟩ fun h2 tk dN c as k2 hS hal nd ab pr A3=>?_;have kk:∀b u,s1.heap.get? b=some u->h2.get? b=some u:=fun b u e=>by
  have:=aS e;exact k2 b u (bf (by lia)) (bf (by lia)) (bf (by lia)) (bf (by lia)) (k b u e)
 have gs':h'.objs.size=s1.heap.objs.size+5:=gs;have acr:as.length=ns.length:=by rw[hal];simp;exact il
 let zs:Zs:=as.zip (ns.zip ms)
 have z1:zs.map (·.1)=as:=List.map_fst_zip (by rw[qI];lia);have z2:zp zs=ns.zip ms:=List.map_snd_zip (by rw[qI];lia);have nd':(zs.map (·.1)).Nodup:=by rw[z1];exact nd
 have zpr:∀z∈zs,h'.objs.size<z.1/\∃t u,IsPair h2 z.1 (.int z.2.1 t) (.int z.2.2 u):=fun z hz=>by
  obtain⟨j,hj⟩:=xw.mp hz;obtain⟨e1,e2⟩:=xp.mp hj;obtain⟨e3,e4⟩:=xp.mp e2;obtain⟨x,y,f1,f2,f3⟩:=pr j z.1 e1;obtain⟨n,t,g1,rfl⟩:=vJ rv (by simpa using f1);obtain⟨n',u,g2,rfl⟩:=vJ rv2 (by simpa using f2);rw[e3] at g1;rw[e4] at g2;cases g1;cases g2;exact⟨ab _ (dz e1),t,u,f3⟩
 have fS:∀z∈zs,z.1≠h'.objs.size:=fun z hz=>gO (zpr z hz).1;have po:r9.PO (A7 H1 h'.objs.size zs) zs:=fun z hz=>by
  unfold A7;rw[ao (fS z hz),Ft nd' hz]
 have La:(A7 H1 h'.objs.size zs) h'.objs.size=some (.lst (zr zs)):=by unfold A7;rw[ap rfl]
 have iA:∀b,b<s1.heap.objs.size->(A7 H1 h'.objs.size zs) b=H1 b:=fun b hb=>by
  unfold A7;rw[ao (bf (by lia)),B1.mpr fun z hz q=>?_];have:=(zpr z hz).1;have:=fu q;lia
 have Us:dN.toList=zs.map fun z=>Value.ref z.1:=by rw[A3,<-z1,dQ];rfl
 have I2:aU X af σ (A7 H1 h'.objs.size zs) { s1 with heap:=h2,toks:=tk }:=I1.many (t':=tk) kk iA fun b o hb e=>by
  unfold A7 at e;by_cases eb:b=h'.objs.size
  .subst eb;rw[ap rfl] at e;cases e;refine⟨?_,dN.toList,c,?_,by simpa using hS⟩
   .rw[dZ,<-b_,z2,qI];exact aZ (show _<=1000 by lia) (by decide)
   .rw[Us];exact Fu
  .rw[ao eb] at e;cases f:zs.find? (fun z=>decide (z.1=b)) with
   |none=>
    rw[f] at e;have:H1 b=some o:=e;exact absurd (I1.cY b o this).lt (by lia)
   |some z=>
    rw[f] at e;cases e;have hz:=IE f;obtain rfl:z.1=b:=fu (Cc (p:=fun z:Addr×Int×Int=>decide (z.1=b)) f);obtain⟨_,t,u,gp⟩:=zpr z hz;exact⟨by show 2<=sizeLine;decide,[.int z.2.1 t,.int z.2.2 u],.cons ⟨_,rfl⟩ (.cons ⟨_,rfl⟩ .nil),_,gp,rfl,_,rfl,rfl⟩
 exact⟨.ref h'.objs.size,_,I2,rfl,q _ zs _ (fun b o e=>by rw[iA b (I1.cY b o e).lt];exact e) (I1.cY.fresh (by lia)) La po z2⟩
end
end L2
namespace r9
open PySem L2 ln
abbrev Sm:Stmt:=top 45
abbrev Sn:Stmt:=top 46
theorem lF:(["_law_turn","_law_left","_law_pot_here"]:bQ).Nodup:=by decide +kernel
theorem yQ:(["_law_tie","_law_found"]:bQ).Nodup:=by decide +kernel
theorem sZ:(["_law_house","_law_counts"]:bQ).Nodup:=by decide +kernel
theorem oU:(["_law_k","_law_left","_law_pot_here"]:bQ).Nodup:=by decide +kernel
theorem jm:(["_law_one","_law_other","_law_names"]:bQ).Nodup:=by decide +kernel
abbrev Sq(K:a_):TE:=(tBM K "list" Jm (bb 1) (bJ (rR ip [] E0 (bJ (bb 2) (bJ (Vp (fun xs H Q=>∃p ys,xs=[V.ref p]/\(a8 K H p ys\/cu K H p ys)/\Q (.int ys.length) H) (bJ (bb 1) h_)) h_))) h_))
def s_(n:Nat)(ts:Ts):List Nat:=(List.range n).map fun (h:Nat)=>gu ts (ci h)
theorem Lb:(s_ n ts).length=n:=by unfold s_;rw[aT,dk]
theorem Lc(hh:h<n):(s_ n ts).getD h 0=gu ts (ci h):=by
 unfold s_;rw[cw,cA,f_ hh];rfl
theorem Ld:(oO xs).map (·.1)=xs.map ci:=by
 unfold oO;rw[dQ];refine lL fun k=>?_;rw[cA,cA];by_cases h:k<xs.length
 .rw[f_ h,cz h];exact congrArg (fun x=>some (ci x)) (dD h)
 .rw[f9 (by rw[dk];lia),f9 (by lia)];rfl
theorem A8(nd:xs.Nodup):gu (oO xs) (ci h)=if h∈xs then 1 else 0:=by
 unfold gu;rw[io,Ld];have nd':=vt nd;have e:ci h∈xs.map ci↔h∈xs:=by
  rw[bB];exact⟨fun ⟨a,ha,e⟩=>d7 e ▸ ha,fun hh=>⟨h,hh,rfl⟩⟩
 by_cases hh:h∈xs
 .rw[ap hh];exact Nat.le_antisymm (List.nodup_iff_count.mp nd' _) (List.count_pos_iff.mpr (e.mpr hh))
 .rw[ao hh];exact List.count_eq_zero.mpr fun z=>hh (e.mp z)
theorem HJ:List.replicate n (V.int 1)=NV (s_ n (oO (List.range n))):=by
 refine lL fun i=>?_;unfold NV s_;rw[dQ,ud,cA];by_cases hi:i<n
 .rw[ap hi,f_ hi];show some (V.int 1)=some (V.int ((gu (oO (List.range n)) (ci i):Nat):Int));rw[A8 jH,ap (bY.mpr hi)];rfl
 .rw[ao hi,f9 (by rw[dk];lia)];rfl
theorem WW(h:0<zs.length):zr zs≠NV ns:=fun e=>by
 cases zs with
 |nil=>exact absurd h (jd _)
 |cons z zs=>
  cases ns with
  |nil=>cases e
  |cons n ns=>exact absurd (oh e).1 (by intro z;cases z)
theorem _root_.ln.cJ.pos(F:cJ n ts):0<ts.length:=by
 obtain⟨k,w⟩:=F.con 0 1 (by have:=F.n1;lia) (by have:=F.n1;lia);cases k with
 |zero=>cases w
 |succ k=>obtain⟨c,_,t⟩:=w;exact ue t
theorem HK:(cs.map ci).zip ((cs.drop 1++cs.take 1).map ci)=oO cs:=by
 refine lL fun k=>?_;unfold oO;rw[cA];by_cases h:k<cs.length
 .rw[f_ h];refine xp.mpr ⟨?_,?_⟩
  .show _=some (ci (cs.getD k 0));rw[cA,cz h,dD h];rfl
  .show _=some (ci (cs.getD ((k+1) % cs.length) 0));rw[cA];by_cases h2:k+1<cs.length
   .rw[j4 (by rw[kM];lia),List.getElem?_drop,Nat.add_comm 1 k,cz h2,jF h2,dD h2];rfl
   .rw[rN (by rw[kM];lia),kM,show k-(cs.length-1)=0 by lia,show k+1=cs.length by lia,Nat.mod_self,BF (by lia),cz (by lia),dD (by lia)];rfl
 .rw[f9 (by rw[qI,aT,aT,dh,kM,kL];lia),f9 (by rw[dk];lia)];rfl
theorem A9(hp:bn H p)(hL:H L=some (.lst (NV (List.range m))))(npL:L≠p)(hD:H D'=none)(hr:r<=m)(hm:m<=32)(q:∀ (xs ls:aQ) (H2:Hp),(∀b o,H b=some o->b≠p->b≠L->H2 b=some o)->bn H2 p->H2 D'=some (.lst (NV xs))->(xs++ls).Perm (List.range m)->xs.length=r->d_ H2):
  iy (H_ 0 r) (bH 0) QO (Sq K) D' d_ [none,some (.ref L),some (.ref p)] (upd H D' (.lst [])):=by
 have npD:D'≠p:=hp.ne hD;have nLD:L≠D':=am hL hD;refine fJ (n:=r) (lo:=0) (fun i ys σ H2=>(∃k,σ=[k,some (.ref L),some (.ref p)])/\(∀b o,H b=some o->b≠p->b≠L->H2 b=some o)/\bn H2 p/\∃ls xs:List Nat,H2 L=some (.lst (NV ls))/\H2 D'=some (.lst ys)/\ys=NV xs/\(xs++ls).Perm (List.range m)/\xs.length=i)
  ⟨⟨_,rfl⟩,fun b o e _ _=>aj hD b o e,hp.same (aj hD),List.range m,[],by rw[aq nLD];exact hL,ae,rfl,iE _,rfl⟩ ?_ ?_
 .rintro i ys σ H2 Kt Kf hi ⟨⟨k',rfl⟩,sm,vP,ls,xs,Y3,jz,rfl,pm,xl⟩ kt kf;have ll:ls.length=m-i:=by have:=pm.length_eq;rw[dh,dk] at this;lia
  refine⟨_,rfl,.inl ⟨rfl,_,a8.of Y3⟩,_,rfl,_,rfl,L,_,rfl,.inl (a8.of Y3),p,_,rfl,by rw[be];lia,by rw[be];lia,vP,fun d H3 hd s3 nE=>?_⟩;rw[be] at hd;have hv:ls[d]?=some ls[d]:=cz hd;refine⟨L,_,(d:Int),d,.int (ls[d]:Nat),rfl,rfl,s3 _ _ Y3 npL,by lia,by lia,(xX (eJ (by rw[be];exact hd))).1,by unfold NV;rw[cA,hv];rfl,?_⟩;refine kt _ _ _ (by rw[aq nLD.symm];exact s3 _ _ jz npD) (by rw[be,xl];exact bv (show i<33 by lia) (by decide)) ⟨⟨_,rfl⟩,fun b o e n n2=>?_,?_,ls.eraseIdx d,xs++[ls[d]],by rw[aq nLD,ae,AY],ae,by rw[jA],KR pm hv,by rw[dh,xl];rfl⟩
  .rw[aq (am e hD),aq n2];exact s3 _ _ (sm _ _ e n n2) n
  .exact(nE.put npL.symm).put npD.symm
 .rintro ys σ H2 ⟨_,sm,vP,ls,xs,Y3,jz,rfl,pm,xl⟩;exact q xs ls H2 sm vP jz pm xl
section
variable {P:bL} {w:World} {K:a_} {mg:cr} {base:Heap}
theorem Fv:aN ["_law_pot_here","_law_many","_law_ties","_law_names","_law_left"] ["_law_pot_here","_law_many","_law_ties"] (aw Sn):=dW (by decide +kernel)
def Fw:Sp:=fun vs H Q _=>∃ (p l:Addr) (n:Nat) (zs:Zs),vs=[.ref p,.int n,.ref l]/\bn H p/\H l=some (.lst (zr zs))/\PO H zs/\l≠p/\cJ n (zp zs)/\∀ (r:Addr) (jy:Zs) (H':Hp),aO p H H'->bn H' p->H r=none->H' r=some (.lst (zr jy))->PO H' jy->cJ n (zp jy)->Q (.ref r) H'
theorem Sr(F:iI K "_law_renamed" "_law_renamed" Sn f fd)(B:Bl mg)(D:d9 P w K mg base bo 1 "_law_take" ["_law_pot_here","_law_many"] ip):bU P w K mg base bo 2 f fd ["_law_pot_here","_law_many","_law_ties"] Fw:=by
 refine F.ok Fv (fun vs H Q E h=>?_) (fun fX A outer s H vs Q E hr h=>?_)
 .obtain⟨p,l,n,zs,rfl,_⟩:=h;rfl
 .obtain⟨p,l,n,zs,rfl,hp,hl,po,nlp,Fi,q⟩:=h;have n2:=Fi.n2;have zl:zs.length<=256:=by have:=Fi.len;rwa [b_] at this
  refine'⟨_,(ak (aW (i:=3) Fv.nd rfl cW (cU (oz rfl) (by rfl) B.lst qp (aa (cU me (by rfl) B.range BI (aa (pv 1) ag)) ag)))
   (ak (dS (aY iR (aH D hr aM (aa (pv 0) (aa az ag))) az (bp _)) (ak (aW (i:=4) Fv.nd rfl cW (cU (oz rfl) (by rfl) B.lst qp (aa (cU me (by rfl) B.range BI (aa (pv 1) ag)) ag)))
    (av (aW (i:=3) Fv.nd rfl cW ?c1))) b8)
   (av (bh ?c2)))),?_⟩
  case c1=>
   refine' cQ (g:=(bH 0)) (te:=(Sq K)) (NB:=["_law_k","_law_left","_law_pot_here"]) (src:=[none,some 4,some 0]) (bz (by kernel_rfl)) rfl (b9 rfl B.range (aa (pv 1) ag)) ?g ?t ?e;case g=>exact fun cl C s₃ H₃ fp=>(aA (i:=0) oU rfl aL cW)
   case t=>exact fun cl C s₃ H₃ fp=>dC
   case e=>exact fun cl C s₃ H₃ fp=>(gQ gy PySem.F.slot_list_pop PySem.F.type_list_pop z7 (pv 1) (aa (aH D hr aM (aa (pv 2) (aa (aJ aV (by rfl) B.len fc (aa (pv 1) ag)) ag))) ag))
  case c2=>
   refine' cQ (g:=(uS K 2 (gn (bH 0) (gn (bH 1) uR)))) (te:=(sG (bJ (jS (sI K) (bb 2) (bb 0)) (bJ (jS (sI K) (bb 2) (bb 1)) h_)))) (NB:=["_law_one","_law_other","_law_names"]) (src:=[none,none,some 3]) (bz (by kernel_rfl)) rfl (bN (pv 2)) ?g ?t ?e;case g=>exact fun cl C s₃ H₃ fp=>(dX (n:=2) rfl (aE (aA (i:=0) jm rfl aL cW) (aE (aA (i:=1) jm rfl aL cW) cM)))
   case t=>exact fun cl C s₃ H₃ fp=>dC
   case e=>exact fun cl C s₃ H₃ fp=>(bT (aa (aX aG (pv 2) (pv 0) (fun _ _=>rfl)) (aa (aX aG (pv 2) (pv 1) (fun _ _=>rfl)) ag)))
  refine⟨_,rfl,n,rfl,fun R hR=>⟨R,n,rfl,ae,by lia,fun N hN=>?_⟩⟩;have s0:aI H (upd (upd H R (.Ek 0 n)) N (.lst (NV (List.range n)))):=(aj hR).trans (aj hN);have gN:=ae (H:=upd H R (.Ek 0 n)) (a:=N) (o:=.lst (NV (List.range n)));have hNH:H N=none:=(aj hR).free hN;generalize upd (upd H R _) N _=H0 at *;dsimp only;refine xa (fun σ Hc=>∃N xs v,σ=[some (.ref p),some (.int n),some (.ref l),some (.ref N),v]/\aO p H Hc/\bn Hc p/\Hc N=some (.lst (NV xs))/\xs.Perm (List.range n)) ?_ ?_
  .rintro σ Hc ⟨N,xs,v,rfl,sc,oP,hNc,pm⟩;have xl:xs.length=n:=by have:=pm.length_eq;rwa [dk] at this
   have hlc:=sc _ _ hl nlp;have poc:=po.sf sc hp;refine⟨_,rfl,l,rfl,⟨_,a8.of hlc⟩,fun D1 DH=>?_⟩;refine vz (ren xs) (fun σ=>∃a b,σ=[a,b,some (.ref N)]) hlc poc DH (by lia) ⟨_,_,rfl⟩ ?_ ?_
   .rintro z σ H3 Rr Kf hz ⟨a,b,rfl⟩ s3 ha kt;obtain⟨⟨a0,a1⟩,⟨b0,b1⟩⟩:=Fi.rg z.2 (bB.mpr ⟨z,hz,rfl⟩);have gt:∀x:Int,0<=x->x<n->zY (NV xs) x=some (.int (ci (xs.getD x.toNat 0))):=fun x h0 h1=>by
     have:=aD (xs:=NV xs) (iT (xs:=xs) (j:=x.toNat) (by lia));rwa [qw h0] at this
    refine⟨z.1,_,rfl,cu.of ha,rfl,_,_,rfl,_,_,rfl,rfl,?_⟩;exact⟨_,rfl,_,rfl,N,_,_,_,rfl,rfl,a8.of (s3 _ _ hNc),gt _ a0 a1,_,rfl,_,rfl,N,_,_,_,rfl,rfl,a8.of (s3 _ _ hNc),gt _ b0 b1,by show 2<=sizeLine;decide,fun t ht=>kt _ _ ⟨_,_,rfl⟩ ht⟩
   .intro jy H3 s3 h3 RQ e3 _;exact q D1 jy H3 (sc.trans (aO.of s3)) (oP.same s3) (sc.free oP.full DH) h3 RQ (by rw[e3];exact Fi.ren pm)
  .intro Nx hNx;refine⟨_,rfl,p,2,rfl,by decide,by decide,hp.same s0,fun d H1 hd s1 mY=>⟨rfl,_,rfl,?_⟩⟩;have P7:aO p H H1:=(aO.of s0).trans s1;refine gU (fun c=>?_) (fun c=>hNx _ _ ⟨N,_,_,rfl,P7,mY,s1 _ _ gN (hp.ne hNH),iE _⟩);refine⟨_,rfl,n,rfl,fun R2 wd=>⟨R2,n,rfl,ae,by lia,fun L hL=>?_⟩⟩;have sL:aI H1 (upd (upd H1 R2 (.Ek 0 n)) L (.lst (NV (List.range n)))):=(aj wd).trans (aj hL);have gL:=ae (H:=upd H1 R2 (.Ek 0 n)) (a:=L) (o:=.lst (NV (List.range n)));have t8:H1 L=none:=(aj wd).free hL;generalize upd (upd H1 R2 _) L _=H2 at *;refine⟨_,rfl,(n:Int),rfl,by lia,by lia,fun D1 DH=>?_⟩;rw[gE];refine A9 (mY.same sL) gL (mY.ne t8) DH (aP _) n2 fun xs ls H3 s3 nE h3 pm xl=>?_;obtain rfl:ls=[]:=List.length_eq_zero_iff.mp (by have:=pm.length_eq;rw[dh,dk] at this;lia);rw[jI] at pm;refine hNx _ _ ⟨D1,xs,_,rfl,fun b o e m=>s3 _ _ (sL _ _ (P7 _ _ e m)) m ?_,nE,h3,pm⟩;rintro rfl;rw[P7 _ _ e m] at t8;cases t8
theorem my:aN ["_law_pot_here","_law_many","_law_found","_law_counts","_law_k","_law_left","_law_size","_law_some","_law_ties","_law_new","_law_house"] ["_law_pot_here","_law_many"] (aw Sm):=dW (by decide +kernel)
def Le:Sp:=fun vs H Q _=>∃ (p:Addr) (n:Nat),vs=[.ref p,.int n]/\2<=n/\n<=32/\bn H p/\∀ (r:Addr) (zs:Zs) (H':Hp),aO p H H'->bn H' p->H r=none->H' r=some (.lst (zr zs))->PO H' zs->cJ n (zp zs)->Q (.ref r) H'
theorem Ss(F:iI K "_law_one_way" "_law_one_way" Sm f fd)(B:Bl mg)(B2:UB mg)(D:d9 P w K mg base bo 1 "_law_take" ["_law_pot_here","_law_many"] ip)(RG:d9 P w K mg base bo 1 "_law_ring" ["_law_many"] yN):bU P w K mg base bo 2 f fd ["_law_pot_here","_law_many"] Le:=by
 refine F.ok my (fun vs H Q E h=>?_) (fun fX A outer s H vs Q E hr h=>?_)
 .obtain⟨p,n,rfl,_⟩:=h;rfl
 .obtain⟨p,n,rfl,n1,n2,hp,q⟩:=h;refine'⟨_,(ak (d8 (bT (aa (aH RG hr aM (aa (pv 1) ag)) (aa (a9 yf (cH (aa az ag)) (pv 1)) ag))) (dX (n:=2) rfl (aE (aA (i:=2) my.nd rfl cW) (aE (aA (i:=3) my.nd rfl cW) cM))))
   (ak (du eI rfl (b9 rfl B.range (aa (aH D hr aM (aa (pv 0) (aa (a9 dM (pv 1) az) ag))) ag)) (aA (i:=4) my.nd rfl aL)
    (ak (aW (i:=5) my.nd rfl cW (cU (oz rfl) (by rfl) B.lst qp (aa (cU me (by rfl) B.range BI (aa (pv 1) ag)) ag)))
    (ak (aW (i:=6) my.nd rfl aL (a9 dM az (aH D hr aM (aa (pv 0) (aa (aJ (qW rfl) (by rfl) B.min BL (aa az (aa (a9 k8 (pv 1) az) ag))) ag)))))
    (ak (fE (i:=7) (g:=(bH 0)) (te:=(Sq K)) (NB:=["_law_turn","_law_left","_law_pot_here"]) (src:=[none,some 5,some 0]) (bz (by kernel_rfl)) rfl (b9 rfl B.range (aa (pv 6) ag)) ?g1 ?t1 ?e1 my.nd rfl rfl rfl)
    (ak (aW (i:=8) my.nd rfl aL (WU rfl rfl B2.zip rfl B.lst (aa (pv 7) (aa (a9 uZ (l_ xZ (pv 7) (pF az) pE) (l_ xZ (pv 7) pE (pF az))) ag))))
    (ak (fE (i:=9) (g:=(bH 0)) (tt:=(pA (jS (Rj K true) (bb 0) (bb 1)))) (te:=(bb 0)) (NB:=["_law_tie","_law_found"]) (src:=[none,some 2]) (bz (by kernel_rfl)) rfl (bN (pv 8)) ?g2 ?t2 ?e2 my.nd rfl rfl rfl)
    (av (dS (PW.pt (xU (aY iR (aJ aV (by rfl) B.len fc (aa (pv 9) ag)) (aJ aV (by rfl) B.len fc (aa (pv 8) ag)) (bp _)) (tJ (aY nw (aJ (Hb rfl) (by rfl) B.max BM (aa ?c3 ag)) az (bp _))))) (ak (aW (i:=2) my.nd rfl cW (a9 uZ (pv 2) (pv 8)))
     (av (du eI rfl (bN (pv 7)) (aA (i:=10) my.nd rfl aL)
      (av (d8 (a9 dM (aX aG (pv 3) (pv 10) (fun _ _=>rfl)) az) (gx (pv 3) (pv 10) dY)))))) b8))))))))
   (av (bh (pv 2))))),?_⟩
  case g1=>exact fun cl C s₃ H₃ fp=>(aA (i:=0) lF rfl aL cW)
  case t1=>exact fun cl C s₃ H₃ fp=>dC
  case e1=>exact fun cl C s₃ H₃ fp=>(gQ gy PySem.F.slot_list_pop PySem.F.type_list_pop z7 (pv 1) (aa (aH D hr aM (aa (pv 2) (aa (aJ aV (by rfl) B.len fc (aa (pv 1) ag)) ag))) ag))
  case g2=>exact fun cl C s₃ H₃ fp=>(aA (i:=0) yQ rfl aL cW)
  case t2=>exact fun cl C s₃ H₃ fp=>g8 (aY (mR hr.u) (pv 0) (pv 1) rfl)
  case e2=>exact fun cl C s₃ H₃ fp=>(pv 0)
  case c3=>
   refine' cQ (g:=(bH 0)) (te:=(jS (sI K) (bb 1) (bb 0))) (NB:=["_law_house","_law_counts"]) (src:=[none,some 3]) (bz (by kernel_rfl)) rfl (bN (pv 7)) ?g ?t ?e;case g=>exact fun cl C s₃ H₃ fp=>(aA (i:=0) sZ rfl aL cW)
   case t=>exact fun cl C s₃ H₃ fp=>dC
   case e=>exact fun cl C s₃ H₃ fp=>(aX aG (pv 1) (pv 0) (fun _ _=>rfl))
  refine⟨_,rfl,n,rfl,n1,n2,fun T0 Dw H1 s1 Se hT1 P8 ez1=>⟨by show 1<=sizeLine;decide,fun L1 t8=>⟨_,rfl,L1,_,_,rfl,rfl,ae,by lia,by lia,by rw[gE,lO];exact aZ (show 1*n<=32 by lia) (by decide),fun M hM=>?_⟩⟩⟩;rw[gE,mw,HJ];refine⟨by show 2<=sizeLine;decide,fun T1 aax=>⟨T1,_,rfl,cu.of ae,rfl,_,_,rfl,_,_,rfl,rfl,?_⟩⟩;have F0:cJ n (zp Dw):=by rw[ez1];exact(w_ n1 n2 (iE _)).perm mV
  rw[<-ez1] at *;have s3:=aj (o:=.tup [.ref T0,.ref M]) aax;have sL:=aj (o:=.lst [.int 1]) t8;have s2:=(sL.trans (aj (o:=.lst (NV (s_ n (zp Dw)))) hM)).trans s3;have gT:=s2 _ _ hT1;have gM:=s3 _ _ (ae (H:=upd H1 L1 (.lst [.int 1])) (a:=M) (o:=.lst (NV (s_ n (zp Dw)))));have DM:=P8.same s2;have UC:H M=none:=s1.free (sL.free hM);have Ma:M≠p:=hp.ne UC;have sH:=s1.trans s2;generalize upd (upd (upd H1 L1 _) M _) T1 _=H2 at *;clear s3 sL s2 hT1 P8;refine⟨_,rfl,_,rfl,_,_,rfl,rfl,p,n+1,rfl,by lia,by lia,hp.same sH,fun d H3 hd s3 nE=>⟨(d:Int),rfl,by lia,by lia,?_⟩⟩;rw[gE];refine eh (lo:=0) (n:=d) (fun i σ Hc=>∃ (T:Addr) (zs:Zs),(∃a b c e f g h,σ=[some (.ref p),some (.int n),some (.ref T),some (.ref M),a,b,c,e,f,g,h])/\aO p H Hc/\bn Hc p/\H T=none/\Hc T=some (.lst (zr zs))/\PO Hc zs/\Hc M=some (.lst (NV (s_ n (zp zs))))/\cJ n (zp zs)) ⟨T0,Dw,⟨_,_,_,_,_,_,_,rfl⟩,(aO.of sH).trans s3,nE,Se,s3 _ _ gT (hp.ne Se),DM.sf s3 (hp.same sH),s3 _ _ gM Ma,F0⟩ ?_ ?_
  .clear gT gM DM F0 s3 nE sH;rintro i σ Hc hi ⟨T,zs,⟨x4,x5,x6,x7,x8,x9,Fx,rfl⟩,sc,oP,hT,Fy,po,DP,Fi⟩;have nTp:T≠p:=hp.ne hT;have YY:zs.length<=256:=by have:=Fi.len;rwa [b_] at this
   have nTM:T≠M:=by rintro rfl;rw[Fy] at DP;have:=HO.lst.inj (cB DP);exact WW (by rw[b_.symm];exact Fi.pos) this
   refine⟨_,rfl,n,rfl,fun R hR=>⟨R,n,rfl,ae,by lia,fun L hL=>?_⟩⟩;have sL:aI Hc (upd (upd Hc R (.Ek 0 n)) L (.lst (NV (List.range n)))):=(aj hR).trans (aj hL);have gL:=ae (H:=upd Hc R (.Ek 0 n)) (a:=L) (o:=.lst (NV (List.range n)));have HL:Hc L=none:=(aj hR).free hL;have nLp:=oP.ne HL;generalize upd (upd Hc R _) L _=H4 at *;have em:(if (n:Int)-1<4 then (n:Int)-1 else 4)=((min 4 (n-1):Nat):Int):=by split <;> lia
   refine⟨_,rfl,_,rfl,_,_,rfl,rfl,4,_,rfl,p,min 4 (n-1),by rw[em];rfl,by lia,by lia,oP.same sL,fun d2 H5 R8 s5 xf=>⟨_,_,rfl,rfl,?_⟩⟩;have e3:(2:Int)+(d2:Int)=((2+d2:Nat):Int):=by lia
   refine⟨_,rfl,((2+d2:Nat):Int),congrArg (fun v=>[V.int v]) e3,by lia,by lia,fun S hS=>?_⟩;rw[gE];refine A9 xf (s5 _ _ gL nLp) nLp hS (by lia) n2 fun cs ls H6 s6 zw WX pm cl=>?_;have v9:∀b o,Hc b=some o->b≠p->H6 b=some o:=fun b o e m=>s6 _ _ (s5 _ _ (sL _ _ e) m) m (am e HL);have cnd:cs.Nodup:=(j7.mp (pm.nodup_iff.mpr jH)).1;have Y4:∀x∈cs,x<n:=fun x hx=>bY.mp (pm.mem_iff.mp (gC _ hx));have hT6:=v9 _ _ Fy nTp;have P5:=v9 _ _ DP Ma;have P6:PO H6 zs:=fun z hz=>v9 _ _ (po z hz) (oP.neT (po z hz));have WY:aO p H H6:=fun b o e m=>v9 _ _ (sc _ _ e m) m;have nSM:S≠M:=(am (s5 _ _ (sL _ _ DP) Ma) hS).symm;clear s6 s5 xf gL sL v9 hS pm;refine⟨_,rfl,_,rfl,_,rfl,S,_,rfl,a8.of WX,fun S1 VG=>?_⟩;have sS1:=aj (o:=.lst (iw (NV cs) (some 1) none)) VG;refine⟨_,rfl,_,rfl,S,_,rfl,a8.of (sS1 _ _ WX),fun S2 Ir=>?_⟩;have sS2:=aj (o:=.lst (iw (NV cs) none (some 1))) Ir;refine⟨S1,S2,_,_,rfl,rfl,sS2 _ _ ae,ae,?_,fun S3 hS3=>?_⟩
   .rw[show (1:Int)=((1:Nat):Int) from rfl,vH,DN,kM,kL,be];exact aZ (show _<=12 by lia) (by decide)
   have sS3:=aj (o:=.lst (iw (NV cs) (some 1) none++iw (NV cs) none (some 1))) hS3;have sS:=(sS1.trans sS2).trans sS3;have gS3:=ae (H:=upd (upd H6 S1 (.lst (iw (NV cs) (some 1) none))) S2 (.lst (iw (NV cs) none (some 1)))) (a:=S3) (o:=.lst (iw (NV cs) (some 1) none++iw (NV cs) none (some 1)));have e4:iw (NV cs) (some 1) none++iw (NV cs) none (some 1)=((cs.drop 1++cs.take 1).map ci).map V.int:=by
    rw[show (1:Int)=((1:Nat):Int) from rfl,vH,DN];unfold NV;rw[<-List.map_drop,<-List.map_take,dQ,<-dt];rfl
   have e5:NV cs=(cs.map ci).map V.int:=by unfold NV;rw[dQ];rfl
   refine⟨S,S3,cs.map ci,(cs.drop 1++cs.take 1).map ci,rfl,by rw[<-e5];exact a8.of (sS _ _ WX),by rw[<-e4];exact a8.of gS3,by simp;lia,by rw[aT];lia,fun Tn ms H7 s7 UH Y5 poM WZ=>?_⟩;rw[HK] at WZ;have Lf:=sS.trans s7;have hS7:=Lf _ _ WX;have Su:=Lf _ _ hT6;have UF:=Lf _ _ P5;have Sg:=P6.same Lf;have K3:=zw.same Lf;have Y0:aO p H H7:=WY.trans (aO.of Lf);have acs:H Tn=none:=WY.free zw.full (sS.free UH);clear Lf s7 sS sS1 sS2 sS3 gS3 P6 P5 hT6 WX WY zw e4 VG Ir hS3;have ml:ms.length=cs.length:=by rw[<-b_,WZ];unfold oO;rw[aT,dk]
   refine⟨_,rfl,Tn,rfl,⟨_,a8.of Y5⟩,fun Nw hNw=>?_⟩;refine NQ (fun u=>!decide (u∈zp zs)) (fun σ=>∃x,σ=[x,some (.ref T)]) Y5 hNw (by lia) ⟨_,rfl⟩ ?_ ?_
   .rintro z σ H8 Kt Kf hz ⟨x,rfl⟩ sm8 kt kf;obtain⟨l1,l2⟩:=Fm (K:=K) (Sg.same sm8);refine⟨_,rfl,_,rfl,z.1,T,z.2,zs.map (fun z:Addr×Int×Int=>z.1),zp zs,rfl,rfl,cu.of (sm8 _ _ (poM z hz)),by rw[<-iY];exact a8.of (sm8 _ _ Su),by rw[aT];exact l1,l2,_,rfl,?_⟩;exact gU (fun c=>⟨_,rfl,kt _ _ ⟨_,rfl⟩ (aI.refl _) c⟩) (fun c=>kf _ _ ⟨_,rfl⟩ (aI.refl _) (by simpa using c))
   intro H8 s8 hN8;have hS8:=s8 _ _ hS7;have W0:=s8 _ _ Y5;have hT8:=s8 _ _ Su;have Y6:=s8 _ _ UF;have po8:=Sg.same s8;have aay:=poM.same s8;have hp8:=K3.same s8;have sH8:aO p H H8:=Y0.trans (aO.of s8);clear hS7 Y5 Su UF Sg poM K3 Y0 s8;refine⟨_,rfl,Nw,_,rfl,.inl (a8.of hN8),_,rfl,Tn,_,rfl,.inl (a8.of W0),rfl,_,rfl,?_⟩;have jP:∀Hd:Hp,aI H8 Hd->∃ (T':Addr) (jy:Zs),(∃a b c e f g h,[some (V.ref p),some (.int n),some (.ref T),some (.ref M),some (.int (0+(i:Int))),some (.ref L),some (.int (2+(d2:Int))),some (.ref S),some (.ref Tn),some (.ref Nw),Fx]=[some (.ref p),some (.int n),some (.ref T'),some (.ref M),a,b,c,e,f,g,h])/\aO p H Hd/\bn Hd p/\H T'=none/\Hd T'=some (.lst (zr jy))/\PO Hd jy/\Hd M=some (.lst (NV (s_ n (zp jy))))/\cJ n (zp jy):=fun Hd sd=>⟨T,zs,⟨_,_,_,_,_,_,_,rfl⟩,sH8.trans (aO.of sd),hp8.same sd,hT,sd _ _ hT8,po8.same sd,sd _ _ Y6,Fi⟩
   refine gU (fun c1=>?_) (fun c1=>jT (jP _ (aI.refl _)));have c2:(zr (ms.filter fun z=>!decide (z.2∈zp zs))).length=(zr ms).length:=d7 (by simpa using c1);rw[we (c:=fun u=>!decide (u∈zp zs)),dZ,<-b_] at c2;have nin:∀t∈zp ms,t∉zp zs:=fun t ht=>by simpa using List.length_filter_eq_length_iff.mp c2 t ht
   refine⟨_,rfl,S,rfl,⟨_,a8.of hS8⟩,fun Ct hC=>?_⟩;refine Fn cs (fun (x:Nat)=>V.int (x:Int)) (fun (x:Nat)=>V.int ((gu (zp zs) (ci x):Nat):Int)) (fun σ=>∃x,σ=[x,some (.ref M)]) hS8 hC (by lia) ⟨_,rfl⟩ ?_ ?_
   .rintro x σ Y7 R' Kf hx ⟨x',rfl⟩ aaz kt;refine⟨_,rfl,_,rfl,M,_,_,_,rfl,rfl,a8.of (aaz _ _ Y6),aD (iT (by rw[Lb];exact Y4 x hx)),?_⟩;rw[Lc (Y4 x hx)];exact kt _ _ ⟨_,rfl⟩ (aI.refl _)
   intro Y7 Sv aaA;have W1:Y7 Ct=some (.lst ((cs.map fun (x:Nat)=>((gu (zp zs) (ci x):Nat):Int)).map V.int)):=by rw[aaA,dQ];rfl
   refine⟨Ct,_,rfl,a8.of W1,fun z=>?_,fun Mx hMx vX=>⟨_,_,rfl,rfl,_,rfl,?_⟩⟩
   .have:=congrArg List.length z;rw[aT,cl] at this;simp at this
   refine gU (fun c3=>?_) (fun c3=>jP _ Sv);have aaB:=Sv _ _ hT8;have W2:=Sv _ _ W0;refine⟨_,rfl,_,rfl,T,Tn,_,_,rfl,rfl,aaB,W2,by rw[dZ,dZ];exact aZ (show _<=300 by lia) (by decide),fun N hN=>?_⟩;have sN:=aj (o:=.lst (zr zs++zr ms)) hN;have hNH:H N=none:=(sH8.trans (aO.of Sv)).free (hp8.same Sv).full hN;have F2:cJ n (zp (zs++ms)):=by
    rw[eQ,WZ];refine Fi.round cnd Y4 (by lia) (fun x hx=>?_) (fun t ht=>nin t (by rw[WZ];exact ht));have h7:((gu (zp zs) (ci x):Nat):Int)<=Mx:=vX _ (bB.mpr ⟨x,hx,rfl⟩);have h8:Mx<8:=fu c3;lia
   have sA:=Sv.trans sN;have hMA:=sA _ _ Y6;have hSA:=sA _ _ hS8;have hNA:=ae (H:=Y7) (a:=N) (o:=.lst (zr zs++zr ms));have poA:=(po8.append aay).same sA;have hpA:=hp8.same sA;have sHA:aO p H _:=sH8.trans (aO.of sA);have nNM:N≠M:=(am (Sv _ _ Y6) hN).symm;generalize upd Y7 N _=HA at *;refine⟨_,rfl,S,rfl,⟨_,a8.of hSA⟩,eM (K:=K) (xs:=NV cs) (fun j σ He=>(∃a b c e f g h,σ=[some (.ref p),some (.int n),some (.ref N),some (.ref M),a,b,c,e,f,g,h])/\(∀b o,HA b=some o->b≠M->He b=some o)/\He M=some (.lst (NV ((List.range n).map fun (h:Nat)=>gu (zp zs) (ci h)+if h∈cs.take j then 1 else 0)))) ⟨⟨_,_,_,_,_,_,_,rfl⟩,fun b o e _=>e,?_⟩ (fun j σ He _ z=>a8.of (z.2.1 _ _ hSA nSM)) ?_ ?_⟩
   .rw[hMA];simp[s_]
   .rintro j x σ He hx ⟨⟨y4,y5,y6,y7,y8,y9,y10,rfl⟩,sk,Y8⟩;obtain⟨c,hv,rfl⟩:=p6 hx;have hc:c<n:=Y4 c (dz hv);have hj:j<cs.length:=(eR.mp hv).1;have Ih:c<((List.range n).map fun (h:Nat)=>gu (zp zs) (ci h)+if h∈cs.take j then 1 else 0).length:=by rw[aT,dk];exact hc
    have cn:c∉cs.take j:=fun z=>by
     obtain⟨k,hk⟩:=xw.mp z;have hkl:k<j:=by have:=(eR.mp hk).1;rw[kL] at this;lia
     rw[BF hkl] at hk;obtain⟨k1,e1⟩:=eR.mp hk;obtain⟨k2,e2⟩:=eR.mp hv;have:=kC cnd k1 k2 (e1.trans e2.symm);lia
    refine⟨_,rfl,_,rfl,M,_,_,_,rfl,rfl,a8.of Y8,aD (iT Ih),_,_,rfl,rfl,_,rfl,_,rfl,M,_,(c:Int),c,rfl,rfl,Y8,eJ (by rw[be];exact Ih),⟨_,_,_,_,_,_,_,rfl⟩,fun b o e m=>by rw[aq m];exact sk b o e m,?_⟩;rw[ae];have eg:((List.range n).map fun (h:Nat)=>gu (zp zs) (ci h)+if h∈cs.take j then 1 else 0).getD c 0=gu (zp zs) (ci c):=by
     rw[cw,cA,f_ hc];show gu (zp zs) (ci c)+(if c∈cs.take j then 1 else 0)=_;rw[ao cn];rfl
    rw[eg];refine congrArg (fun l=>some (HO.lst l)) ((rE (x:=gu (zp zs) (ci c)+1)).trans ?_);congr 1;refine lL fun k=>?_;rw[uv,cA,cA];have tk:cs.take (j+1)=cs.take j++[c]:=by rw[gW,hv];rfl
    by_cases hk:c=k
    .subst hk;rw[ap rfl,ap Ih,f_ hc];show _=some (gu (zp zs) (ci c)+if c∈cs.take (j+1) then 1 else 0);rw[ap (by rw[tk];simp)]
    .rw[ao hk];by_cases UE:k<n
     .rw[f_ UE];show some (gu (zp zs) (ci k)+if k∈cs.take j then 1 else 0)=some (gu (zp zs) (ci k)+if k∈cs.take (j+1) then 1 else 0);have:(k∈cs.take (j+1))↔k∈cs.take j:=by rw[tk,cL,dA];exact⟨fun z=>z.resolve_right (fun e=>hk e.symm),.inl⟩
      simp only[this]
     .rw[f9 (by rw[dk];lia)];rfl
   .rintro σ He ⟨⟨y4,y5,y6,y7,y8,y9,y10,rfl⟩,sk,Y8⟩;have st:∀b o,HA b=some o->b≠M->He b=some o:=sk;refine⟨N,zs++ms,⟨_,_,_,_,_,_,_,rfl⟩,fun b o e m=>sk _ _ (sHA _ _ e m) (am e UC),?_,hNH,?_,fun z hz=>?_,?_,F2⟩
    .obtain⟨x,y,e,r⟩:=hpA;exact⟨x,y,sk _ _ e Ma.symm,r⟩
    .rw[eO];exact sk _ _ hNA nNM
    .have g:=poA z hz;exact sk _ _ g (by rintro e;rw[e,hMA] at g;cases g)
    .rw[Y8,be,ja];refine congrArg (fun l=>some (HO.lst (NV l))) ?_;unfold s_;refine j6 fun h _=>?_;rw[eQ,WZ,Fk,A8 cnd]
  .rintro σ Hc ⟨T,zs,⟨x4,x5,x6,x7,x8,x9,Fx,rfl⟩,sc,oP,hT,Fy,po,DP,Fi⟩;exact⟨_,rfl,q T zs Hc sc oP hT Fy po Fi⟩
abbrev Lg:Stmt:=top 49
theorem Lh{bs:bR}{h:Nat}(hh:h<bs.length):(bs.map V.ref)[h]?=some (.ref (bs.getD h 0)):=by
 rw[cA,cw,cz hh];rfl
theorem Sw{cs:bR}{j:Nat}(h:j<cs.length):cs.getD j 0∈cs:=by rw[cw,cz h];exact ie _
def W3(σ:St):Nat:=match σ[5]? with
 |some (some (V.int i))=>i.toNat
 |_=>0
theorem mz:aN ["_law_outs_here","_law_found","_law_begin","_law_far_here","_law_waiting","_law_at","_law_other"] ["_law_outs_here"] (aw Lg):=dW (by decide +kernel)
def DT:Sp:=fun vs H Q _=>∃ (L:iQ) (o:Addr) (n:Nat) (ts:Ts),vs=[.ref o]/\cJ n ts/\bK H L o n (bX n ts)/\∀ (r:Addr) (H':Hp),aI H H'->H r=none->bK H' (fun b=>H b=none) r n (fun h=>(List.range n).map (far ts h))->Q (.ref r) H'
theorem N0{f:Addr}{fd:eA}(F:iI K "_law_far" "_law_far" Lg f fd)(B:Bl mg):bU P w K mg base bo 1 f fd ["_law_outs_here"] DT:=by
 refine F.ok mz (fun vs H Q E h=>?_) (fun fX A outer s H vs Q E hr h=>?_)
 .obtain⟨L,o,n,ts,rfl,_⟩:=h;rfl
 .obtain⟨L,o,n,ts,rfl,fi,O,q⟩:=h;have n1:=fi.n1;have n2:=fi.n2;refine⟨_,(ak (aW (i:=1) mz.nd rfl aL (cH ag))
   (ak (du eI rfl (b9 rfl B.range (aa (aJ aV (by rfl) B.len fc (aa (pv 0) ag)) ag)) (aA (i:=2) mz.nd rfl aL)
    (ak (aW (i:=3) mz.nd rfl aL (a9 yf (cH (aa ij ag)) (aJ aV (by rfl) B.len fc (aa (pv 0) ag))))
    (ak (d8 az (gx (pv 3) (pv 2) dY))
    (ak (aW (i:=4) mz.nd rfl aL (cH (aa (pv 2) ag)))
    (ak (aW (i:=5) mz.nd rfl aL az)
    (ak (zM eI (aY nw (pv 5) (aJ aV (by rfl) B.len fc (aa (pv 4) ag)) (bp _)) (ak (du eI rfl (bN (aX aG (pv 0) (aX aG (pv 4) (pv 5) (fun _ _=>rfl)) (fun _ _=>rfl))) (aA (i:=6) mz.nd rfl aL)
      (av (dS (aY Cy (aX aG (pv 3) (pv 6) (fun _ _=>rfl)) ij (bp _)) (ak (d8 (a9 dM (aX aG (pv 3) (aX aG (pv 4) (pv 5) (fun _ _=>rfl)) (fun _ _=>rfl)) az) (gx (pv 3) (pv 6) dY))
       (av (cG (gQ gy i9 i8 cV (pv 4) (aa (pv 6) ag))))) b8)))
     (av (aW (i:=5) mz.nd rfl aL (a9 dM (pv 5) az)))))
    (av (cG (gQ gy i9 i8 cV (pv 1) (aa (pv 3) ag))))))))))
   (av (bh (pv 1))))),?_⟩
  obtain⟨bs,Ik,hbL,PV,Pf⟩:=O;refine⟨by show 0<=sizeLine;decide,fun F hF=>?_⟩;have sF:=aj (o:=.lst []) hF;have el:(((bs.map V.ref).length:Nat):Int)=(n:Int):=by rw[aT,PV]
  refine⟨_,rfl,o,_,rfl,.inl (a8.of (sF _ _ Ik)),(n:Int),congrArg (fun z=>[V.int z]) el,by lia,by lia,eh (n:=n) (lo:=0) (fun i σ Hc=>(∃a b c d e,σ=[some (.ref o),some (.ref F),a,b,c,d,e])/\aI H Hc/\∃ds:List Addr,Hc F=some (.lst (ds.map V.ref))/\(∀b∈ds,H b=none/\b≠F)/\ds.length=i/\∀j,j<i->Hc (ds.getD j 0)=some (.lst (NV ((List.range n).map (far ts j))))) ⟨⟨_,_,_,_,_,rfl⟩,sF,[],ae,fun b hb=>(nomatch hb),rfl,fun j hj=>absurd hj (n9 _)⟩ ?_ ?_⟩
  rotate_left
  .rintro σ Hc ⟨⟨a,b,c,d,e,rfl⟩,sc,ds,P9,L4,dl,Y9⟩;exact⟨_,rfl,q F Hc sc hF ⟨ds,P9,fun b hb=>(L4 b hb).1,dl,Y9⟩⟩
  .rintro b σ Hc hb ⟨⟨_,_,_,_,_,rfl⟩,sc,ds,P9,L4,dl,Y9⟩;rw[iG];refine⟨by show 1<=sizeLine;decide,fun L1 t8=>⟨_,rfl,o,_,rfl,.inl (a8.of (aj t8 _ _ (sc _ _ Ik))),L1,_,_,rfl,rfl,ae,by rw[el];lia,by rw[el];lia,by rw[gE,lO,aT,PV];exact aZ (show 1*n<=32 by lia) (by decide),fun D hD=>?_⟩⟩;rw[gE,mw,aT,PV];have s1:=sc.trans (aj (o:=.lst [.cI]) t8);have hFD:F≠D:=am ((aj (o:=.lst [.cI]) t8) _ _ P9) hD;have fD:=s1.free hD;have dsD:∀c∈ds,c≠D:=fun c hc=>by
    rintro rfl;exact absurd hD (by
     obtain⟨j,hj,e⟩:=uk hc;have:(upd Hc L1 (.lst [.cI])) c=some (.lst (NV ((List.range n).map (far ts j)))):=(aj t8) _ _ (by have:=Y9 j (by lia);rw[cw,cz hj,qC,e] at this;exact this);rw[this];exact fun z=>by cases z)
   have Sx:=(aj (o:=.lst [.cI]) t8) _ _ P9;have W4:∀j,j<b->(upd Hc L1 (.lst [.cI])) (ds.getD j 0)=some (.lst (NV ((List.range n).map (far ts j)))):=fun j hj=>(aj t8) _ _ (Y9 j hj);generalize upd Hc L1 _=H1 at *;refine⟨_,rfl,_,rfl,D,_,b,b,rfl,rfl,ae,by rw[i_];exact eJ hb,?_⟩;rw[mN,vA hb];refine⟨_,rfl,by show 1<=sizeLine;decide,fun R hR=>?_⟩;have Ip:D≠R:=am (H:=upd H1 D (.lst (iB n [b] (fun _=>0)))) ae hR;have NA:H1 R=none:=by rw[aq Ip.symm] at hR;exact hR
   have fR:=s1.free NA;have hFR:F≠R:=am Sx NA;have dsR:∀c∈ds,c≠R:=fun c hc=>by
    rintro rfl;obtain⟨j,hj,e⟩:=uk hc;have:=W4 j (by lia);rw[cw,cz hj,qC,e,NA] at this;cases this
   have sm0:aI H1 (upd (upd H1 D (.lst (iB n [b] (fun _=>0)))) R (.lst [.int (b:Int)])):=bj (aj hD) NA;have aaC:=s1 _ _ Ik;have W5:∀u,u<n->H1 (bs.getD u 0)=some (.lst (NV (bX n ts u))):=fun u hu=>s1 _ _ (Pf u hu);refine zQ (fun σ H2=>∃ (i:Nat) (Rs:aQ) (f:ub),i<=Rs.length/\Br n ts b i Rs f/\(∃v,σ=[some (.ref o),some (.ref F),some (.int (b:Int)),some (.ref D),some (.ref R),some (.int (i:Int)),v])/\aI H1 H2/\H2 D=some (.lst (iB n Rs f))/\H2 R=some (.lst (NV Rs)))
    (fun σ _=>n-W3 σ) ⟨0,[b],fun _=>0,cp _,Br.start hb,⟨_,rfl⟩,sm0,?_,ae⟩ ?_ ?_
   .rw[aq Ip,ae]
   .rintro σ H2 ⟨i,Rs,f,hi,Bf,⟨v',rfl⟩,sm,jz,wd⟩;have hRn:Rs.length<=n:=f8 Bf.nd Bf.lt;refine⟨_,rfl,_,rfl,R,_,rfl,.inl (a8.of wd),_,_,rfl,rfl,_,rfl,?_⟩;rw[be];by_cases wU:i<Rs.length
    .rw[show decide ((i:Int)<((Rs.length:Nat):Int))=true by simp;lia];refine vY ?_;have hu:Rs[i]?=some Rs[i]:=cz wU;generalize Rs[i]=u at hu;have AT:u<n:=Bf.lt u (dz hu);have huR:(NV Rs)[i]?=some (.int (u:Int)):=by rw[cA,hu];rfl
     have hb1:=Lh (bs:=bs) (h:=u) (by rw[PV];exact AT);have hb2:=sm _ _ (W5 _ AT);refine⟨_,rfl,_,rfl,_,rfl,R,_,_,_,rfl,rfl,a8.of wd,aD huR,o,_,_,_,rfl,rfl,a8.of (sm _ _ aaC),aD hb1,_,rfl,⟨_,a8.of hb2⟩,?_⟩;refine eM (K:=K) (xs:=NV (bX n ts u)) (fun j σ H3=>∃ (iZ:aQ) (f':ub),Br n ts b i iZ f'/\iZ[i]?=some u/\(∀v∈(bX n ts u).take j,v∈iZ/\f' v<=f' u+1)/\
      (∃c,σ=[some (.ref o),some (.ref F),some (.int (b:Int)),some (.ref D),some (.ref R),some (.int (i:Int)),c])/\aI H1 H3/\H3 D=some (.lst (iB n iZ f'))/\H3 R=some (.lst (NV iZ)))
      ⟨Rs,f,Bf,hu,fun v hv=>by simp at hv,⟨_,rfl⟩,sm,jz,wd⟩ (fun j σ H3 _ ⟨_,_,_,_,_,_,Hw,_⟩=>a8.of (Hw _ _ (W5 _ AT))) ?_ ?_
     .rintro j x σ H3 hx ⟨iZ,f',yG,sM,dn,⟨b',rfl⟩,Hw,pY,Bq⟩;obtain⟨v,hv,rfl⟩:=p6 hx;have RM:v∈bX n ts u:=dz hv;have KA:v<n:=tV fi AT RM;have tuv:T ts u v:=(ji fi AT).mp RM;have tk:(bX n ts u).take (j+1)=(bX n ts u).take j++[v]:=by rw[gW,hv];rfl
      have KB:u∈iZ:=dz sM;have KC:iZ.length<=n:=f8 yG.nd yG.lt;refine⟨_,rfl,_,rfl,D,_,_,_,rfl,rfl,a8.of pY,aD (jk KA),rfl,_,rfl,?_⟩;by_cases DC:v∈iZ
      .rw[ap DC];refine jT ⟨iZ,f',yG,sM,fun x hx=>?_,⟨_,rfl⟩,Hw,pY,Bq⟩;rw[tk] at hx;rcases cL.mp hx with z|z
       .exact dn x z
       .simp at z;subst z;exact⟨DC,yG.bd u sM _ DC⟩
      .rw[ao DC];refine vY ?_;have L_:(iB n iZ f')[u]?=some (.int ((f' u:Nat):Int)):=by rw[jk AT,ap KB]
       refine⟨_,rfl,_,rfl,_,rfl,R,_,_,_,rfl,rfl,a8.of Bq,aD (show (NV iZ)[i]?=some (.int (u:Int)) by rw[cA,sM];rfl),D,_,_,_,rfl,rfl,a8.of pY,aD L_,_,_,rfl,rfl,_,rfl,_,rfl,D,_,_,_,rfl,rfl,pY,by rw[kG];exact eJ KA,?_⟩;have e1:(iB n iZ f').set v (.int (((f' u:Nat):Int)+1))=iB n (iZ++[v]) (put f' v (f' u+1)):=by
        rw[show ((f' u:Nat):Int)+1=((f' u+1:Nat):Int) by lia,AS KA]
       rw[e1];have tU:(upd H3 D (.lst (iB n (iZ++[v]) (put f' v (f' u+1))))) R=some (.lst (NV iZ)):=by rw[aq Ip.symm];exact Bq
       refine⟨_,rfl,.inl ⟨rfl,_,a8.of tU⟩,_,rfl,R,_,_,rfl,rfl,tU,by rw[be];exact bv (show iZ.length<33 by lia) (by decide),?_⟩;have vO:i<iZ.length:=(eR.mp sM).1;have nuv:u≠v:=fun z=>DC (z ▸ KB);refine⟨iZ++[v],put f' v (f' u+1),yG.add sM KA tuv DC,by rw[j4 vO];exact sM,fun x hx=>?_,⟨_,rfl⟩,bj (bj Hw hD) NA,?_,?_⟩
       .rw[hW nuv];rw[tk] at hx;rcases cL.mp hx with z|z
        .obtain⟨q1,q2⟩:=dn x z;exact⟨gC _ q1,by rw[hW (fun (z:x=v)=>DC (z ▸ q1))];exact q2⟩
        .simp at z;subst z;exact⟨by simp,by rw[kB];exact aP _⟩
       .rw[aq Ip,ae]
       .rw[ae,jA]
     .rintro σ H3 ⟨iZ,f',yG,sM,dn,⟨b',rfl⟩,Hw,pY,Bq⟩;rw[be,ja] at dn;have vO:i<iZ.length:=(eR.mp sM).1;have KC:iZ.length<=n:=f8 yG.nd yG.lt;refine⟨_,rfl,_,_,rfl,rfl,⟨⟨i+1,iZ,f',vO,yG.next sM (fun v t=>dn v ((ji fi AT).mpr t)),⟨_,rfl⟩,Hw,pY,Bq⟩,?_⟩⟩;show n-((i:Int)+1).toNat<n-(i:Int).toNat;lia
    .rw[show decide ((i:Int)<((Rs.length:Nat):Int))=false by rw[BG];lia];have e:iB n Rs f=NV ((List.range n).map (far ts b)):=by
      unfold iB NV;rw[dQ];refine j6 fun x hx=>?_;obtain⟨q1,q2⟩:=Bf.done fi (by lia) (bY.mp hx);rw[ap q1,q2];rfl
     rw[e] at jz;have hF2:=sm _ _ Sx;refine jT ⟨_,rfl,.inl ⟨rfl,_,a8.of hF2⟩,_,rfl,F,_,_,rfl,rfl,hF2,by rw[aT,dl];exact bv (show b<33 by lia) (by decide),?_⟩;refine⟨⟨_,_,_,_,_,rfl⟩,fun c ob ec=>?_,ds++[D],by rw[ae,dt];rfl,fun c hc=>?_,by rw[dh,dl];rfl,fun j hj=>?_⟩
     .rw[aq (am ec hF)];exact sm _ _ (s1 _ _ ec)
     .rcases cL.mp hc with z|z
      .exact L4 c z
      .rw[dA.mp z];exact⟨fD,hFD.symm⟩
     .by_cases c:j<b
      .have m:=Sw (cs:=ds) (j:=j) (by lia);have e:(ds++[D]).getD j 0=ds.getD j 0:=by rw[cw,cw,j4 (by lia)]
       rw[e,aq (L4 _ m).2];exact sm _ _ (W4 j c)
      .obtain rfl:j=b:=by lia
       have e:(ds++[D]).getD j 0=D:=by rw[cw,rN (by lia),dl,uL];rfl
       rw[e,aq hFD.symm];exact jz
   .rintro σ H2 Q1 Q2 imp ⟨v,e1,v2,e2,p,ys,e3,e4,i1,i2,e5,e6,kk,e7,q⟩;exact⟨v,e1,v2,e2,p,ys,e3,e4,i1,i2,e5,e6,kk,e7,imp _ _ q⟩
end
end r9
namespace L2
open PySem PySem.Spec PyProof.Rows
theorem HM:gf X (.type "int") (fun xs H Q=>∃b,xs=[.bl b]/\Q (.int (if b then 1 else 0)) H):=by
 intro af s σ H xs us Q I r h;obtain⟨b,rfl,q⟩:=h;obtain⟨u1,rfl,r1⟩:=r.one;obtain rfl:u1=Value.bool b:=r1;exact call_int_bool ⟨.int _,H,I.tok _,⟨_,rfl⟩,q⟩
end L2
namespace r9
open PySem L2 ln
abbrev Sy:Stmt:=top 47
theorem p_:(["_law_one","_law_other"]:bQ).Nodup:=by decide +kernel
def Li(p:Addr)(H:Hp)(Q:V->Hp->Prop):Prop:=∀ (t r:Addr) (n:Nat) (zs:Zs) (H':Hp),aO p H H'->bn H' p->H t=none->H' t=some (.tup [.int n,.ref r])->H r=none->H' r=some (.lst (zr zs))->PO H' zs->cJ n (zp zs)->Q (.ref t) H'
def Lj:Sp:=fun vs H Q _=>∃ (p:Addr),vs=[.ref p]/\bn H p/\Li p H Q
theorem Li.go(k:Li p H Q)(s:aO p H H2)(hp:bn H2 p)(hr:H r=none)(Bu:H2 r=some (.lst (zr zs)))(po:PO H2 zs)(F:cJ n (zp zs))(ht:H2 t=none):Q (.ref t) (upd H2 t (.tup [.int n,.ref r])):=
 k t r n zs _ (s.trans (aO.of (aj ht))) (hp.same (aj ht)) (s.free hp.full ht) ae hr (aj ht _ _ Bu) (po.putN ht) F
section
variable {P:bL} {w:World} {K:a_} {mg:cr} {base:Heap}
theorem nF:aN ["_law_pot_here","_law_way","_law_many","_law_pairs"] ["_law_pot_here"] (aw Sy):=dW (by decide +kernel)
theorem Sz(F:iI K "_law_net" "_law_net" Sy f fd)(B:Bl mg)(D:d9 P w K mg base bo 1 "_law_take" ["_law_pot_here","_law_many"] ip)(RG:d9 P w K mg base bo 1 "_law_ring" ["_law_many"] yN)(BX:d9 P w K mg base bo 2 "_law_box" ["_law_pot_here"] xg)(WO:d9 P w K mg base bo 2 "_law_words" ["_law_pot_here"] xg)(SP:d9 P w K mg base bo 2 "_law_some_pairs" ["_law_pot_here","_law_many","_law_more"] DO)(OW:d9 P w K mg base bo 2 "_law_one_way" ["_law_pot_here","_law_many"] Le)(RN:d9 P w K mg base bo 2 "_law_renamed" ["_law_pot_here","_law_many","_law_ties"] Fw):bU P w K mg base bo 3 f fd ["_law_pot_here"] Lj:=by
 refine F.ok nF (fun vs H Q E h=>?_) (fun fX A outer s H vs Q E h2 h=>?_)
 .obtain⟨p,rfl,_⟩:=h;rfl
 .obtain⟨p,rfl,hp,q⟩:=h;have h1:df 1 _:=h2.mono (by decide);refine'⟨_,(ak (aW (i:=1) nF.nd rfl aL (aH D h1 aM (aa (pv 0) (aa az ag))))
   (ak (aW (i:=2) nF.nd rfl aL (a9 dM az (aH D h1 aM (aa (pv 0) (aa (aX aG (cH (aa az (aa az (aa az ag)))) (aH D h1 aM (aa (pv 0) (aa az ag))) (fun _ _=>rfl)) ag)))))
   (ak (dS (aY iR (pv 1) az (bp _)) (av (bh (bT (aa (pv 2) (aa (aH RN h2 aM (aa (pv 0) (aa (pv 2) (aa (aH OW h2 aM (aa (pv 0) (aa (pv 2) ag))) ag)))) ag))))) b8)
   (ak (dS (aY iR (pv 1) az (bp _)) (av (aW (i:=3) nF.nd rfl aL (aH RG h1 aM (aa (pv 2) ag)))) (av (dS (aY iR (pv 1) az (bp _)) (av (d8 (aH BX h2 aM (aa (pv 0) ag)) (dX (n:=2) rfl (aE (aA (i:=2) nF.nd rfl aL) (aE (aA (i:=3) nF.nd rfl aL) cM))))) (av (dS (aY iR (pv 1) az (bp _)) (av (d8 (aH WO h2 aM (aa (pv 0) ag)) (dX (n:=2) rfl (aE (aA (i:=2) nF.nd rfl aL) (aE (aA (i:=3) nF.nd rfl aL) cM))))) (ak (aW (i:=2) nF.nd rfl aL (a9 k8 (pv 2) (cU HM (by rfl) B.int PyProof.Rows.boot_int (aa (pq iR (pv 1) az (bp _)) ag))))
      (av (aW (i:=3) nF.nd rfl aL (aH SP h2 aM (aa (pv 0) (aa (pv 2) (aa (aX aG (cH (aa az (aa az (aa (pv 2) ag)))) (a9 k8 (pv 1) az) (fun _ _=>rfl)) ag))))))))))))
   (av (bh (bT (aa (pv 2) (aa (aH RN h2 aM (aa (pv 0) (aa (pv 2) (aa (a9 uZ (pv 3) ?c1) ag)))) ag))))))))),?_⟩
  case c1=>
   refine' cQ (g:=(uS K 2 (gn (bH 0) (gn (bH 1) uR)))) (te:=(sG (bJ (bb 1) (bJ (bb 0) h_)))) (NB:=["_law_one","_law_other"]) (src:=[none,none]) (bz (by kernel_rfl)) rfl (bN (pv 3)) ?g ?t ?e;case g=>exact fun cl C s₃ H₃ fp=>(dX (n:=2) rfl (aE (aA (i:=0) p_ rfl aL cW) (aE (aA (i:=1) p_ rfl aL cW) cM)))
   case t=>exact fun cl C s₃ H₃ fp=>dC
   case e=>exact fun cl C s₃ H₃ fp=>(bT (aa (pv 1) (aa (pv 0) ag)))
  refine⟨_,rfl,p,7,rfl,by decide,by decide,hp,fun wy H1 hw s1 mY=>?_⟩;refine⟨_,rfl,by show 3<=sizeLine;decide,fun l hl=>⟨_,rfl,p,3,rfl,by decide,by decide,mY.same (aj hl),fun d H2 hd s2 vP=>?_⟩⟩;have gl:=s2 _ _ (ae (H:=H1) (a:=l) (o:=.lst [.int 4,.int 10,.int 30])) (mY.ne hl);obtain⟨m,hm,m1,m2⟩:∃m:Nat,zY [V.int 4,.int 10,.int 30] (d:Int)=some (.int m)/\4<=m/\m<=30:=by
   rcases(show d=0\/d=1\/d=2 by lia) with rfl|rfl|rfl
   .exact⟨4,aD (j:=0) rfl,by decide,by decide⟩
   .exact⟨10,aD (j:=1) rfl,by decide,by decide⟩
   .exact⟨30,aD (j:=2) rfl,by decide,by decide⟩
  refine⟨l,_,_,_,rfl,rfl,a8.of gl,hm,p,m,rfl,by lia,by lia,vP,fun d2 H3 R8 s3 nE=>⟨_,_,rfl,rfl,?_⟩⟩;have sH:aO p H H3:=((s1.trans (aO.of (aj hl))).trans s2).trans s3;obtain⟨n,hn⟩:∃n:Nat,n=3+d2:=⟨_,rfl⟩
  have en:(3:Int)+(d2:Int)=((n:Nat):Int):=by lia
  change bH 2 (V.int ((3:Int)+(d2:Int))) _ _ _;rw[en];have n1:3<=n:=by lia
  have n2:n<=32:=by lia
  clear gl hm s1 s2 s3 mY vP hl hd en;have d_:∀ (m:Nat) (r:Addr) (zs:Zs) (H4:Hp),aO p H H4->bn H4 p->H r=none->H4 r=some (.lst (zr zs))->PO H4 zs->cJ m (et (zp zs))->U7 (sG (bJ (bb 2) (bJ (rR Fw [] E0 (bJ (bb 0) (bJ (bb 2) (bJ (jS Vu (bb 3) (Jr [none,none] (O9 K (bb 3)) (uS K 2 (gn (bH 0) (gn (bH 1) uR))) QO (sG (bJ (bb 1) (bJ (bb 0) h_))))) h_)))) h_))) { nx:=fun _ H'=>Q .cI H',rt:=Q } [some (.ref p),some (.int (wy:Nat)),some (.int (m:Nat)),some (.ref r)] H4:=fun m r zs H4 sH sn hr AU po Fi=>by
   have zl:zs.length<=256:=by have:=Fi.len;rw[tX,b_] at this;lia
   refine⟨_,rfl,_,rfl,_,rfl,_,rfl,_,rfl,r,rfl,⟨_,a8.of AU⟩,fun D1 DH=>?_⟩;refine vz wb (fun σ=>∃a b,σ=[a,b]) AU po DH (by lia) ⟨_,_,rfl⟩ ?_ ?_
   .rintro z σ H5 R Kf hz ⟨a,b,rfl⟩ _ ha kt;exact⟨z.1,_,rfl,cu.of ha,rfl,_,_,rfl,_,_,rfl,rfl,_,rfl,_,rfl,by show 2<=sizeLine;decide,fun t ht=>kt _ _ ⟨_,_,rfl⟩ ht⟩
   intro zy H5 s5 Me Iq e5 _;refine⟨r,D1,_,_,rfl,rfl,s5 _ _ AU,Me,by rw[dZ,dZ,<-b_,<-b_,e5,aT,b_];exact aZ (show _<=512 by lia) (by decide),fun L hL=>?_⟩;have sL:=aj (o:=.lst (zr zs++zr zy)) hL;have F2:cJ m (zp (zs++zy)):=by rw[eQ,e5];exact Fi.perm jj.symm
   refine⟨p,L,m,zs++zy,rfl,(sn.same s5).same sL,by rw[ae,eO],((po.same s5).append Iq).same sL,(sn.same s5).ne hL,F2,fun r3 PY H6 s6 zw R1 SA P6 F6=>⟨by show 2<=sizeLine;decide,fun t ht=>?_⟩⟩;have sA:aO p H H6:=(sH.trans (aO.of (s5.trans sL))).trans s6;exact q.go sA zw ((sH.trans (aO.of s5)).free (sn.same s5).full (sL.free R1)) SA P6 F6 ht
  refine⟨_,rfl,rfl,_,rfl,gU (fun c=>?_) (fun c6=>?_)⟩
  .refine⟨_,rfl,_,rfl,_,rfl,_,rfl,_,rfl,p,n,rfl,by lia,n2,nE,fun r zs H4 s4 sn hr AU po F4=>?_⟩;refine⟨p,r,n,zs,rfl,sn,AU,po,nE.ne hr,F4,fun r3 PY H6 s6 zw R1 SA P6 F6=>⟨by show 2<=sizeLine;decide,fun t ht=>?_⟩⟩;exact q.go ((sH.trans s4).trans s6) zw ((sH.trans s4).free sn.full R1) SA P6 F6 ht
  unfold O8;dsimp only;refine xa (fun σ Hc=>∃ (m:Nat) (r:Addr) (zs:Zs),σ=[some (.ref p),some (.int (wy:Nat)),some (.int (m:Nat)),some (.ref r)]/\aO p H Hc/\bn Hc p/\H r=none/\Hc r=some (.lst (zr zs))/\PO Hc zs/\cJ m (et (zp zs))) ?_ ?_
  .rintro σ Hc ⟨m,r,zs,rfl,a1,a2,a3,a4,a5,a6⟩;exact d_ m r zs Hc a1 a2 a3 a4 a5 a6
  clear d_;intro N hN;have fr:∀ {a:Addr},H3 a=none->H a=none:=fun h=>sH.free nE.full h;refine⟨_,rfl,rfl,_,rfl,gU (fun c=>?_) (fun c0=>?_)⟩
  .exact⟨_,rfl,n,rfl,by lia,n2,fun r zs H4 s4 hr AU po ez=>hN _ _ ⟨n,r,zs,rfl,sH.trans (aO.of s4),nE.same s4,fr hr,AU,po,by rw[ez];exact HD n1 n2⟩⟩
  refine⟨_,rfl,rfl,_,rfl,gU (fun c=>?_) (fun c1=>?_)⟩
  .exact⟨_,rfl,p,rfl,nE,fun t r m zs H4 s4 sn ht hr ht4 AU po F4=>⟨t,_,rfl,cu.of ht4,rfl,_,_,rfl,_,_,rfl,rfl,hN _ _ ⟨m,r,zs,rfl,sH.trans s4,sn,fr hr,AU,po,F4⟩⟩⟩
  refine⟨_,rfl,rfl,_,rfl,gU (fun c=>?_) (fun c2=>?_)⟩
  .exact⟨_,rfl,p,rfl,nE,fun t r m zs H4 s4 sn ht hr ht4 AU po F4=>⟨t,_,rfl,cu.of ht4,rfl,_,_,rfl,_,_,rfl,rfl,hN _ _ ⟨m,r,zs,rfl,sH.trans s4,sn,fr hr,AU,po,F4⟩⟩⟩
  have hw3:3<=wy/\wy<=5:=by
   have a0:wy≠0:=fun z=>c0 (by rw[z];rfl);have a1:wy≠1:=fun z=>c1 (by rw[z];rfl);have a2:wy≠2:=fun z=>c2 (by rw[z];rfl);have a6:wy≠6:=fun z=>c6 (by rw[z];rfl);lia
  obtain⟨k,hk,k1,k2⟩:∃k:Nat,(n:Int)-(if decide (V.int (wy:Int)=V.int 3)=true then 1 else 0)=(k:Int)/\2<=k/\k<=32:=by
   by_cases e:wy=3
   .exact⟨n-1,by rw[ap (by rw[e];rfl)];lia,by lia,by lia⟩
   .exact⟨n,by rw[ao (by simp;lia)];lia,by lia,by lia⟩
  refine⟨_,rfl,_,rfl,rfl,_,rfl,_,_,rfl,rfl,?_⟩;change bH 2 (V.int ((n:Int)-(if decide (V.int (wy:Int)=V.int 3)=true then 1 else 0))) _ _ _;rw[hk];refine⟨_,rfl,_,rfl,_,rfl,by show 3<=sizeLine;decide,fun l hl=>⟨_,rfl,_,_,rfl,rfl,?_⟩⟩;have sl:=aj (o:=.lst [.int 0,.int 3,.int (k:Int)]) hl;obtain⟨g,hg,g1⟩:∃g:Nat,zY [V.int 0,.int 3,.int (k:Int)] ((wy:Int)-3)=some (.int g)/\g<=64:=by
   rcases(show wy=3\/wy=4\/wy=5 by lia) with e|e|e <;> rw[e]
   .exact⟨0,aD (j:=0) rfl,by decide⟩
   .exact⟨3,aD (j:=1) rfl,by decide⟩
   .exact⟨k,aD (j:=2) rfl,by lia⟩
  refine⟨l,_,_,_,rfl,rfl,a8.of ae,hg,p,k,g,rfl,k1,k2,g1,nE.same sl,fun r zs H4 s4 sn hr AU po F4=>?_⟩;exact hN _ _ ⟨k,r,zs,rfl,(sH.trans (aO.of sl)).trans s4,sn,fr (sl.free hr),AU,po,F4⟩
abbrev DU:Stmt:=top 48
theorem tm:(["_law_k","_law_house","_law_many"]:bQ).Nodup:=by decide +kernel
theorem mB:(["_law_other","_law_house","_law_there"]:bQ).Nodup:=by decide +kernel
theorem N4(G:Nat->V)(c_:rQ)(hD:H0 D=none)(hn:n<=1000)(h0:c_ σB)(hs:∀x σ H (R:j_) (Kf:iu),x<n->c_ σ->aI H0 H->(∀σ2 H2,c_ σ2->aI H H2->R (G x) σ2 H2)->g (.int (lo+(x:Nat))) σ H fun σ2 H2=>tt σ2 H2 fun b H3=>if b=true then te σ2 H3 fun v H4=>R v σ2 H4 else Kf σ2 H3)(hd:∀H,aI H0 H->H D=some (.lst ((List.range n).map G))->d_ H):iy (H_ lo n) g tt te D d_ σB (upd H0 D (.lst [])):=by
 refine fJ (fun i ys σ H=>c_ σ/\aI H0 H/\H D=some (.lst ys)/\ys=(List.range i).map G) ⟨h0,aj hD,ae,rfl⟩ ?_ ?_
 .rintro i ys σ H Kt Kf hi ⟨sh,sm,kD,rfl⟩ kt kf;refine hs i σ H Kt Kf hi sh sm (fun σ2 H2 yD s2=>?_);refine kt _ _ _ (s2 _ _ kD) ?_ ⟨yD,bj (sm.trans s2) hD,ae,by rw[lw,dt];rfl⟩;rw[aT,dk];exact bv (show i<1000 by lia) (by decide)
 .rintro ys σ H ⟨_,sm,kD,rfl⟩;exact hd H sm kD
theorem yR(ms:List β)(e:β->V)(c:β->Bool)(c_:rQ)(ha:H0 a=some (.lst (ms.map e)))(hD:H0 D=none)(hn:ms.length<=1000)(h0:c_ σB)(hs:∀m σ H (Kt:j_) (Kf:iu),m∈ms->c_ σ->aI H0 H->(∀σ2 H2,c_ σ2->aI H H2->c m=true->Kt (e m) σ2 H2)->(∀σ2 H2,c_ σ2->aI H H2->c m=false->Kf σ2 H2)->
   g (e m) σ H fun σ2 H2=>tt σ2 H2 fun b H3=>if b=true then te σ2 H3 fun v H4=>Kt v σ2 H4 else Kf σ2 H3)(hd:∀H,aI H0 H->H D=some (.lst ((ms.filter c).map e))->d_ H):iy (I0 K a) g tt te D d_ σB (upd H0 D (.lst [])):=by
 refine fZ (xs:=ms.map e) (fun i ys σ H=>c_ σ/\aI H0 H/\H D=some (.lst ys)/\ys=((ms.take i).filter c).map e) ⟨h0,aj hD,ae,rfl⟩ (fun i ys σ H _ z=>a8.of (z.2.1 _ _ ha)) ?_ ?_
 .rintro i x ys σ H Kt Kf hx ⟨sh,sm,kD,rfl⟩ kt kf;rw[cA] at hx;cases hz:ms[i]? with
  |none=>rw[hz] at hx;cases hx
  |some m=>
   rw[hz] at hx;obtain rfl:e m=x:=cB hx;have tk:ms.take (i+1)=ms.take i++[m]:=by rw[gW,hz];rfl
   refine hs m σ H Kt Kf (dz hz) sh sm (fun σ2 H2 yD s2 hc=>?_) (fun σ2 H2 yD s2 hc=>?_)
   .refine kt _ _ _ (s2 _ _ kD) ?_ ⟨yD,bj (sm.trans s2) hD,ae,by rw[tk,ic];simp[eU,hc]⟩;rw[aT];exact eK (aZ (iL _ _) (BO _ _)) (eK hn (by decide))
   .exact kf _ _ ⟨yD,sm.trans s2,s2 _ _ kD,by rw[tk,ic];simp[eU,hc]⟩
 .rintro ys σ H ⟨_,sm,kD,rfl⟩;rw[aT,ja] at kD;exact hd H sm kD
def DJ(u:lG):List iW:=[.inl u.1,.inl u.2]
theorem A_:∀ {ps:List TK} {m:List (List iW×V)},(iX (eF m ps) k).isSome=true↔(iX m k).isSome=true\/k∈ps.map fun p:TK=>p.1
 |[],m=>by unfold eF;simp
 |p::ps,m=>by
  have ih:=A_ (k:=k) (ps:=ps) (m:=ve m p.1 p.2.2);rw[show eF m (p::ps)=eF (ve m p.1 p.2.2) ps from rfl,ih,JK];by_cases c:k=p.1
  .rw[ap c];simp[c]
  .rw[ao c,gJ];simp[c]
theorem N6{u:lG}{ts:Ts}:DJ u∈ts.map DJ↔u∈ts:=by
 constructor
 .intro h;obtain⟨v,hv,e⟩:=bB.mp h;unfold DJ at e;injection e with e1 e2;injection e2 with e2 _;rw[show u=v from iH (Sum.inl.inj e1).symm (Sum.inl.inj e2).symm];exact hv
 .exact fun h=>bB.mpr ⟨u,h,rfl⟩
theorem N7(F:cJ n ts)(hh:h<n):((List.range (n-1)).map fun s=>(h+(s+1)) % n).filter (fun o=>decide ((ci h,ci o)∈ts))=bX n ts h:=by
 unfold bX;obtain⟨m,rfl⟩:∃m,n=m+1:=⟨n-1,by lia⟩
 have e0:(h+0) % (m+1)=h:=jF hh;rw[qt,gJ,eU,dQ,e0];have nt:¬ T ts h h:=fun z=>F.ne _ z rfl;rw[ao (fun z=>nt (fu z)),show m+1-1=m from rfl];exact B5 fun o _=>uz.mpr Iff.rfl
theorem SB:(["_law_tie"]:bQ).Nodup:=by decide +kernel
theorem qa:aN ["_law_many","_law_ties","_law_there","_law_found","_law_house","_law_around"] ["_law_many","_law_ties"] (aw DU):=dW (by decide +kernel)
def yS:Sp:=fun vs H Q _=>∃ (n:Nat) (l:Addr) (zs:Zs),vs=[.int n,.ref l]/\H l=some (.lst (zr zs))/\PO H zs/\cJ n (zp zs)/\∀ (r:Addr) (H':Hp),aI H H'->H r=none->bK H' (fun a=>H a=none) r n (bX n (zp zs))->Q (.ref r) H'
theorem Lk{f:Addr}{fd:eA}(F:iI K "_law_outs" "_law_outs" DU f fd)(B:Bl mg)(B2:UB mg):bU P w K mg base bo 1 f fd ["_law_many","_law_ties"] yS:=by
 refine F.ok qa (fun vs H Q E h=>?_) (fun fX A outer s H vs Q E hr h=>?_)
 .obtain⟨n,l,zs,rfl,_⟩:=h;rfl
 .obtain⟨n,l,zs,rfl,hl,po,Fi,q⟩:=h;have n1:=Fi.n1;have n2:=Fi.n2;have zl:zs.length<=256:=by have:=Fi.len;rwa [b_] at this
  refine'⟨_,(ak (aW (i:=2) qa.nd rfl cW (cU (DK rfl hr.u) (by rfl) B2.dict PyProof.Rows.boot_dict (aa ?c1 ag)))
   (ak (aW (i:=3) qa.nd rfl aL (cH ag))
   (ak (du eI rfl (b9 rfl B.range (aa (pv 0) ag)) (aA (i:=4) qa.nd rfl cW)
    (ak (fE (i:=5) (g:=(bH 0)) (te:=(jS (rI (fun _ j=>0<j) fun i j=>.int (i % j)) (jS (zR fun i j=>.int (i+j)) (bb 1) (bb 0)) (bb 2))) (NB:=["_law_k","_law_house","_law_many"]) (src:=[none,some 4,some 0]) (bz (by kernel_rfl)) rfl (qV rfl B.range (aa az (aa (pv 0) ag))) ?g2 ?t2 ?e2 qa.nd rfl rfl rfl)
    (av (cG (gQ gy i9 i8 cV (pv 3) (aa ?c3 ag))))))
   (av (bh (pv 3)))))),?_⟩
  case c1=>
   refine' cQ (g:=(bH 0)) (te:=(sG (bJ (bb 0) (bJ (tC (.bl true)) h_)))) (NB:=["_law_tie"]) (src:=[none]) (bz (by kernel_rfl)) rfl (bN (pv 1)) ?g ?t ?e;case g=>exact fun cl C s₃ H₃ fp=>(aA (i:=0) SB rfl aL cW)
   case t=>exact fun cl C s₃ H₃ fp=>dC
   case e=>exact fun cl C s₃ H₃ fp=>(bT (aa (pv 0) (aa Ep ag)))
  case g2=>exact fun cl C s₃ H₃ fp=>(aA (i:=0) tm rfl aL cW)
  case t2=>exact fun cl C s₃ H₃ fp=>dC
  case e2=>exact fun cl C s₃ H₃ fp=>(a9 je (a9 dM (pv 1) (pv 0)) (pv 2))
  case c3=>
   refine' cQ (g:=(bH 0)) (tt:=(tB (V4 (sG (bJ (bb 1) (bJ (bb 0) h_))) (bb 2)))) (te:=(bb 0)) (NB:=["_law_other","_law_house","_law_there"]) (src:=[none,some 4,some 2]) (bz (by kernel_rfl)) rfl (bN (pv 5)) ?g ?t ?e;case g=>exact fun cl C s₃ H₃ fp=>(aA (i:=0) mB rfl aL cW)
   case t=>exact fun cl C s₃ H₃ fp=>g8 (Qs (Q6 hr.u (bT (aa (pv 1) (aa (pv 0) ag))) (pv 2)))
   case e=>exact fun cl C s₃ H₃ fp=>(pv 0)
  refine⟨_,rfl,l,rfl,⟨_,a8.of hl⟩,fun D1 DH=>?_⟩;refine fZ (xs:=zr zs) (fun i ys σ H2=>(∃x,σ=[x])/\aI H H2/\H2 D1=some (.lst ys)/\∃as:List Addr,ys=as.map V.ref/\as.length=i/\∀j,j<i->∃z,zs[j]?=some z/\H2 (as.getD j 0)=some (.tup [.ref z.1,.bl true])) ⟨⟨_,rfl⟩,aj DH,ae,[],rfl,rfl,fun j hj=>absurd hj (n9 _)⟩ (fun i ys σ H2 _ z=>a8.of (z.2.1 _ _ hl)) ?_ ?_
  .rintro i x ys σ H2 Kt Kf hx ⟨⟨x',rfl⟩,sm,kD,as,rfl,al,ah⟩ kt kf;obtain⟨z,hz,rfl⟩:=vy hx;have hi:i<zs.length:=(eR.mp hz).1;refine⟨_,rfl,by show 2<=sizeLine;decide,fun t ht=>?_⟩;have st:=aj (o:=.tup [.ref z.1,.bl true]) ht;have nD:D1≠t:=am kD ht;refine kt _ _ _ (st _ _ kD) (by rw[aT,al];exact bv (show i<1000 by lia) (by decide)) ⟨⟨_,rfl⟩,bj (sm.trans st) DH,ae,as++[t],by rw[dt];rfl,by rw[dh,al];rfl,fun j hj=>?_⟩;by_cases c:j<i
   .obtain⟨z',e1,e2⟩:=ah j c;refine⟨z',e1,?_⟩;have e3:=st _ _ e2;rw[cw,j4 (by lia),<-cw,aq (by rintro e;rw[e,st _ _ kD] at e3;cases e3)];exact e3
   .obtain rfl:j=i:=by lia
    refine⟨z,hz,?_⟩;rw[cw,rN (by lia),al,uL];show (upd _ D1 _) t=_;rw[aq nD.symm];exact ae
  rintro ys σ H2 ⟨_,s2,jz,as,rfl,al,ah⟩;rw[dZ] at al ah;refine⟨D1,as,zs.map fun z=>(DJ z.2,z.1,V.bl true),rfl,jz,by rw[aT];exact al,fun i hi=>?_,by rw[aT];lia,fun Kn hK=>?_⟩
  .rw[aT] at hi;obtain⟨z,e1,e2⟩:=ah i hi;exact⟨DJ z.2,z.1,.bl true,by rw[cA,e1];rfl,e2,s2 _ _ (po z (dz e1))⟩
  have W6:∀u:Int×Int,(iX (eF [] (zs.map fun z=>(DJ z.2,z.1,V.bl true))) (DJ u)).isSome=decide (u∈zp zs):=fun u=>by
   rw[kQ,A_,dQ,ur];have e:((fun p:TK=>p.1) ∘ fun z:Addr×Int×Int=>(DJ z.2,z.1,V.bl true))=DJ ∘ fun z:Addr×Int×Int=>z.2:=rfl;rw[e,<-dQ];have:=N6 (u:=u) (ts:=zp zs);unfold zp at this |-;rw[this];simp[iX]
  have sK:=aj (o:=.dT (eF [] (zs.map fun z=>(DJ z.2,z.1,V.bl true)))) hK;have hKK:(upd H2 Kn (.dT (eF [] (zs.map fun z=>(DJ z.2,z.1,V.bl true))))) Kn=some (.dT (eF [] (zs.map fun z=>(DJ z.2,z.1,V.bl true)))):=ae;generalize eF [] _=kd at *;refine⟨by show 0<=sizeLine;decide,fun R hR=>?_⟩;have s3:aI H _:=s2.trans sK;have hK3:=aj (o:=.lst []) hR _ _ hKK;have hRH:=s3.free hR;have s4:=s3.trans (aj (o:=.lst []) hR);refine⟨_,rfl,(n:Int),rfl,by lia,by lia,eh (n:=n) (lo:=0) (fun i σ Hc=>(∃a b,σ=[some (.int n),some (.ref l),some (.ref Kn),some (.ref R),a,b])/\aI H Hc/\Hc Kn=some (.dT kd)/\∃bs:List Addr,Hc R=some (.lst (bs.map V.ref))/\(∀b∈bs,H b=none/\b≠R)/\Holds Hc bs i fun h=>.lst (NV (bX n (zp zs) h))) ⟨⟨_,_,rfl⟩,s4,hK3,[],ae,fun b hb=>(nomatch hb),Holds.nil⟩ ?_ ?_⟩
  .rintro i σ Hc hi ⟨⟨x4,x5,rfl⟩,sc,Y_,bs,W7,fr,hb⟩;have nKR:Kn≠R:=by rintro rfl;rw[Y_] at W7;cases W7
   rw[iG];refine⟨_,rfl,1,(n:Int),rfl,⟨by decide,by decide,by lia,by lia⟩,fun D2 jz=>?_⟩;rw[show ((n:Int)-1).toNat=n-1 by lia];refine N4 (lo:=1) (n:=n-1) (fun s=>V.int (((i+(s+1)) % n:Nat):Int)) (fun σ=>∃x,σ=[x,some (.int (i:Nat)),some (.int n)]) jz (by lia) ⟨_,rfl⟩ ?_ ?_
   .rintro x σ H4 R' Kf hx ⟨x',rfl⟩ yI kt;have e:((i:Int)+(1+(x:Int))) % (n:Int)=(((i+(x+1)) % n:Nat):Int):=by lia
    refine⟨_,rfl,_,rfl,_,_,rfl,rfl,_,rfl,_,_,rfl,rfl,(by show (0:Int)<(n:Int);lia),?_⟩;have:=kt [some (.int (1+(x:Int))),some (.int (i:Nat)),some (.int n)] H4 ⟨_,rfl⟩ (aI.refl _);rw[<-e] at this;exact this
   intro H4 s4 Bt;have W8:H4 D2=some (.lst (((List.range (n-1)).map fun s=>(i+(s+1)) % n).map fun (x:Nat)=>V.int (x:Int))):=by rw[Bt,dQ];rfl
   have tU:=s4 _ _ W7;refine⟨_,rfl,.inl ⟨rfl,_,a8.of tU⟩,_,rfl,D2,rfl,⟨_,a8.of W8⟩,fun D3 pY=>?_⟩;refine yR ((List.range (n-1)).map fun s=>(i+(s+1)) % n) (fun (x:Nat)=>V.int (x:Int)) (fun o=>decide ((ci i,ci o)∈zp zs)) (fun σ=>∃x,σ=[x,some (.int (i:Nat)),some (.ref Kn)]) W8 pY (by rw[aT,dk];lia) ⟨_,rfl⟩ ?_ ?_
   .rintro m σ H5 Kt Kf hm ⟨x',rfl⟩ SC kt kf;refine⟨_,rfl,_,rfl,by show 2<=sizeLine;decide,fun t ht=>?_⟩;have st:=aj (o:=.tup [.int (i:Int),.int (m:Int)]) ht;have hK5:=st _ _ (SC _ _ (s4 _ _ Y_));refine⟨_,rfl,Kn,_,rfl,JM.t (k:=DJ (ci i,ci m)) hK5 ae,_,rfl,?_⟩;rw[W6];refine gU (fun c=>?_) (fun c=>?_)
    .exact⟨_,rfl,kt _ _ ⟨_,rfl⟩ st c⟩
    .exact kf _ _ ⟨_,rfl⟩ st (by simpa using c)
   intro H5 s5 Me;rw[N7 Fi hi] at Me;have Rh:=s5 _ _ tU;have bl:bs.length=i:=hb.1;have Ip:D3≠R:=by rintro rfl;rw[tU] at pY;cases pY
   refine⟨R,_,_,rfl,rfl,Rh,by rw[aT,bl];exact bv (show i<33 by lia) (by decide),⟨_,_,rfl⟩,bj ((sc.trans s4).trans s5) hRH,?_,bs++[D3],by rw[ae,dt];rfl,fun b v6=>?_,?_⟩
   .rw[aq nKR];exact s5 _ _ (s4 _ _ Y_)
   .rcases cL.mp v6 with z|z
    .exact fr b z
    .rw[dA.mp z];exact⟨(sc.trans s4).free pY,Ip⟩
   .refine Holds.snoc (hb.mono fun j hj e=>?_) (by rw[aq Ip];exact Me);have e5:=s5 _ _ (s4 _ _ e);have hm:bs.getD j 0∈bs:=by rw[cw,cz (by lia)];exact ie _
    rw[aq (fr _ hm).2];exact e5
  .rintro σ Hc ⟨⟨x4,x5,rfl⟩,sc,Y_,bs,W7,fr,hb⟩;exact⟨_,rfl,q R Hc sc hRH ⟨bs,W7,fun b v6=>(fr b v6).1,hb⟩⟩
abbrev DV:Stmt:=top 50
def oV:Option Nat->V
 |none=>.cI
 |some y=>.int (y:Nat)
theorem Ll{y:Nat}:∀ {st:bA},(st.map oV).countP (fun z=>uY z (.int (y:Int)))=st.count (some y)
 |[]=>rfl
 |o::st=>by
  rw[gJ,qD,Ll,Ce];cases o with
  |none=>rfl
  |some x=>
   congr 1;show (if decide ((x:Int)=(y:Int))=true then 1 else 0)=_;by_cases h:x=y
   .subst h;simp
   .rw[ao (by simp;lia),ao (by simp[h])]
theorem mD:∀ {st:bA},(st.map oV).all g7=true
 |[]=>rfl
 |none::st=>mD (st:=st)
 |some _::st=>mD (st:=st)
structure kI(n:Nat)(ts:Ts)(homes:aQ)(st:bA):Prop where
 len:homes.length=st.length
 hs:∀x∈homes,x<n
 ss:∀i y:Nat,st[i]?=some (some y)->y<n/\homes[i]?≠some y
 cap:∀y,y<n->st.count (some y)<=(bX n ts y).length
theorem kI.snoc(S:kI n ts homes st)(hh:h<n)(ho:∀y,o=some y->y<n/\y≠h/\st.count (some y)<(bX n ts y).length):kI n ts (homes++[h]) (st++[o]):=by
 refine⟨by rw[dh,dh,S.len];rfl,fun x hx=>?_,fun i y e=>?_,fun y hy=>?_⟩
 .rcases cL.mp hx with z|z
  .exact S.hs x z
  .rw[dA.mp z];exact hh
 .by_cases c:i<st.length
  .rw[j4 c] at e;rw[j4 (by rw[S.len];exact c)];exact S.ss i y e
  .rw[rN (by lia)] at e;have hi:i=st.length:=by
    have:=(eR.mp e).1;rw[lO] at this;lia
   subst hi;rw[uL] at e;have:=ho y (cB e);refine⟨this.1,?_⟩;rw[<-S.len,rN (aP _),uL];exact fun z=>this.2.1 (cB z).symm
 .rw[List.count_append,List.count_singleton];by_cases e:o=some y
  .rw[ap (by rw[e];simp)];exact(ho y e).2.2
  .rw[ao (by simpa using e)];exact S.cap y hy
theorem jB:aN ["_law_pot_here","_law_outs_here","_law_many","_law_crowd","_law_homes","_law_stand","_law_k","_law_house"] ["_law_pot_here","_law_outs_here"] (aw DV):=dW (by decide +kernel)
def yT:Sp:=fun vs H Q _=>∃ (p r:Addr) (n:Nat) (ts:Ts) (L:iQ),vs=[.ref p,.ref r]/\2<=n/\n<=32/\bn H p/\bK H L r n (bX n ts)/\L r/\¬ L p/\
 ∀ (t a b:Addr) (homes:aQ) (st:bA) (H':Hp),aO p H H'->bn H' p->H' t=some (.tup [.ref a,.ref b])->H' a=some (.tup (NV homes))->H' b=some (.tup (st.map oV))->st.length<=16->kI n ts homes st->Q (.ref t) H'
theorem Lm(F:iI K "_law_start" "_law_start" DV f fd)(B:Bl mg)(D:d9 P w K mg base bo 1 "_law_take" ["_law_pot_here","_law_many"] ip):bU P w K mg base bo 2 f fd ["_law_pot_here","_law_outs_here"] yT:=by
 refine F.ok jB (fun vs H Q E h=>?_) (fun fX A outer s H vs Q E hr h=>?_)
 .obtain⟨p,r,n,ts,L,rfl,_⟩:=h;rfl
 .obtain⟨p,r,n,ts,L,rfl,n1,n2,hp,R0,hLr,hLp,q⟩:=h;refine⟨_,(ak (aW (i:=2) jB.nd rfl aL (aJ aV (by rfl) B.len fc (aa (pv 1) ag)))
   (ak (aW (i:=3) jB.nd rfl aL (aX aG (cH (aa (pv 2) (aa (pv 2) (aa az (aa az ag))))) (aH D hr aM (aa (pv 0) (aa az ag))) (fun _ _=>rfl)))
   (ak (Cq (i:=4) (j:=5) rfl jB.nd rfl rfl (by decide) rfl rfl (aa (cH ag) (aa (cH ag) ag)) (by rfl))
   (ak (du eI rfl (b9 rfl B.range (aa (aH D hr aM (aa (pv 0) (aa az ag))) ag)) (aA (i:=6) jB.nd rfl aL)
    (ak (cG (gQ gy i9 i8 cV (pv 4) (aa (aH D hr aM (aa (pv 0) (aa (pv 2) ag))) ag)))
    (ak (aW (i:=7) jB.nd rfl aL (aH D hr aM (aa (pv 0) (aa (aJ (qW rfl) (by rfl) B.min BL (aa (pv 3) (aa (pv 2) ag))) ag))))
    (ak (dS (PW.pt (Er (aY iR (aH D hr aM (aa (pv 0) (aa az ag))) az (bp _)) (Er (aY iR (pv 7) (aX aG (pv 4) (zS uU az) (fun _ _=>rfl)) (bp _)) (Cp (aY Pb (gQ gy PySem.F.slot_list_count PySem.F.type_list_count As (pv 5) (aa (pv 7) ag)) (aJ aV (by rfl) B.len fc (aa (aX aG (pv 1) (pv 7) (fun _ _=>rfl)) ag)) (bp _)))))) (av (aW (i:=7) jB.nd rfl aL (a9 je (a9 dM (a9 dM (pv 7) az) (aH D hr aM (aa (pv 0) (aa (pv 2) ag)))) (pv 2)))) b8)
    (ak (dS (PW.pt (Er (aY iR (pv 7) (aX aG (pv 4) (zS uU az) (fun _ _=>rfl)) (bp _)) (Cp (aY Pb (gQ gy PySem.F.slot_list_count PySem.F.type_list_count As (pv 5) (aa (pv 7) ag)) (aJ aV (by rfl) B.len fc (aa (aX aG (pv 1) (pv 7) (fun _ _=>rfl)) ag)) (bp _))))) (av (aW (i:=7) jB.nd rfl aL ij)) b8)
    (av (cG (gQ gy i9 i8 cV (pv 5) (aa (pv 7) ag)))))))))
   (av (bh (bT (aa (cU fh (by rfl) B.tup o4 (aa (pv 4) ag)) (aa (cU fh (by rfl) B.tup o4 (aa (pv 5) ag)) ag))))))))),?_⟩
  obtain⟨bs0,g1,g2,g3⟩:=id R0;have el:(((bs0.map V.ref).length:Nat):Int)=(n:Int):=by rw[aT,g3.1]
  refine⟨_,rfl,r,_,rfl,.inl (a8.of g1),?_⟩;rw[el];refine⟨_,rfl,_,rfl,by show 4<=sizeLine;decide,fun l hl=>⟨_,rfl,p,4,rfl,by decide,by decide,hp.same (aj hl),fun d1 H1 hd1 s1 mY=>?_⟩⟩;have gl:=s1 _ _ (ae (H:=H) (a:=l) (o:=.lst [.int (n:Int),.int (n:Int),.int 2,.int 1])) (hp.ne hl);obtain⟨c,hc,c1,c2⟩:∃c:Nat,zY [V.int (n:Int),.int (n:Int),.int 2,.int 1] (d1:Int)=some (.int c)/\1<=c/\c<=32:=by
   rcases(show d1=0\/d1=1\/d1=2\/d1=3 by lia) with rfl|rfl|rfl|rfl
   .exact⟨n,aD (j:=0) rfl,by lia,by lia⟩
   .exact⟨n,aD (j:=1) rfl,by lia,by lia⟩
   .exact⟨2,aD (j:=2) rfl,by decide,by decide⟩
   .exact⟨1,aD (j:=3) rfl,by decide,by decide⟩
  have P7:aO p H H1:=(aO.of (aj hl)).trans s1;refine⟨l,_,_,_,rfl,rfl,a8.of gl,hc,by show 0<=sizeLine;decide,fun Hs hHs=>⟨by show 0<=sizeLine;decide,fun St hSt=>⟨_,_,rfl,?_⟩⟩⟩;have sA:=aj (o:=.lst []) hHs;have sB:=aj (o:=.lst []) hSt;have gH:=sB _ _ (ae (H:=H1) (a:=Hs) (o:=.lst (NV [])));have gS:(upd (upd H1 Hs (.lst [])) St (.lst [])) St=some (.lst (List.map oV [])):=ae;have fH:H Hs=none:=P7.free mY.full hHs;have fS:H St=none:=P7.free mY.full (sA.free hSt);have UI:Hs≠p:=hp.ne fH;have Mb:St≠p:=hp.ne fS;have nHS:Hs≠St:=am ae hSt;have sAB:=sA.trans sB;generalize upd (upd H1 Hs _) St _=H2 at *;refine⟨_,rfl,p,17,rfl,by decide,by decide,mY.same sAB,fun d2 H3 R8 s3 nE=>⟨(d2:Int),rfl,by lia,by lia,?_⟩⟩;rw[gE];refine eh (lo:=0) (n:=d2) (fun i σ Hc=>∃ (homes:aQ) (st:bA),(∃a b,σ=[some (.ref p),some (.ref r),some (.int (n:Int)),some (.int (c:Int)),some (.ref Hs),some (.ref St),a,b])/\aO p H Hc/\bn Hc p/\Hc Hs=some (.lst (NV homes))/\Hc St=some (.lst (st.map oV))/\st.length=i/\kI n ts homes st)
   ⟨[],[],⟨_,_,rfl⟩,(P7.trans (aO.of sAB)).trans s3,nE,s3 _ _ gH UI,s3 _ _ gS Mb,rfl,rfl,fun x hx=>(nomatch hx),fun i y e=>by simp at e,fun y _=>cp _⟩ ?_ ?_
  .clear gH gS s3 nE sAB sA sB gl P7 s1 mY;rintro i σ Hc hi ⟨homes,st,⟨x6,x7,rfl⟩,sc,oP,N8,vQ,sl,SD⟩;refine⟨_,rfl,.inl ⟨rfl,_,a8.of N8⟩,_,rfl,_,rfl,p,n,rfl,by lia,by lia,oP,fun home H4 hh s4 sn=>⟨Hs,_,_,rfl,rfl,s4 _ _ N8 UI,by rw[be,SD.len,sl];exact bv (show i<33 by lia) (by decide),?_⟩⟩;rw[jA];have Sf:aO p H (upd H4 Hs (.lst (NV (homes++[home])))):=fun b o e m=>by rw[aq (am e fH)];exact s4 _ _ (sc _ _ e m) m
   have xf:=sn.put (o:=.lst (NV (homes++[home]))) UI.symm;have hS5:(upd H4 Hs (.lst (NV (homes++[home])))) St=some (.lst (st.map oV)):=by rw[aq nHS.symm];exact s4 _ _ vQ Mb
   have hH5:=ae (H:=H4) (a:=Hs) (o:=.lst (NV (homes++[home])));generalize upd H4 Hs _=H5 at *;clear s4 sn N8 vQ oP sc;have em:(if (n:Int)<(c:Int) then (n:Int) else (c:Int))=((min c n:Nat):Int):=by split <;> lia
   refine⟨_,rfl,_,rfl,_,rfl,_,_,rfl,p,min c n,by rw[em];rfl,by lia,by lia,xf,fun y0 H6 hy0 s6 zw=>?_⟩;have hgl:zY (NV (homes++[home])) (-1)=some (.int (home:Int)):=by rw[<-jA];exact zZ _ _
   dsimp only;refine xa (fun σ Hd=>∃y:Nat,y<n/\σ=[some (.ref p),some (.ref r),some (.int (n:Int)),some (.int (c:Int)),some (.ref Hs),some (.ref St),some (.int (0+(i:Int))),some (.int (y:Int))]/\aO p H Hd/\bn Hd p/\Hd Hs=some (.lst (NV (homes++[home])))/\Hd St=some (.lst (st.map oV))) ?_ ?_
   .rintro σ Hd ⟨y,hy,rfl,sd,Re,hH,hS⟩;refine xa (fun σ He=>He=Hd/\∃o:Option Nat,σ=[some (.ref p),some (.ref r),some (.int (n:Int)),some (.int (c:Int)),some (.ref Hs),some (.ref St),some (.int (0+(i:Int))),some (oV o)]/\∀y,o=some y->y<n/\y≠home/\st.count (some y)<(bX n ts y).length) ?_ ?_
    .rintro σ He ⟨rfl,o,rfl,ho⟩;refine⟨_,rfl,.inl ⟨rfl,_,a8.of hS⟩,_,rfl,St,_,_,rfl,rfl,hS,by rw[aT,sl];exact bv (show i<33 by lia) (by decide),?_⟩;exact⟨homes++[home],st++[o],⟨_,_,rfl⟩,fun b o' e m=>by rw[aq (am e fS)];exact sd _ _ e m,Re.put Mb.symm,by rw[aq nHS];exact hH,by rw[ae,dt];rfl,by rw[dh,sl];rfl,SD.snoc hh ho⟩
    .intro N hN;have Rd:=R0.keep hLr fun b o l e=>sd b o e fun z=>hLp (z ▸ l);obtain⟨bs,b1,b2,b3⟩:=Rd;have no:N _ Hd:=hN _ _ ⟨rfl,none,rfl,fun y e=>by cases e⟩;refine⟨_,rfl,_,rfl,_,rfl,Hs,_,_,_,rfl,rfl,a8.of hH,hgl,rfl,_,rfl,gU (fun e1=>vY ?_) (fun e1=>?_)⟩
     .exact no
     refine⟨_,rfl,.inl ⟨rfl,_,a8.of hS⟩,_,rfl,St,_,_,rfl,rfl,hS,rfl,mD,_,rfl,_,rfl,r,_,_,_,rfl,rfl,a8.of b1,aD (Lh (by rw[b3.1];exact hy)),_,_,rfl,.inl (a8.of (b3.2 y hy)),_,_,rfl,rfl,_,rfl,?_⟩;refine gU (fun e2=>no) (fun e2=>hN _ _ ⟨rfl,some y,rfl,fun y' e=>?_⟩);cases e;refine⟨hy,fun z=>e1 (by rw[z];simp),?_⟩;have e2:=mt iO e2;rw[Ll,be] at e2;lia
   .intro N hN;have WY:=Sf.trans s6;have hH:=s6 _ _ hH5 UI;have hS:=s6 _ _ hS5 Mb;have hy:y0<n:=by lia
    have Rd:∀ {Hd},aO p H Hd->bK Hd L r n (bX n ts):=fun sd=>R0.keep hLr fun b o l e=>sd b o e fun z=>hLp (z ▸ l);refine aao (fun Hd=>aO p H Hd/\bn Hd p/\Hd Hs=some (.lst (NV (homes++[home])))/\Hd St=some (.lst (st.map oV))) (fun Hd=>aO p H Hd/\bn Hd p/\Hd Hs=some (.lst (NV (homes++[home])))/\Hd St=some (.lst (st.map oV))) ?_ (fun Hd ⟨a1,a2,a3,a4⟩=>hN _ _ ⟨y0,hy,rfl,a1,a2,a3,a4⟩) ?_
    .rintro Hd ⟨sd,Re,hHd,hSd⟩;refine⟨_,rfl,_,_,rfl,rfl,_,rfl,_,rfl,p,n,rfl,by lia,by lia,Re,fun d3 H7 hd3 s7 K3=>⟨_,_,rfl,rfl,_,rfl,_,_,rfl,rfl,(by show (0:Int)<(n:Int);lia),?_⟩⟩;have ey:((y0:Int)+1+(d3:Int)) % (n:Int)=(((y0+1+d3) % n:Nat):Int):=by simp
     change bH 7 (V.int (((y0:Int)+1+(d3:Int)) % (n:Int))) _ _ _;rw[ey];exact hN _ _ ⟨_,lW _ (by lia),rfl,sd.trans s7,K3,s7 _ _ hHd UI,s7 _ _ hSd Mb⟩
    .intro Y N' hY hN';refine⟨_,rfl,p,7,rfl,by decide,by decide,zw,fun d3 H7 hd3 s7 K3=>⟨rfl,_,rfl,?_⟩⟩;have k7:=WY.trans s7;have hS:=s7 _ _ hS Mb;have hH:=s7 _ _ hH UI;refine gU (fun e0=>vY (hY _ ⟨k7,K3,hH,hS⟩)) (fun e0=>?_);refine⟨_,rfl,_,rfl,_,rfl,Hs,_,_,_,rfl,rfl,a8.of hH,hgl,rfl,_,rfl,gU (fun e1=>vY (hY _ ⟨k7,K3,hH,hS⟩)) (fun e1=>?_)⟩;obtain⟨bs,b1,b2,b3⟩:=Rd k7;refine⟨_,rfl,.inl ⟨rfl,_,a8.of hS⟩,_,rfl,St,_,_,rfl,rfl,hS,rfl,mD,_,rfl,_,rfl,r,_,_,_,rfl,rfl,a8.of b1,aD (Lh (by rw[b3.1];exact hy)),_,_,rfl,.inl (a8.of (b3.2 y0 hy)),_,_,rfl,rfl,_,rfl,?_⟩;exact gU (fun e2=>hY _ ⟨k7,K3,hH,hS⟩) (fun e2=>hN' _ ⟨k7,K3,hH,hS⟩)
  .rintro σ Hc ⟨homes,st,⟨x6,x7,rfl⟩,sc,oP,N8,vQ,sl,SD⟩;refine⟨_,rfl,Hs,_,rfl,.inl ⟨a8.of N8,fun ta hta=>⟨_,rfl,St,_,rfl,.inl ⟨a8.of (aj hta _ _ vQ),fun tb YG=>⟨by show 2<=sizeLine;decide,fun t ht=>?_⟩⟩⟩⟩⟩;have u1:=aj (o:=.tup (NV homes)) hta;have u2:=aj (o:=.tup (st.map oV)) YG;have u3:=aj (o:=.tup [.ref ta,.ref tb]) ht;exact q t ta tb homes st _ (sc.trans (aO.of ((u1.trans u2).trans u3))) (((oP.same u1).same u2).same u3) ae (u3 _ _ (u2 _ _ ae)) (u3 _ _ ae) (by lia) SD
abbrev sUW:Stmt:=top 13
abbrev Fz:Stmt:=gw (top 15) 1
abbrev sFF:Stmt:=top 26
abbrev sHT:Stmt:=top 25
abbrev Ln:Stmt:=top 23
theorem lz:(["letter","house"]:bQ).Nodup:=by decide +kernel
theorem jn:(["ahead","goes","stand","letter"]:bQ).Nodup:=by decide +kernel
theorem N9:(["home"]:bQ).Nodup:=by decide +kernel
noncomputable def iU(n:Nat)(ts:Ts)(i j:Nat):List Nat:=(bX n ts i).filter fun o=>decide (far ts o j<far ts i j)
theorem nbG:(["other","self","home","own"]:bQ).Nodup:=by decide +kernel
def oZ(st:bA)(i:Nat):List Nat:=(List.range i).filter fun j=>(st.getD j none).isSome
theorem qb:oZ st (i+1)=oZ st i++if (st.getD i none).isSome then [i] else []:=by
 unfold oZ;rw[lw,ic,eU];rfl
theorem jC:(oZ st i).length<=i:=aZ (iL _ _) (by rw[dk];exact aP _)
def W9:R2:=fun x y H Q=>y=.cI/\Q (.bl (!decide (x=.cI))) H
theorem DW{st:bA}{i:Nat}{x:V}(h:(st.map oV)[i]?=some x):i<st.length/\x=oV (st.getD i none):=by
 have hi:=(eR.mp h).1;rw[aT] at hi;refine⟨hi,?_⟩;rw[cA,cz hi] at h;rw[cw,cz hi];exact(cB h).symm
theorem FB:(!decide (oV o=.cI))=o.isSome:=by cases o <;> simp[oV]
theorem yU{α:Type}{l:List α}{i:Nat}{d:α}(h:i<l.length):l[i]?=some (l.getD i d):=by rw[cw,cz h];rfl
theorem jD(h:j∈oZ st i):j<i/\st.getD j none=some ((st.getD j none).getD 0):=by
 obtain⟨a,b⟩:=gb.mp h;refine⟨bY.mp a,?_⟩;cases e:st.getD j none with
 |none=>rw[e] at b;cases b
 |some y=>rfl
def ng(st gs:bA)(l:Nat)(os:aQ):Option Nat:=os.find? fun h=>!((List.range st.length).any fun a=>decide (st.getD a none=st.getD l none)&&decide (gs.getD a none=some h))
theorem kJ{st:bA}{i:Nat}(h:i<st.length):(st.map oV)[i]?=some (oV (st.getD i none)):=by
 rw[cA,cw,cz h];rfl
theorem W_:decide (oV a=oV b)=decide (a=b):=by
 cases a <;> cases b <;> simp[oV];exact⟨fun h=>d7 h,fun h=>by rw[h]⟩
theorem N_:Mq (oV a) (oV b)=true:=by cases a <;> cases b <;> rfl
theorem P_{h:Nat}:∀ {xs:bA},L5 (.int (h:Int)) (xs.map oV)=xs.any fun o=>decide (o=some h)
 |[]=>rfl
 |o::xs=>by
  have ih:=P_ (h:=h) (xs:=xs);unfold L5 at *;rw[gJ,lU,lU,ih];cases o with
  |none=>rfl
  |some x=>
   congr 1;show decide ((x:Int)=(h:Int))=_;by_cases e:x=h
   .subst e;simp
   .rw[gY (by lia),gY (by simp[e])]
theorem dE.own(N:dE C H L p n ts):dE C H (fun b=>H b≠none) p n ts:=by
 obtain⟨dx,tl,ol,ds,a,l1,l2,b,c,d⟩:=N.ob;have ne:∀ {b o},H b=some o->H b≠none:=fun e z=>by rw[e] at z;cases z
 have vT:∀ {l r},bK H L l n r->bK H (fun b=>H b≠none) l n r/\H l≠none:=fun ⟨bs,a,b,c⟩=>⟨⟨bs,a,fun x hx=>by
  obtain⟨j,hj,e⟩:=uk hx;have:=c.2 j (by rw[<-c.1];exact hj);rw[cw,cz hj,qC,e] at this;exact ne this,c⟩,ne a⟩
 obtain⟨t1,zs,t2,t3,t4,t5⟩:=d;exact⟨N.lE,dx,tl,ol,ds,a,(vT b).2,(vT c).2,(vT b).1,(vT c).1,ne t2,zs,t2,t3,fun z hz=>ne (t3 z hz),t5⟩
theorem Lo:aN ["self","house","home","own"] ["self","house","home"] (aw Ks):=dW (by decide +kernel)
def yV(C:Addr):Sp:=fun vs H Q _=>∃ (L:iQ) (p:Addr) (n:Nat) (ts:Ts) (i j:Nat),vs=[.ref p,.int i,.int j]/\dE C H L p n ts/\i<n/\j<n/\∀r H',aI H H'->H r=none->H' r=some (.lst (NV (iU n ts i j)))->Q (.ref r) H'
theorem Lp(F:iI K "good" "Net.good" Ks f fd)(T:NT K mg C)(M:jX P w K mg base bo 5 C "far" ["self","one","other"] (oJ C)):
  bU P w K mg base bo 6 f fd ["self","house","home"] (yV C):=by
 obtain⟨fM,fdM,mM,bM,GM⟩:=M.ex;refine F.ok Lo (fun vs H Q E h=>?_) (fun fX A outer s H vs Q E hr h=>?_)
 .obtain⟨L,p,n,ts,i,j,rfl,_⟩:=h;rfl
 .obtain⟨L,p,n,ts,i,j,rfl,N,hi,hj,k2⟩:=h;obtain⟨dx,tl,ol,ds,h1,_,_,RO,R,_⟩:=N.ob;have fi:=N.lE;have n2:=fi.n2;refine'⟨_,ak (aW (i:=3) Lo.nd rfl cW (eZ (pv 0) T.cl mM GM hr bM .nil aM (aa (pv 1) (aa (pv 2) ag))))
   (av (bh ?c)),?_⟩
  case c=>
   refine' cQ (g:=bH 0) (tt:=pA (jS (zR fun i j=>.bl (decide (i<j))) (jS (sI K) (jS (sI K) (Mw K (bb 1) "distances") (bb 0)) (bb 2)) (bb 3))) (te:=bb 0) (NB:=["other","self","home","own"]) (src:=[none,some 0,some 2,some 3]) (bz (by kernel_rfl)) rfl (bN (aX aG (k9 (pv 0) rfl) (pv 1) (fun _ _=>rfl))) ?g ?t ?e;case g=>exact fun cl C s₃ H₃ fp=>aA (i:=0) nbG rfl aL cW
   case t=>exact fun cl C s₃ H₃ fp=>g8 (aY nw (aX aG (aX aG (k9 (pv 1) rfl) (pv 0) (fun _ _=>rfl)) (pv 2) (fun _ _=>rfl)) (pv 3) (bp _))
   case e=>exact fun cl C s₃ H₃ fp=>pv 0
  refine⟨_,rfl,p,dx,_,rfl,h1,Rz _ _ _ _,_,rfl,_,rfl,L,p,n,ts,i,j,rfl,N,hi,hj,?_⟩;obtain⟨bs,b,r1,r2,r3,_⟩:=RO.row hi;refine⟨_,rfl,p,C,dx,_,_,rfl,h1,T.cl,T.nO,Fe _ _ _ _,_,rfl,ol,_,_,_,rfl,rfl,a8.of r1,aD r2,b,rfl,⟨_,a8.of r3⟩,fun D hD=>?_⟩;have nb:b≠D:=am r3 hD;refine fZ (xs:=NV (bX n ts i)) (fun m ys σ H2=>(∃a,σ=[a,some (.ref p),some (.int (j:Int)),some (.int ((far ts i j:Nat):Int))])/\ys=NV (((bX n ts i).take m).filter fun o=>decide (far ts o j<far ts i j))/\H2=upd H D (.lst ys)) ⟨⟨_,rfl⟩,by simp,rfl⟩ (fun m ys σ H2 _ ⟨_,_,e⟩=>by rw[e];exact a8.of (by rw[aq nb];exact r3)) ?_ ?_
  .rintro m x ys σ H2 Kt Kf hx ⟨⟨a,rfl⟩,ey,rfl⟩ kt kf;obtain⟨v,hv,rfl⟩:=p6 hx;have RM:v∈bX n ts i:=dz hv;have KA:v<n:=tV fi hi RM;have sm:aI H (upd H D (.lst ys)):=aj hD;obtain⟨bs2,b2,q1,q2,q3,_⟩:=R.row KA;have hg:(NV ((List.range n).map (far ts v)))[j]?=some (.int (far ts v j:Nat)):=by
    rw[cA,cA,f_ hj];rfl
   have tk:(bX n ts i).take (m+1)=(bX n ts i).take m++[v]:=by rw[gW,hv];rfl
   have hm:m<(bX n ts i).length:=(eR.mp hv).1;refine⟨_,rfl,p,C,dx,_,_,rfl,sm _ _ h1,T.cl,T.nD,Ff _ _ _ _,_,rfl,ds,_,_,_,rfl,rfl,a8.of (sm _ _ q1),aD q2,_,rfl,b2,_,_,_,rfl,rfl,a8.of (sm _ _ q3),aD hg,_,rfl,_,_,rfl,rfl,_,rfl,?_⟩;refine gU (fun e=>?_) (fun e=>?_)
   .refine⟨_,rfl,kt _ _ _ ae ?_ ⟨⟨_,rfl⟩,?_,by rw[mN]⟩⟩
    .rw[ey,be];refine eK (iL _ _) (eK (xy _ _) (bv (show m<33 from ?_) (by decide)));have:(bX n ts i).length<=n:=aZ (iL _ _) (by simp);lia
    .have:decide (far ts v j<far ts i j)=true:=by simp at e |-;lia
     rw[ey,tk,ic,jA];simp[eU,this]
   .refine kf _ _ ⟨⟨_,rfl⟩,?_,rfl⟩;have:decide (far ts v j<far ts i j)=false:=by simp at e |-;lia
    rw[ey,tk,ic];simp[eU,this]
  .rintro ys σ H2 ⟨_,ey,rfl⟩;rw[be,ja] at ey;refine k2 D _ (aj hD) hD ?_;rw[ae,ey];rfl
theorem aaD:aN ["stand"] ["stand"] (aw sUW):=dW (by decide +kernel)
def DX:Sp:=fun vs H Q _=>∃ (sa:Addr) (st:bA),vs=[.ref sa]/\H sa=some (.tup (st.map oV))/\st.length<=16/\∀ (r:Addr) (H':Hp),aI H H'->H r=none->H' r=some (.lst (NV (oZ st st.length)))->Q (.ref r) H'
theorem Xa{f:Addr}{fd:eA}(F:iI K "under_way" "under_way" sUW f fd)(hE:mg "enumerate"=none):bU P w K mg base bo 1 f fd ["stand"] DX:=by
 refine F.ok aaD (fun vs H Q E h=>?_) (fun fX A outer s H vs Q E hr h=>?_)
 .obtain⟨sa,st,rfl,_⟩:=h;rfl
 .obtain⟨sa,st,rfl,hS,hl,q⟩:=h;refine'⟨_,(av (bh ?c1)),?_⟩;case c1=>
   refine' cQ (g:=(uS K 2 (gn (bH 0) (gn (bH 1) uR)))) (tt:=(pA (jS W9 (bb 1) (tC .cI)))) (te:=(bb 0)) (NB:=["letter","house"]) (src:=[none,none]) (bz (by kernel_rfl)) rfl (Au rfl hE (aa (pv 0) ag)) ?g ?t ?e;case g=>exact fun cl C s₃ H₃ fp=>(dX (n:=2) rfl (aE (aA (i:=0) lz rfl aL cW) (aE (aA (i:=1) lz rfl aL cW) cM)))
   case t=>exact fun cl C s₃ H₃ fp=>g8 (aY Ew (pv 1) ij (bp _))
   case e=>exact fun cl C s₃ H₃ fp=>(pv 0)
  refine⟨_,rfl,sa,_,rfl,cu.of hS,fun D hD=>?_⟩;refine C_ (K:=K) (a:=sa) (xs:=st.map oV) (fun i ys σ H3=>(∃u v,σ=[u,v])/\ys=NV (oZ st i)/\aI H H3/\H3 D=some (.lst ys)) ⟨⟨_,_,rfl⟩,rfl,aj hD,ae⟩ (fun i ys σ H3 _ z=>cu.of (z.2.2.1 _ _ hS)) ?_ ?_
  .rintro i x t ys σ H3 Kt Kf hx ⟨⟨u,v,rfl⟩,rfl,sm,pY⟩ ht kt kf;obtain⟨hi,rfl⟩:=DW hx;have aF:=aj (o:=.tup [.int (i:Int),oV (st.getD i none)]) ht;refine⟨_,_,rfl,cu.of ae,rfl,_,_,rfl,_,_,rfl,rfl,?_⟩;refine⟨_,rfl,rfl,_,rfl,?_⟩;rw[FB];refine gU (fun e=>?_) (fun e=>?_)
   .refine⟨_,rfl,kt _ _ _ (aF _ _ pY) (by rw[be];exact eK jC (bv (show i<17 by lia) (by decide))) ⟨⟨_,_,rfl⟩,?_,bj (sm.trans aF) hD,ae⟩⟩;rw[qb,ap e,jA]
   .refine kf _ _ ⟨⟨_,_,rfl⟩,?_,sm.trans aF,aF _ _ pY⟩;rw[qb,ao e,jI]
  .rintro ys σ H3 ⟨_,rfl,sm,pY⟩;rw[aT] at pY;exact q D H3 sm hD pY
theorem SE:aN ["self","net","homes","stand","beat"] ["self","net","homes","stand","beat"] (aw Fz):=dW (by decide +kernel)
def vK:Sp:=fun vs H Q _=>∃ (x0 x1 x2 x4:V) (sa:Addr) (st:bA),vs=[x0,x1,x2,.ref sa,x4]/\H sa=some (.tup (st.map oV))/\st.length<=16/\∀ (r:Addr) (H':Hp),aI H H'->H r=none->H' r=some (.lst (NV (oZ st st.length)))->Q (.ref r) H'
theorem FE(F:iI K "order" "Rule.order" Fz f fd)(UW:d9 P w K mg base bo 1 "under_way" ["stand"] DX):bU P w K mg base bo 2 f fd ["self","net","homes","stand","beat"] vK:=by
 refine F.ok SE (fun vs H Q E h=>?_) (fun fX A outer s H vs Q E hr h=>?_)
 .obtain⟨x0,x1,x2,x4,sa,st,rfl,_⟩:=h;rfl
 .obtain⟨x0,x1,x2,x4,sa,st,rfl,hS,hl,q⟩:=h;refine⟨_,(av (bh (aH UW hr aM (aa (pv 3) ag)))),?_⟩;exact⟨_,rfl,sa,st,rfl,hS,hl,q⟩
theorem SF:aN ["others","stand","goes","letter","taken","house"] ["others","stand","goes","letter"] (aw sFF):=dW (by decide +kernel)
def SG:Sp:=fun vs H Q _=>∃ (oa sa ga:Addr) (os:aQ) (st gs:bA) (l:Nat),vs=[.ref oa,.ref sa,.ref ga,.int l]/\H oa=some (.lst (NV os))/\H sa=some (.tup (st.map oV))/\H ga=some (.lst (gs.map oV))/\gs.length=st.length/\st.length<=16/\l<st.length/\∀H',aI H H'->Q (oV (ng st gs l os)) H'
theorem Xb{f:Addr}{fd:eA}(F:iI K "first_free" "first_free" sFF f fd)(B:Bl mg):bU P w K mg base bo 1 f fd ["others","stand","goes","letter"] SG:=by
 refine F.ok SF (fun vs H Q E h=>?_) (fun fX A outer s H vs Q E hr h=>?_)
 .obtain⟨oa,sa,ga,os,st,gs,l,rfl,_⟩:=h;rfl
 .obtain⟨oa,sa,ga,os,st,gs,l,rfl,hO,hS,hG,gl,sl,hl,q⟩:=h;refine'⟨_,(ak (fE (i:=4) (g:=(bH 0)) (tt:=(pA (jS (ZJ) (jS (z4 K) (bb 2) (bb 0)) (jS (z4 K) (bb 2) (bb 3))))) (te:=(jS (sI K) (bb 1) (bb 0))) (NB:=["ahead","goes","stand","letter"]) (src:=[none,some 2,some 1,some 3]) (bz (by kernel_rfl)) rfl (b9 rfl B.range (aa (aJ aV (by rfl) B.len fc (aa (pv 1) ag)) ag)) ?g1 ?t1 ?e1 SF.nd rfl rfl rfl)
   (ak (du eI rfl (bN (pv 0)) (aA (i:=5) SF.nd rfl aL)
    (av (dS (aY yb (pv 5) (pv 4) rfl) (av (bh (pv 5))) b8)))
   (av (bh ij)))),?_⟩
  case g1=>exact fun cl C s₃ H₃ fp=>(aA (i:=0) jn rfl aL cW)
  case t1=>exact fun cl C s₃ H₃ fp=>g8 (aY iR (aX eN (pv 2) (pv 0) (fun _ _=>rfl)) (aX eN (pv 2) (pv 3) (fun _ _=>rfl)) (bp _))
  case e1=>exact fun cl C s₃ H₃ fp=>(aX aG (pv 1) (pv 0) (fun _ _=>rfl))
  refine⟨_,rfl,sa,_,rfl,.inr (cu.of hS),(((st.map oV).length:Nat):Int),rfl,by lia,by rw[aT];lia,fun D hD=>?_⟩;rw[gE,aT];refine fJ (fun i ys σ H2=>(∃x,σ=[x,some (.ref ga),some (.ref sa),some (.int (l:Int))])/\aI H H2/\H2 D=some (.lst ys)/\ys=(((List.range i).filter fun a=>decide (st.getD a none=st.getD l none)).map fun a=>gs.getD a none).map oV) ⟨⟨_,rfl⟩,aj hD,ae,rfl⟩ ?_ ?_
  .rintro i ys σ H2 Kt Kf hi ⟨⟨x,rfl⟩,sm,jz,rfl⟩ kt kf;rw[iG];refine⟨_,rfl,_,rfl,sa,_,_,_,rfl,rfl,cu.of (sm _ _ hS),aD (kJ hi),_,rfl,_,rfl,sa,_,_,_,rfl,rfl,cu.of (sm _ _ hS),aD (kJ hl),N_,_,rfl,?_⟩;rw[W_];refine gU (fun c=>?_) (fun c=>?_)
   .refine⟨_,rfl,_,rfl,ga,_,_,_,rfl,rfl,a8.of (sm _ _ hG),aD (kJ (by lia)),?_⟩;refine kt _ _ _ jz ?_ ⟨⟨_,rfl⟩,bj sm hD,ae,?_⟩
    .rw[aT,aT];refine eK (iL _ _) ?_;rw[dk];exact bv (show i<17 by lia) (by decide)
    .rw[lw,ic,dt,dt,eU,ap c];rfl
   .refine kf _ _ ⟨⟨_,rfl⟩,sm,jz,?_⟩;rw[lw,ic,eU,ao c,Cd,jI]
  rintro ys σ H2 ⟨_,sm,jz,rfl⟩;have ein:∀h:Nat,L5 (.int (h:Int)) ((((List.range st.length).filter fun a=>decide (st.getD a none=st.getD l none)).map fun a=>gs.getD a none).map oV)=(List.range st.length).any fun a=>decide (st.getD a none=st.getD l none)&&decide (gs.getD a none=some h):=fun h=>by
   rw[P_,List.any_map,List.any_filter];rfl
  generalize hw:(((List.range st.length).filter fun a=>decide (st.getD a none=st.getD l none)).map fun a=>gs.getD a none)=ws at *;refine⟨_,rfl,oa,rfl,⟨_,a8.of (sm _ _ hO)⟩,eM (K:=K) (xs:=NV os) (fun j σ H3=>(∃x,σ=[some (.ref oa),some (.ref sa),some (.ref ga),some (.int (l:Int)),some (.ref D),x])/\H3=H2/\ng st gs l os=ng st gs l (os.drop j)) ⟨⟨_,rfl⟩,rfl,rfl⟩ (fun j σ H3 _ z=>by rw[z.2.1];exact a8.of (sm _ _ hO)) ?_ ?_⟩
  .rintro j x σ H3 hx ⟨⟨x5,rfl⟩,rfl,ef⟩;obtain⟨h,hv,rfl⟩:=p6 hx;have hj:j<os.length:=(eR.mp hv).1;have ed:os.drop j=h::os.drop (j+1):=by
    rw[qo hj];congr 1;exact(eR.mp hv).2
   refine⟨_,rfl,_,rfl,D,_,rfl,.inl (a8.of jz),rfl,mD,_,rfl,?_⟩;have ef2:ng st gs l (h::os.drop (j+1))=if (!L5 (.int (h:Int)) (ws.map oV))=true then some h else ng st gs l (os.drop (j+1)):=by
    rw[ein];unfold ng;rw[lR];cases (!((List.range st.length).any fun a=>decide (st.getD a none=st.getD l none)&&decide (gs.getD a none=some h))) <;> rfl
   rw[ed,ef2] at ef;refine gU (fun c=>?_) (fun c=>?_)
   .have c:(!L5 (.int (h:Int)) (ws.map oV))=true:=c;rw[ap c] at ef;refine⟨_,rfl,?_⟩;have:=q H3 sm;rw[ef] at this;exact this
   .have c:¬ (!L5 (.int (h:Int)) (ws.map oV))=true:=c;rw[ao c] at ef;exact⟨⟨_,rfl⟩,rfl,ef⟩
  .rintro σ H3 ⟨⟨x5,rfl⟩,rfl,ef⟩;have:=q H3 sm;rw[ef,be,List.drop_length] at this;exact this
structure lA(n:Nat)(homes:aQ)(st:bA):Prop where
 le:st.length<=16
 len:homes.length=st.length
 hs:∀x∈homes,x<n
 ss:∀y,some y∈st->y<n
theorem lA.at(S:lA n homes st)(h:l∈oZ st st.length):l<st.length/\∃y,st.getD l none=some y/\y<n/\homes.getD l 0<n:=by
 obtain⟨a,b⟩:=jD h;refine⟨a,_,b,S.ss _ ?_,S.hs _ ?_⟩
 .rw[<-b,cw,cz a];exact ie _
 .rw[dD (by rw[S.len];exact a)];exact ie _
theorem Xc(n:Int)(tl ol ds:Addr):(rC n tl ol ds).lookup ("good":Str)=none:=t7 n tl ol ds (by decide +kernel) (by decide +kernel) (by decide +kernel) (by decide +kernel)
theorem aaE(n:Int)(tl ol ds:Addr):(rC n tl ol ds).lookup ("out":Str)=none:=t7 n tl ol ds (by decide +kernel) (by decide +kernel) (by decide +kernel) (by decide +kernel)
theorem qc:(bX n ts h).length<=n:=aZ (iL _ _) (by simp)
theorem dE.Oa(N:dE C H L p n ts):∃dx fs,H p=some (.ins C dx fs)/\fs.lookup ("good":Str)=none/\fs.lookup ("out":Str)=none:=by
 obtain⟨dx,tl,ol,ds,a,_⟩:=N.ob;exact⟨dx,_,a,Xc _ _ _ _,aaE _ _ _ _⟩
abbrev Lq:Stmt:=top 51
theorem SH:Mq (oV o) (.int (h:Int))=true:=by cases o <;> rfl
theorem Xd{o:Option Nat}{h:Nat}:decide (oV o=V.int (h:Int))=decide (o=some h):=by
 cases o with
 |none=>exact uz.mpr ⟨(fun z=>by cases z),(fun z=>by cases z)⟩
 |some y=>exact uz.mpr ⟨(fun z=>by injection z with z;exact congrArg some (d7 z)),(fun z=>by cases z;rfl)⟩
theorem dE.weak(N:dE C H L p n ts)(k:∀b,L b->L' b):dE C H L' p n ts:=by
 obtain⟨F',dx',tl,ol,ds,q1,q2,q3,⟨b1,c1,d1,e1⟩,⟨b2,c2,d2,e2⟩,⟨a3,zs,b3,c3,d3,e3⟩⟩:=N;exact⟨F',dx',tl,ol,ds,q1,k _ q2,k _ q3,⟨b1,c1,fun b hb=>k b (d1 b hb),e1⟩,⟨b2,c2,fun b hb=>k b (d2 b hb),e2⟩,⟨k _ a3,zs,b3,c3,fun z hz=>k _ (d3 z hz),e3⟩⟩
theorem m9.mE(t:m9 Pt H)(s:aO p H H')(hp:bn H p):m9 Pt H':=by
 obtain⟨a,b,e,_⟩:=hp;rcases t with z|⟨c,z,y⟩
 .exact .inl (s _ _ z (by rintro rfl;rw[z] at e;cases e))
 .exact .inr ⟨c,s _ _ z (by rintro rfl;rw[z] at e;cases e),s _ _ y (by rintro rfl;rw[y] at e;cases e)⟩
theorem bK.weak(R:bK H L l n r)(k:∀b,L b->L' b):bK H L' l n r:=let ⟨bs,a,b,c⟩:=R;⟨bs,a,fun x hx=>k x (b x hx),c⟩
def FG(Pt p:Addr)(H H':Hp):Prop:=∀b o,H b=some o->b≠Pt->b≠p->H' b=some o
structure rG(C:Addr)(H0 H:Hp)(t px oa fa ha sa:Addr)(n:Nat)(ts:Ts)(homes:aQ)(st:bA):Prop where
 tu:H t=some (.tup [.ref px,.ref oa,.ref fa,.ref ha,.ref sa])
 net:dE C H (fun b=>H0 b=none) px n ts
 px:H0 px=none
 out:bK H (fun b=>H0 b=none) oa n (bX n ts)
 oa:H0 oa=none
 far:bK H (fun b=>H0 b=none) fa n (fun h=>(List.range n).map (far ts h))
 fa:H0 fa=none
 ha:H ha=some (.tup (NV homes))
 sa:H sa=some (.tup (st.map oV))
 le:st.length<=16
 sd:kI n ts homes st
theorem rH:aN ["_law_pot_here","_law_many","_law_ties","_law_outs_here","_law_homes","_law_stand"] ["_law_pot_here"] (aw Lq):=dW (by decide +kernel)
def DY(C Pt:Addr):Sp:=fun vs H Q _=>∃p:Addr,vs=[.ref p]/\bn H p/\m9 Pt H/\
 ∀ (t px oa fa ha sa:Addr) (n:Nat) (ts:Ts) (homes:aQ) (st:bA) (H':Hp),FG Pt p H H'->bn H' p->m9 Pt H'->rG C H H' t px oa fa ha sa n ts homes st->Q (.ref t) H'
theorem Ob(F:iI K "_law_case" "_law_case" Lq f fd)(T:NT K mg C)(M:Mk K C fI)(bI:lx K fdI ["self","many","ties"] [])(GI:bU P w K mg base bo 7 fI fdI ["self","many","ties"] (DD C Pt))(NE:d9 P w K mg base bo 3 "_law_net" ["_law_pot_here"] Lj)(OU:d9 P w K mg base bo 1 "_law_outs" ["_law_many","_law_ties"] yS)(ST:d9 P w K mg base bo 2 "_law_start" ["_law_pot_here","_law_outs_here"] yT)(FA:d9 P w K mg base bo 1 "_law_far" ["_law_outs_here"] DT):
  bU P w K mg base bo 9 f fd ["_law_pot_here"] (DY C Pt):=by
 refine F.ok rH (fun vs H Q E h=>?_) (fun fX A outer s H vs Q E hr h=>?_)
 .obtain⟨p,rfl,_⟩:=h;rfl
 .obtain⟨p,rfl,hp,tb,q⟩:=h;have h1:df 1 _:=hr.mono (by decide);have h2:df 2 _:=hr.mono (by decide);have h3:df 3 _:=hr.mono (by decide);refine⟨_,(ak (d8 (aH NE h3 aM (aa (pv 0) ag)) (dX (n:=2) rfl (aE (aA (i:=1) rH.nd rfl aL) (aE (aA (i:=2) rH.nd rfl aL) cM))))
   (ak (aW (i:=3) rH.nd rfl aL (aH OU h1 aM (aa (pv 1) (aa (pv 2) ag))))
   (ak (d8 (aH ST h2 aM (aa (pv 0) (aa (pv 3) ag))) (dX (n:=2) rfl (aE (aA (i:=4) rH.nd rfl aL) (aE (aA (i:=5) rH.nd rfl aL) cM))))
   (av (bh (bT (aa (Ez M GI hr rfl T.Nm bI .nil aM (aa (pv 1) (aa (pv 2) ag))) (aa (pv 3) (aa (aH FA h1 aM (aa (pv 3) ag)) (aa (pv 4) (aa (pv 5) ag))))))))))),?_⟩
  refine⟨_,rfl,p,rfl,hp,fun t0 r n zs H1 s1 mY ht0 ht1 HN DE P8 F1=>⟨t0,_,rfl,cu.of ht1,rfl,_,_,rfl,_,_,rfl,rfl,?_⟩⟩;refine⟨_,rfl,_,rfl,n,r,zs,rfl,DE,P8,F1,fun oa H2 s2 Za R2=>?_⟩;have fr1:∀ {b:Addr},H1 b=none->H b=none:=fun h=>s1.free mY.full h;refine⟨_,rfl,_,rfl,p,oa,n,zp zs,_,rfl,F1.n1,F1.n2,mY.same s2,R2,Za,fun z=>mY.full z,fun t3 ha sa homes st H3 s3 nE ht3 hha hsa sl SD=>⟨t3,_,rfl,cu.of ht3,rfl,_,_,rfl,_,_,rfl,rfl,?_⟩⟩;have R3:=R2.keep Za fun b o l e=>s3 b o e fun z=>mY.full (z ▸ l);have nrp:r≠p:=hp.ne HN;have DZ:=s3 _ _ (s2 _ _ DE) nrp;have RQ:=(P8.same s2).sf s3 (mY.same s2);have Mf:aO p H H3:=(s1.trans (aO.of s2)).trans s3;have t3':=tb.mE Mf hp;refine⟨_,rfl,_,rfl,fun px dx nx ndx Zb=>?_⟩;have sN:aI H3 (upd (upd H3 dx (.own px)) px (.ins C dx [])):=(aj (o:=.own px) ndx).trans (aj (D:=px) (o:=.ins C dx []) (by rw[aq Zb.symm];exact nx));refine⟨px,dx,n,r,zs,rfl,ae,⟨F1,sN _ _ DZ,RQ.same sN⟩,t3'.same sN,fun H5 N5 t5 s5=>⟨rfl,?_⟩⟩;have Xe:∀b o,H3 b=some o->(∀ps,o≠.jp ps)->H5 b=some o:=fun b o e nt=>s5 b o (sN _ _ e) (am e nx) ((t3'.same sN).not (sN _ _ e) nt);have LX:∀ {b:Addr},H3 b=none->H b=none:=fun h=>Mf.free nE.full h;have aaF:∀ {b:Addr},(upd (upd H3 dx (.own px)) px (.ins C dx [])) b=none->H b=none:=fun h=>LX (sN.free h);have nl:∀ {xs:bg} (ps),HO.lst xs≠.jp ps:=fun ps z=>by cases z
  have nt:∀ {xs:bg} (ps),HO.tup xs≠.jp ps:=fun ps z=>by cases z
  obtain⟨bs,b1,b2,b3⟩:=R3;have R5:bK H5 (fun a=>H1 a=none) oa n (bX n (zp zs)):=⟨bs,Xe _ _ b1 nl,b2,b3.mono fun j hj e=>Xe _ _ e nl⟩
  have xf:bn H5 p:=by obtain⟨x,y,e,r⟩:=nE;exact⟨x,y,Xe _ _ e nl,r⟩
  have kp:FG Pt p H H5:=fun b o e n m=>s5 b o (sN _ _ (Mf _ _ e m)) (am (Mf _ _ e m) nx) n;refine⟨_,rfl,_,rfl,_,oa,n,zp zs,rfl,F1,R5,fun fa H6 s6 Zc R6=>⟨_,rfl,_,rfl,by show 5<=sizeLine;decide,fun t ht=>?_⟩⟩;have sT:=aj (o:=.tup [.ref px,.ref oa,.ref fa,.ref ha,.ref sa]) ht;have SI:=s6.trans sT;have Qy:∀ {b:Addr},H5 b=none->H b=none:=fun {b} h=>by
   cases e:H b with
   |none=>rfl
   |some o=>
    by_cases m:b=p
    .subst m;exact absurd h xf.full
    .by_cases z:b=Pt
     .subst z;rcases t5 with y|⟨c,y,_⟩ <;> (rw[h] at y;cases y)
     .rw[s5 b o (sN _ _ (Mf _ _ e m)) (am (Mf _ _ e m) nx) z] at h;cases h
  refine q t px oa fa ha sa n (zp zs) homes st _ (fun b o e n m=>SI _ _ (kp b o e n m)) (xf.same SI) (t5.same SI) ⟨ae,(N5.same SI).weak fun b hb=>aaF hb,LX nx,(R5.weak fun b hb=>fr1 hb).keep (fr1 Za) (fun b o _ e=>SI _ _ e),fr1 Za,(R6.weak fun b hb=>Qy hb).keep (Qy Zc) (fun b o _ e=>sT _ _ e),Qy Zc,SI _ _ (Xe _ _ hha nt),SI _ _ (Xe _ _ hsa nt),sl,SD⟩
theorem kI.let(S:kI n ts homes st)(le:st.length<=16):lA n homes st:=⟨le,S.len,S.hs,fun y hy=>by obtain⟨i,hi⟩:=xw.mp hy;exact(S.ss i y hi).1⟩
def Oc(o:HO):Prop:=∀ps,o≠.jp ps
theorem dE.Xf(N:dE C H L p n ts):dE C H (fun b=>L b/\∃o,H b=some o/\Oc o) p n ts:=by
 obtain⟨dx,tl,ol,ds,a,l1,l2,b,c,d⟩:=N.ob;have ne:∀ {b xs},L b->H b=some (.lst xs)->L b/\∃o,H b=some o/\Oc o:=fun l e=>⟨l,_,e,fun ps z=>by cases z⟩
 have ne':∀ {b xs},L b->H b=some (.tup xs)->L b/\∃o,H b=some o/\Oc o:=fun l e=>⟨l,_,e,fun ps z=>by cases z⟩
 have vT:∀ {l r},L l->bK H L l n r->bK H (fun b=>L b/\∃o,H b=some o/\Oc o) l n r/\(L l/\∃o,H l=some o/\Oc o):=fun hl ⟨bs,a,b,c⟩=>⟨⟨bs,a,fun x hx=>by
  obtain⟨j,hj,e⟩:=uk hx;have:=c.2 j (by rw[<-c.1];exact hj);rw[cw,cz hj,qC,e] at this;exact ne (b x hx) this,c⟩,ne hl a⟩
 obtain⟨t1,zs,t2,t3,t4,t5⟩:=d;exact⟨N.lE,dx,tl,ol,ds,a,(vT l1 b).2,(vT l2 c).2,(vT l1 b).1,(vT l2 c).1,ne t1 t2,zs,t2,t3,fun z hz=>ne' (t4 z hz) (t3 z hz),t5⟩
theorem _root_.L2.dU.not(t:dU lp q Pt H)(h:H b=some o)(n:∀ps,o≠.jp ps):b≠Pt:=by
 rintro rfl;rcases t with z|⟨c,z,_⟩ <;> · rw[h] at z;exact n _ (cB z)
theorem _root_.L2.dU.same(t:dU lp q Pt H)(e:aI H H'):dU lp q Pt H':=by
 rcases t with z|⟨c,z,y⟩
 .exact .inl (e _ _ z)
 .exact .inr ⟨c,e _ _ z,e _ _ y⟩
def yW(st:Stmt)(i:Nat):Expr:=match (cP st).getD i (.Pass ⟨0,0,0,0⟩) with
 |.Return (some (.Call _ _ (k::_) _)) _=>k.value
 |_=>.Name "x" ⟨0,0,0,0⟩
def Zd:Expr->Arguments
 |.Lambda a _ _ _=>a
 |_=>{ posonlyargs:=[],args:=[],vararg:=none,kwonlyargs:=[],kw_defaults:=[],kwarg:=none,defaults:=[] }
def Qa:Expr->Expr
 |.Lambda _ b _ _=>b
 |e=>e
def Qb:Expr->Scope
 |.Lambda _ _ s _=>s
 |_=>{ kind:=.function,names:=[],isGenerator:=false,isCoroutine:=false }
def Ze:Expr->Pos
 |.Lambda _ _ _ p=>p
 |_=>⟨0,0,0,0⟩
theorem df.lam(r:df (k+3) A)(env:Env):df k (A.in1.in1.deeper env):=r.in1.in1.deeper env
theorem mW:(oZ st i).Pairwise (·<·):=BP _ List.pairwise_lt_range
noncomputable def jE(ts:Ts)(homes:aQ)(st:bA)(l:Nat):Int:=((far ts ((st.getD l none).getD 0) (homes.getD l 0):Nat):Int)
theorem qd(s1:aI H H1)(t2:dU lp q PN H2)(iA:∀b o,H1 b=some o->b≠PN->H2 b=some o)(s3:aI H2 H3)(DZ:H3 r=none):H r=none:=by
 have h2:H2 r=none:=s3.free DZ;cases z:H r with
 |none=>rfl
 |some o=>
  by_cases e:r=PN
  .subst e;rcases t2 with q|⟨_,q,_⟩ <;> (rw[h2] at q;cases q)
  .rw[iA r o (s1 _ _ z) e] at h2;cases h2
def yX(CR:Addr)(H:Hp)(rx:Addr)(ranks:dG):Prop:=∃rd ra,H rx=some (.ins CR rd [("ranks",.ref ra)])/\H ra=some (.tup (ranks.map V.int))
theorem yX.same{CR:Addr}{H H':Hp}{rx:Addr}{ranks:dG}(h:yX CR H rx ranks)(s:aI H H'):yX CR H' rx ranks:=let ⟨rd,ra,a,b⟩:=h;⟨rd,ra,s _ _ a,s _ _ b⟩
structure Zf(K:a_)(mg:cr)(CR:Addr):Prop where
 cl:Ib K CR
 nR:jf K CR "ranks"
 Nm:mg "Ranked"=some (.ref CR)
theorem Xg:([("ranks",v)]:rO).lookup ("check_letters":Str)=none:=by
 rw[gX];rw[show (("check_letters":Str)==("ranks":Str))=false by decide +kernel];rfl
theorem Qd:([("ranks",v)]:rO).lookup ("ranks":Str)=some v:=by
 rw[gX];rw[show (("ranks":Str)==("ranks":Str))=true by decide +kernel]
abbrev yY:Stmt:=gw (top 21) 0
abbrev Lr:Stmt:=gw (top 21) 1
theorem Od:(["rank"]:bQ).Nodup:=by decide +kernel
abbrev xi:Stmt:=gw (top 18) 0
def UJ:Expr:=yW xi 0
def nrQ:Str:=("Nearest.order":Str)++".<locals>."++"<lambda>"
abbrev yZ(PN:Addr)(H:Hp):Prop:=dU (Ze UJ) nrQ PN H
abbrev xj:Stmt:=gw (top 19) 0
def UK:Expr:=yW xj 0
def ftQ:Str:=("Farthest.order":Str)++".<locals>."++"<lambda>"
abbrev y_(PN:Addr)(H:Hp):Prop:=dU (Ze UK) ftQ PN H
abbrev xk:Stmt:=gw (top 20) 0
def UL:Expr:=yW xk 0
def trQ:Str:=("Turns.order":Str)++".<locals>."++"<lambda>"
abbrev zc(PN:Addr)(H:Hp):Prop:=dU (Ze UL) trQ PN H
abbrev xm:Stmt:=gw (top 21) 2
def UM:Expr:=yW xm 1
def rkQ:Str:=("Ranked.order":Str)++".<locals>."++"<lambda>"
abbrev zd(PN:Addr)(H:Hp):Prop:=dU (Ze UM) rkQ PN H
theorem SJ:aN ["self","net","homes","stand","beat"] ["self","net","homes","stand","beat"] (aw xi):=dW (by decide +kernel)
def D5(C PN:Addr):Sp:=fun vs H Q _=>∃ (L:iQ) (x0 x4:V) (px ha sa:Addr) (n:Nat) (ts:Ts) (homes:aQ) (st:bA),vs=[x0,.ref px,.ref ha,.ref sa,x4]/\dE C H L px n ts/\H ha=some (.tup (NV homes))/\H sa=some (.tup (st.map oV))/\lA n homes st/\yZ PN H/\
 ∀ (r:Addr) (H':Hp) (out:aQ),yZ PN H'->mq PN H H'->H r=none->out.Perm (oZ st st.length)->out.Pairwise (zx (jE ts homes st))->H' r=some (.lst (NV out))->Q (.ref r) H'
theorem Xh(F:sU K "order" "Nearest.order" xi f fd c)(B:Bl mg)(kb:K.In base)(hb:rf mg base)(hc:W.codeHdIn K c PN=true)(T:NT K mg C)(MF:jX P w K mg base bo 5 C "far" ["self","one","other"] (oJ C))(UW:d9 P w K mg base bo 1 "under_way" ["stand"] DX):
  bU P w K mg base bo 9 f fd ["self","net","homes","stand","beat"] (D5 C PN):=by
 obtain⟨fF,fdF,mF,bF,GF⟩:=MF.ex;refine F.ok SJ (fun vs H Q E h=>?_) (fun A outer s H vs Q E hr h=>?_)
 .obtain⟨L,x0,x4,px,ha,sa,n,ts,homes,st,rfl,_⟩:=h;rfl
 .obtain⟨L,x0,x4,px,ha,sa,n,ts,homes,st,rfl,N,hH,hS,LO,tb,q⟩:=h;have h1:df 1 _:=hr.mono (by decide);have LF:AL (l9 bo P w K mg base ["self","net","homes","stand","beat"] "Nearest.order" (aw xi) f (.ref c) A outer s H E).Bj ["letter","net","stand","homes"] [none,some 1,some 3,some 2] (Qb UJ) nrQ (Zd UJ) (Qa UJ) "letter":=
   ⟨bz (by kernel_rfl),fun _ _ _ _ _=>rfl,rfl,rfl,rfl,by decide +kernel,rfl,rfl⟩
  have PB:∀f' c' dJ s' H',PE (r6 (l9 bo P w K mg base ["self","net","homes","stand","beat"] "Nearest.order" (aw xi) f (.ref c) A outer s H E).Bj ["letter","net","stand","homes"] (Qb UJ) dJ nrQ f' c' s' H') (Qa UJ) (Ey C "far" (oJ C) [] E0 (bb 1) (bJ (jS (z4 K) (bb 2) (bb 0)) (bJ (jS (z4 K) (bb 3) (bb 0)) h_))):=fun f' c' dJ s' H'=>
   eZ (pv 1) T.cl mF GF (df.lam hr _) bF .nil aM (aa (aX eN (pv 2) (pv 0) (fun _ _=>rfl)) (aa (aX eN (pv 3) (pv 0) (fun _ _=>rfl)) ag))
  refine⟨_,(av (bh (kr (lq hr LF PB) rfl B.sorted nK (aa (aH UW h1 aM (aa (pv 3) ag)) ag) (pB (vd (NB:=["letter","net","stand","homes"]) (src:=[none,some 1,some 3,some 2]) (pK kb hb hc) (bz (by kernel_rfl))) uW)))),?_⟩;refine⟨_,rfl,sa,st,rfl,hS,LO.le,fun l H1 s1 QN hl=>?_⟩;have t1:=tb.same s1;refine⟨t1,fun f' c' H2 t2 iA zI Ae=>?_⟩;have wg:∀ {b o},H1 b=some o->(∀ps,o≠.jp ps)->H2 b=some o:=fun e n=>iA _ _ e (t1.not e n);have Ie:=wg hl nofun;have UN:=wg (s1 _ _ hH) nofun;have Ir:=wg (s1 _ _ hS) nofun;obtain⟨dx0,fs0,i0⟩:∃dx fs,H1 px=some (.ins C dx fs):=by obtain⟨dx,tl,ol,ds,a,_⟩:=(N.same s1).ob;exact⟨dx,_,a⟩
  have N2:=(N.same s1).Xf.keep (H':=H2) (fun b o l e=>by obtain⟨_,o',e',n⟩:=l;rw[e] at e';cases e';exact wg e n) (fun o e=>wg e (by rw[i0] at e;cases e;intro ps z;cases z));refine⟨l,f',c',oZ st st.length,(jE ts homes st),rfl,rfl,a8.of Ie,eK jC (by have:=LO.le;lia),mW,fun n hn=>by have:=(jD hn).1;have:=LO.le;lia,Ae,zI,fun m hm H3 s3=>?_,fun r H3 out s3 DZ op pw=>?_⟩
  .obtain⟨La,y,ey,hy,HP⟩:=LO.at hm;have N3:=N2.same s3;obtain⟨dx,tl,ol,ds,i1,_⟩:=N3.ob;refine⟨_,rfl,px,dx,_,rfl,i1,Rz _ _ _ _,_,rfl,_,rfl,sa,_,_,_,rfl,rfl,cu.of (s3 _ _ Ir),aD (kJ La),_,rfl,_,rfl,ha,_,_,_,rfl,rfl,cu.of (s3 _ _ UN),aD (iT (by rw[LO.len];exact La)),?_⟩;rw[ey];refine⟨_,px,n,ts,y,homes.getD m 0,rfl,N3,hy,HP,?_,aI.refl _⟩;unfold jE;rw[ey];rfl
  .have sm:=aj (o:=.lst (NV out)) DZ;exact q r _ out ((dU.same t2 s3).same sm) (fun b o e n=>sm _ _ (s3 _ _ (iA _ _ (s1 _ _ e) n))) (qd s1 t2 iA s3 DZ) op pw ae
theorem SL:aN ["self","net","homes","stand","beat"] ["self","net","homes","stand","beat"] (aw xj):=dW (by decide +kernel)
def D6(C PN:Addr):Sp:=fun vs H Q _=>∃ (L:iQ) (x0 x4:V) (px ha sa:Addr) (n:Nat) (ts:Ts) (homes:aQ) (st:bA),vs=[x0,.ref px,.ref ha,.ref sa,x4]/\dE C H L px n ts/\H ha=some (.tup (NV homes))/\H sa=some (.tup (st.map oV))/\lA n homes st/\y_ PN H/\
 ∀ (r:Addr) (H':Hp) (out:aQ),y_ PN H'->mq PN H H'->H r=none->out.Perm (oZ st st.length)->out.Pairwise (zx (fun l=>-jE ts homes st l))->H' r=some (.lst (NV out))->Q (.ref r) H'
theorem Xi(F:sU K "order" "Farthest.order" xj f fd c)(B:Bl mg)(kb:K.In base)(hb:rf mg base)(hc:W.codeHdIn K c PN=true)(T:NT K mg C)(MF:jX P w K mg base bo 5 C "far" ["self","one","other"] (oJ C))(UW:d9 P w K mg base bo 1 "under_way" ["stand"] DX):
  bU P w K mg base bo 9 f fd ["self","net","homes","stand","beat"] (D6 C PN):=by
 obtain⟨fF,fdF,mF,bF,GF⟩:=MF.ex;refine F.ok SL (fun vs H Q E h=>?_) (fun A outer s H vs Q E hr h=>?_)
 .obtain⟨L,x0,x4,px,ha,sa,n,ts,homes,st,rfl,_⟩:=h;rfl
 .obtain⟨L,x0,x4,px,ha,sa,n,ts,homes,st,rfl,N,hH,hS,LO,tb,q⟩:=h;have h1:df 1 _:=hr.mono (by decide);have LF:AL (l9 bo P w K mg base ["self","net","homes","stand","beat"] "Farthest.order" (aw xj) f (.ref c) A outer s H E).Bj ["letter","net","stand","homes"] [none,some 1,some 3,some 2] (Qb UK) ftQ (Zd UK) (Qa UK) "letter":=
   ⟨bz (by kernel_rfl),fun _ _ _ _ _=>rfl,rfl,rfl,rfl,by decide +kernel,rfl,rfl⟩
  have PB:∀f' c' dJ s' H',PE (r6 (l9 bo P w K mg base ["self","net","homes","stand","beat"] "Farthest.order" (aw xj) f (.ref c) A outer s H E).Bj ["letter","net","stand","homes"] (Qb UK) dJ ftQ f' c' s' H') (Qa UK) (tUn (rU fun i=>.int (-i)) (Ey C "far" (oJ C) [] E0 (bb 1) (bJ (jS (z4 K) (bb 2) (bb 0)) (bJ (jS (z4 K) (bb 3) (bb 0)) h_)))):=fun f' c' dJ s' H'=>
   zS uU (eZ (pv 1) T.cl mF GF (df.lam hr _) bF .nil aM (aa (aX eN (pv 2) (pv 0) (fun _ _=>rfl)) (aa (aX eN (pv 3) (pv 0) (fun _ _=>rfl)) ag)))
  refine⟨_,(av (bh (kr (lq hr LF PB) rfl B.sorted nK (aa (aH UW h1 aM (aa (pv 3) ag)) ag) (pB (vd (NB:=["letter","net","stand","homes"]) (src:=[none,some 1,some 3,some 2]) (pK kb hb hc) (bz (by kernel_rfl))) uW)))),?_⟩;refine⟨_,rfl,sa,st,rfl,hS,LO.le,fun l H1 s1 QN hl=>?_⟩;have t1:=tb.same s1;refine⟨t1,fun f' c' H2 t2 iA zI Ae=>?_⟩;have wg:∀ {b o},H1 b=some o->(∀ps,o≠.jp ps)->H2 b=some o:=fun e n=>iA _ _ e (t1.not e n);have Ie:=wg hl nofun;have UN:=wg (s1 _ _ hH) nofun;have Ir:=wg (s1 _ _ hS) nofun;obtain⟨dx0,fs0,i0⟩:∃dx fs,H1 px=some (.ins C dx fs):=by obtain⟨dx,tl,ol,ds,a,_⟩:=(N.same s1).ob;exact⟨dx,_,a⟩
  have N2:=(N.same s1).Xf.keep (H':=H2) (fun b o l e=>by obtain⟨_,o',e',n⟩:=l;rw[e] at e';cases e';exact wg e n) (fun o e=>wg e (by rw[i0] at e;cases e;intro ps z;cases z));refine⟨l,f',c',oZ st st.length,(fun l=>-jE ts homes st l),rfl,rfl,a8.of Ie,eK jC (by have:=LO.le;lia),mW,fun n hn=>by have:=(jD hn).1;have:=LO.le;lia,Ae,zI,fun m hm H3 s3=>?_,fun r H3 out s3 DZ op pw=>?_⟩
  .obtain⟨La,y,ey,hy,HP⟩:=LO.at hm;have N3:=N2.same s3;obtain⟨dx,tl,ol,ds,i1,_⟩:=N3.ob;refine⟨_,rfl,px,dx,_,rfl,i1,Rz _ _ _ _,_,rfl,_,rfl,sa,_,_,_,rfl,rfl,cu.of (s3 _ _ Ir),aD (kJ La),_,rfl,_,rfl,ha,_,_,_,rfl,rfl,cu.of (s3 _ _ UN),aD (iT (by rw[LO.len];exact La)),?_⟩;rw[ey];refine⟨_,px,n,ts,y,homes.getD m 0,rfl,N3,hy,HP,_,rfl,?_,aI.refl _⟩;unfold jE;dsimp only;rw[ey];rfl
  .have sm:=aj (o:=.lst (NV out)) DZ;exact q r _ out ((dU.same t2 s3).same sm) (fun b o e n=>sm _ _ (s3 _ _ (iA _ _ (s1 _ _ e) n))) (qd s1 t2 iA s3 DZ) op pw ae
theorem SN:aN ["self","net","homes","stand","beat"] ["self","net","homes","stand","beat"] (aw xk):=dW (by decide +kernel)
def D7(PN:Addr):Sp:=fun vs H Q _=>∃ (x0 x1:V) (bt:Int) (ha sa:Addr) (n:Nat) (homes:aQ) (st:bA),vs=[x0,x1,.ref ha,.ref sa,.int bt]/\0<=bt/\H ha=some (.tup (NV homes))/\H sa=some (.tup (st.map oV))/\lA n homes st/\zc PN H/\
 ∀ (r:Addr) (H':Hp) (out:aQ),zc PN H'->mq PN H H'->H r=none->out.Perm (oZ st st.length)->out.Pairwise (zx (fun l=>((l:Nat)+bt) % ((homes.length:Nat):Int)))->H' r=some (.lst (NV out))->Q (.ref r) H'
theorem Xj(F:sU K "order" "Turns.order" xk f fd c)(B:Bl mg)(kb:K.In base)(hb:rf mg base)(hc:W.codeHdIn K c PN=true)(UW:d9 P w K mg base bo 1 "under_way" ["stand"] DX):
  bU P w K mg base bo 9 f fd ["self","net","homes","stand","beat"] (D7 PN):=by
 refine F.ok SN (fun vs H Q E h=>?_) (fun A outer s H vs Q E hr h=>?_)
 .obtain⟨x0,x1,bt,ha,sa,n,homes,st,rfl,_⟩:=h;rfl
 .obtain⟨x0,x1,bt,ha,sa,n,homes,st,rfl,b0,hH,hS,LO,tb,q⟩:=h;have h1:df 1 _:=hr.mono (by decide);have LF:AL (l9 bo P w K mg base ["self","net","homes","stand","beat"] "Turns.order" (aw xk) f (.ref c) A outer s H E).Bj ["letter","beat","homes"] [none,some 4,some 2] (Qb UL) trQ (Zd UL) (Qa UL) "letter":=
   ⟨bz (by kernel_rfl),fun _ _ _ _ _=>rfl,rfl,rfl,rfl,by decide +kernel,rfl,rfl⟩
  have PB:∀f' c' dJ s' H',PE (r6 (l9 bo P w K mg base ["self","net","homes","stand","beat"] "Turns.order" (aw xk) f (.ref c) A outer s H E).Bj ["letter","beat","homes"] (Qb UL) dJ trQ f' c' s' H') (Qa UL) (jS (rI (fun _ j=>0<j) fun i j=>.int (i % j)) (jS (zR fun i j=>.int (i+j)) (bb 0) (bb 1)) (Vp (fun xs H Q=>∃p ys,xs=[V.ref p]/\(a8 K H p ys\/cu K H p ys)/\Q (.int ys.length) H) (bJ (bb 2) h_))):=fun f' c' dJ s' H'=>
   a9 je (a9 dM (pv 0) (pv 1)) (aJ aV (by rfl) B.len fc (aa (pv 2) ag))
  refine⟨_,(av (bh (kr (lq hr LF PB) rfl B.sorted nK (aa (aH UW h1 aM (aa (pv 3) ag)) ag) (pB (vd (NB:=["letter","beat","homes"]) (src:=[none,some 4,some 2]) (pK kb hb hc) (bz (by kernel_rfl))) uW)))),?_⟩;refine⟨_,rfl,sa,st,rfl,hS,LO.le,fun l H1 s1 QN hl=>?_⟩;have t1:=tb.same s1;refine⟨t1,fun f' c' H2 t2 iA zI Ae=>?_⟩;have wg:∀ {b o},H1 b=some o->(∀ps,o≠.jp ps)->H2 b=some o:=fun e n=>iA _ _ e (t1.not e n);have Ie:=wg hl nofun;have UN:=wg (s1 _ _ hH) nofun;have Ir:=wg (s1 _ _ hS) nofun;refine⟨l,f',c',oZ st st.length,(fun l=>((l:Nat)+bt) % ((homes.length:Nat):Int)),rfl,rfl,a8.of Ie,eK jC (by have:=LO.le;lia),mW,fun n hn=>by have:=(jD hn).1;have:=LO.le;lia,Ae,zI,fun m hm H3 s3=>?_,fun r H3 out s3 DZ op pw=>?_⟩
  .obtain⟨La,y,ey,hy,HP⟩:=LO.at hm;refine⟨_,rfl,_,rfl,_,_,rfl,rfl,_,rfl,ha,_,rfl,.inr (cu.of (s3 _ _ UN)),_,_,rfl,rfl,?_,?_,aI.refl _⟩
   .rw[be,LO.len];lia
   .rw[be]
  .have sm:=aj (o:=.lst (NV out)) DZ;exact q r _ out ((dU.same t2 s3).same sm) (fun b o e n=>sm _ _ (s3 _ _ (iA _ _ (s1 _ _ e) n))) (qd s1 t2 iA s3 DZ) op pw ae
theorem SO:aN ["self","homes"] ["self","homes"] (aw Lr):=dW (by decide +kernel)
def D8(CR:Addr):Sp:=fun vs H Q _=>∃ (rx ha:Addr) (ranks:dG) (homes:aQ),vs=[.ref rx,.ref ha]/\yX CR H rx ranks/\H ha=some (.tup (NV homes))/\ranks.length=homes.length/\Q .cI H
theorem Oe{f CR:Addr}{fd:eA}(F:iI K "check_letters" "Ranked.check_letters" Lr f fd)(B:Bl mg)(RT:Zf K mg CR):bU P w K mg base bo 1 f fd ["self","homes"] (D8 CR):=by
 refine F.ok SO (fun vs H Q E h=>?_) (fun fX A outer s H vs Q E hr h=>?_)
 .obtain⟨rx,ha,ranks,homes,rfl,_⟩:=h;rfl
 .obtain⟨rx,ha,ranks,homes,rfl,⟨rd,ra,g1,g2⟩,hH,rl,q⟩:=h;refine⟨_,(av (dS (aY zU (aJ aV (by rfl) B.len fc (aa (k9 (pv 0) rfl) ag)) (aJ aV (by rfl) B.len fc (aa (pv 1) ag)) (bp _)) ff b8)),?_⟩;exact⟨_,rfl,rx,CR,rd,_,_,rfl,g1,RT.cl,RT.nR,Qd,ra,_,rfl,.inr (cu.of g2),_,rfl,ha,_,rfl,.inr (cu.of hH),rfl,_,rfl,sg (by rw[aT,be,rl];simp) q⟩
theorem Of:aN ["self","ranks"] ["self","ranks"] (aw yY):=dW (by decide +kernel)
def ze(CR:Addr):Sp:=fun vs H Q _=>∃ (p dx ra:Addr) (ranks:dG),vs=[.ref p,.ref ra]/\H p=some (.ins CR dx [])/\H ra=some (.tup (ranks.map V.int))/\ranks.length<=16/\∀H',yX CR H' p ranks->aO p H H'->Q .cI H'
theorem Ls{f CR:Addr}{fd:eA}(F:iI K "__init__" "Ranked.__init__" yY f fd)(B:Bl mg)(RT:Zf K mg CR)(WH:d9 P w K mg base bo 1 "is_whole" ["thing"] (pV K)):bU P w K mg base bo 2 f fd ["self","ranks"] (ze CR):=by
 refine F.ok Of (fun vs H Q E h=>?_) (fun fX A outer s H vs Q E hr h=>?_)
 .obtain⟨p,dx,ra,ranks,rfl,_⟩:=h;rfl
 .obtain⟨p,dx,ra,ranks,rfl,hp,Mg,rl,q⟩:=h;refine'⟨_,(ak (dS (PW.pt (Er (oq (jR (aJ jg (by rfl) B.PL rM (aa (pv 1) (aa (k4 (v:=.ty "tuple") rfl B.tup o4 rfl) ag))))) (Cp (oq (jR (aJ (GR rfl) (by rfl) B.all PyProof.Rows.boot_all (aa ?c1 ag))))))) ff b8)
   (av (uV (pv 0) (pv 1) rfl))),?_⟩
  case c1=>
   refine' cQ (g:=(bH 0)) (te:=rR (pV K) [] E0 (bJ (bb 0) h_)) (NB:=["rank"]) (src:=[none]) (bz (by kernel_rfl)) rfl (Cu (pv 1)) ?g ?t ?e;case g=>exact fun cl C s₃ H₃ fp=>(aA (i:=0) Od rfl aL cW)
   case t=>exact fun cl C s₃ H₃ fp=>dC
   case e=>exact fun cl C s₃ H₃ fp=>aH WH hr aM (aa (pv 0) ag)
  refine⟨_,rfl,_,_,_,.type "tuple",true,rfl,⟨rfl,yC⟩,.of (.tup Mg),_,rfl,jT ?_⟩;refine⟨_,rfl,ra,rfl,⟨_,cu.of Mg⟩,fun D hD=>?_⟩;refine vG (K:=K) (a:=ra) (xs:=ranks.map V.int) (fun i ys σ H2=>(∃x,σ=[x])/\aI H H2/\H2 D=some (.lst ys)/\ys=(List.replicate i true).map V.bl) ⟨⟨_,rfl⟩,aj hD,ae,rfl⟩ (fun i ys σ H2 _ z=>cu.of (z.2.1 _ _ Mg)) ?_ ?_
  .rintro i x ys σ H2 Kt Kf hx ⟨⟨x',rfl⟩,sm,jz,rfl⟩ kt kf;have hi:i<ranks.length:=by have:=(eR.mp hx).1;rwa [aT] at this
   rw[cA,cz hi] at hx;cases hx;refine⟨_,rfl,_,_,rfl,.int _,?_⟩;exact kt _ _ _ jz (by rw[aT,i_];exact bv (show i<17 by lia) (by decide)) ⟨⟨_,rfl⟩,bj sm hD,ae,by rw[uh,dt];rfl⟩
  .rintro ys σ H2 ⟨_,sm,jz,rfl⟩;refine⟨D,_,rfl,a8.of jz,_,rfl,?_⟩;have e:(List.replicate (ranks.map V.int).length true).all id=true:=by
    rw[kO];intro x qU;rw[(BZ.mp qU).2];rfl
   rw[e];refine jT ⟨_,rfl,_,rfl,p,CR,dx,[],rfl,sm _ _ hp,RT.cl,RT.nR,(by show 0<1000;decide),?_⟩;have npr:ra≠p:=by rintro rfl;rw[hp] at Mg;cases Mg
   exact q _ ⟨dx,ra,by rw[ae];rfl,by rw[aq npr];exact sm _ _ Mg⟩ (fun b o e n=>by rw[aq n];exact sm _ _ e)
theorem SS:aN ["self","net","homes","stand","beat"] ["self","net","homes","stand","beat"] (aw xm):=dW (by decide +kernel)
def D9(CR PN:Addr):Sp:=fun vs H Q _=>∃ (x1 x4:V) (rx ha sa:Addr) (n:Nat) (ranks:dG) (homes:aQ) (st:bA),vs=[.ref rx,x1,.ref ha,.ref sa,x4]/\yX CR H rx ranks/\ranks.length=homes.length/\H ha=some (.tup (NV homes))/\H sa=some (.tup (st.map oV))/\lA n homes st/\zd PN H/\
 ∀ (r:Addr) (H':Hp) (out:aQ),zd PN H'->mq PN H H'->H r=none->out.Perm (oZ st st.length)->out.Pairwise (zx (fun l=>ranks.getD l 0))->H' r=some (.lst (NV out))->Q (.ref r) H'
theorem Xk{f c CR PN:Addr}{fd:eA}(F:sU K "order" "Ranked.order" xm f fd c)(B:Bl mg)(kb:K.In base)(hb:rf mg base)(hc:W.codeHdIn K c PN=true)(RT:Zf K mg CR)(MC:jX P w K mg base bo 1 CR "check_letters" ["self","homes"] (D8 CR))(UW:d9 P w K mg base bo 1 "under_way" ["stand"] DX):
  bU P w K mg base bo 9 f fd ["self","net","homes","stand","beat"] (D9 CR PN):=by
 obtain⟨fC,fdC,mC,bC,GC⟩:=MC.ex;refine F.ok SS (fun vs H Q E h=>?_) (fun A outer s H vs Q E hr h=>?_)
 .obtain⟨x1,x4,rx,ha,sa,n,ranks,homes,st,rfl,_⟩:=h;rfl
 .obtain⟨x1,x4,rx,ha,sa,n,ranks,homes,st,rfl,RK,rl,hH,hS,LO,tb,q⟩:=h;have h1:df 1 _:=hr.mono (by decide);have LF:AL (l9 bo P w K mg base ["self","net","homes","stand","beat"] "Ranked.order" (aw xm) f (.ref c) A outer s H E).Bj ["letter","self"] [none,some 0] (Qb UM) rkQ (Zd UM) (Qa UM) "letter":=
   ⟨bz (by kernel_rfl),fun _ _ _ _ _=>rfl,rfl,rfl,rfl,by decide +kernel,rfl,rfl⟩
  have PB:∀f' c' dJ s' H',PE (r6 (l9 bo P w K mg base ["self","net","homes","stand","beat"] "Ranked.order" (aw xm) f (.ref c) A outer s H E).Bj ["letter","self"] (Qb UM) dJ rkQ f' c' s' H') (Qa UM) (jS (z4 K) (Mw K (bb 1) "ranks") (bb 0)):=fun f' c' dJ s' H'=>
   aX eN (k9 (pv 1) rfl) (pv 0) (fun _ _=>rfl)
  refine⟨_,(ak (cG (eZ (pv 0) RT.cl mC GC h1 bC .nil aM (aa (pv 2) ag))) (av (bh (kr (lq hr LF PB) rfl B.sorted nK (aa (aH UW h1 aM (aa (pv 3) ag)) ag) (pB (vd (NB:=["letter","self"]) (src:=[none,some 0]) (pK kb hb hc) (bz (by kernel_rfl))) uW))))),?_⟩;obtain⟨rd0,ra0,g10,g20⟩:=id RK;refine⟨_,rfl,rx,rd0,_,rfl,g10,Xg,_,rfl,rx,ha,ranks,homes,rfl,RK,hH,rl,?_⟩;refine⟨_,rfl,sa,st,rfl,hS,LO.le,fun l H1 s1 QN hl=>?_⟩;have t1:=tb.same s1;refine⟨t1,fun f' c' H2 t2 iA zI Ae=>?_⟩;have wg:∀ {b o},H1 b=some o->(∀ps,o≠.jp ps)->H2 b=some o:=fun e n=>iA _ _ e (t1.not e n);have Ie:=wg hl nofun;have UN:=wg (s1 _ _ hH) nofun;have Ir:=wg (s1 _ _ hS) nofun;obtain⟨rd,ra,g1,g2⟩:=RK.same s1;have g1:=wg g1 nofun;have g2:=wg g2 nofun;refine⟨l,f',c',oZ st st.length,(fun l=>ranks.getD l 0),rfl,rfl,a8.of Ie,eK jC (by have:=LO.le;lia),mW,fun n hn=>by have:=(jD hn).1;have:=LO.le;lia,Ae,zI,fun m hm H3 s3=>?_,fun r H3 out s3 DZ op pw=>?_⟩
  .obtain⟨La,y,ey,hy,HP⟩:=LO.at hm;refine⟨_,rfl,rx,CR,rd,_,_,rfl,s3 _ _ g1,RT.cl,RT.nR,Qd,_,rfl,ra,_,_,_,rfl,rfl,cu.of (s3 _ _ g2),aD (by rw[cA,cz (show m<ranks.length by rw[rl,LO.len];exact La)];rfl),?_,aI.refl _⟩;dsimp only;rw[cw,cz (show m<ranks.length by rw[rl,LO.len];exact La)];rfl
  .have sm:=aj (o:=.lst (NV out)) DZ;exact q r _ out ((dU.same t2 s3).same sm) (fun b o e n=>sm _ _ (s3 _ _ (iA _ _ (s1 _ _ e) n))) (qd s1 t2 iA s3 DZ) op pw ae
theorem Lu[DecidableEq α]:∀ {a b:List α},a.Nodup->(∀x∈a,x∈b)->a.length<=b.length
 |[],b,_,_=>cp _
 |x::xs,b,hn,hs=>by
  obtain⟨h1,h2⟩:=gI.mp hn;have hx:x∈b:=hs x cK;have:=Lu (b:=b.erase x) h2 fun y hy=>(BN (fun (e:y=x)=>h1 (e ▸ hy))).mpr (hs y (dq _ hy));rw[BC hx] at this;have:0<b.length:=ue hx;rw[fj];lia
theorem FH(he:∀j,j≠i->Pzz' j=Pzz j)(hi:Pzz i=false):∀ {m:Nat},i<m->(List.range m).countP Pzz'=(List.range m).countP Pzz+(if Pzz' i=true then 1 else 0)
 |0,h=>absurd h (n9 _)
 |m+1,h=>by
  rw[lw,List.countP_append,List.countP_append,List.countP_singleton,List.countP_singleton];by_cases c:i<m
  .rw[FH he hi c,he m (by lia)];lia
  .obtain rfl:i=m:=by lia
   rw[show (List.range i).countP Pzz'=(List.range i).countP Pzz from List.countP_congr fun j hj=>by rw[he j (by have:=bY.mp hj;lia)],hi];simp
theorem Ba(h:∀j,Pzz j=true->Pzz' j=true):(List.range m).countP Pzz<=(List.range m).countP Pzz':=List.countP_mono_left fun j _=>h j
theorem SU(h:∀j,Pzz j=true->Pzz' j=true)(hi:Pzz i=false)(vO:Pzz' i=true)(hm:i<m):(List.range m).countP Pzz<(List.range m).countP Pzz':=by
 have a:=FH (Pzz:=Pzz) (Pzz':=fun j=>if j=i then true else Pzz j) (i:=i) (fun j hj=>ao hj) hi hm;have b:=Ba (Pzz:=fun j=>if j=i then true else Pzz j) (Pzz':=Pzz') (m:=m) fun j hj=>by
  by_cases c:j=i
  .rw[c];exact vO
  .rw[ao c] at hj;exact h j hj
 rw[ap rfl,ap rfl] at a;lia
theorem SV{st:bA}:st=(List.range st.length).map fun j=>st.getD j none:=by
 apply lL;intro i;by_cases h:i<st.length
 .rw[cA,f_ h];simp[cw,h]
 .rw[f9 (by lia),f9 (by rw[aT,dk];lia)]
theorem zf{st:bA}{o:Option Nat}:st.count o=(List.range st.length).countP fun j=>decide (st.getD j none=o):=by
 have e:st.count o=((List.range st.length).map fun j=>st.getD j none).count o:=congrArg _ SV;rw[e,List.count_eq_countP,List.countP_map];exact List.countP_congr fun j _=>by simp
theorem zg:(List.replicate m (none:Option Nat)).getD j none=none:=by
 rw[cw,ud];split <;> rfl
theorem jY{fs:bA}{i j:Nat}{o:Option Nat}(hi:i<fs.length):(fs.set i o).getD j none=if j=i then o else fs.getD j none:=by
 rw[cw,uv];by_cases c:i=j
 .subst c;rw[ap rfl,ap hi,ap rfl];rfl
 .rw[ao c,ao (fun z=>c z.symm),cw]
structure Hd(n:Nat)(ts:Ts)(st fs:bA):Prop where
 len:fs.length=st.length
 cI:∀j,st.getD j none=none->fs.getD j none=none
 out:∀j h,st.getD j none=some h->∃y,fs.getD j none=some y/\y∈bX n ts h
 inj:∀j k y,j≠k->fs.getD j none=some y->fs.getD k none=some y->st.getD j none≠st.getD k none
def Bv(homes:aQ)(fs:bA):List (Option Nat):=(List.range fs.length).map fun j=>if fs.getD j none=some (homes.getD j 0) then none else fs.getD j none
theorem mX:(Bv homes fs).length=fs.length:=by unfold Bv;rw[aT,dk]
theorem FI(h:(Bv homes fs).getD j none=some y):fs.getD j none=some y:=by
 unfold Bv at h;by_cases hj:j<fs.length
 .rw[cw,cA,f_ hj,n0,qC] at h;split at h
  .cases h
  .exact h
 .rw[cw,f9 (by rw[aT,dk];lia)] at h;cases h
theorem Lv{g:bA}{a x:Nat}(h:g.getD a none=some x):a<g.length:=by
 rcases Nat.lt_or_ge a g.length with c|c
 .exact c
 .rw[cw,f9 c] at h;cases h
section
variable {n:Nat} {ts:Ts} {homes:aQ} {st g g1:bA} {gd ou:Nat->List Nat} {l x y:Nat} {os p:aQ}
theorem t_(h:ng st g l os=some x):x∈os/\∀a,a<st.length->st.getD a none=st.getD l none->g.getD a none≠some x:=by
 unfold ng at h;refine⟨IE h,fun a ha e z=>?_⟩;have:=Cc h;rw[Bool.not_eq_true',ux] at this;exact this a (bY.mpr ha) (by rw[iO e,iO z];rfl)
theorem FJ(h:ng st g l os=none)(hx:x∈os):∃a,a<st.length/\st.getD a none=st.getD l none/\g.getD a none=some x:=by
 unfold ng at h;have:=B1.mp h x hx;rw[Bool.not_eq_true',Bool.not_eq_false,xF] at this;obtain⟨a,ha,b⟩:=this;rw[gm] at b;exact⟨a,bY.mp ha,fu b.1,fu b.2⟩
def Xl(st g:bA):Prop:=∀j k y,j≠k->g.getD j none=some y->g.getD k none=some y->st.getD j none≠st.getD k none
theorem Xl.put(I:Xl st g)(gl:g.length=st.length)(hl:l<st.length):Xl st (g.set l (ng st g l os)):=by
 intro j k y n hj hk e;rw[jY (by rw[gl];exact hl)] at hj hk;by_cases cj:j=l
 .rw[ap cj] at hj;rw[ao (fun z=>n (cj.trans z.symm))] at hk;exact(t_ hj).2 k (by rw[<-gl];exact Lv hk) (by rw[<-cj];exact e.symm) hk
 .rw[ao cj] at hj;by_cases ck:k=l
  .rw[ap ck] at hk;exact(t_ hk).2 j (by rw[<-gl];exact Lv hj) (by rw[<-ck];exact e) hj
  .rw[ao ck] at hk;exact I j k y n hj hk e
structure E1(st g:bA)(gd:Nat->List Nat)(p:aQ):Prop where
 len:g.length=st.length
 inj:Xl st g
 cI:∀l,l∉p->g.getD l none=none
 ok:∀l,l∈p->(∃x,g.getD l none=some x/\x∈gd l)\/(g.getD l none=none/\∀o∈gd l,∃a,st.getD a none=st.getD l none/\g.getD a none=some o)
theorem E1.step(I:E1 st g gd p)(hl:l<st.length)(np:l∉p):E1 st (g.set l (ng st g l (gd l))) gd (p++[l]):=by
 have gs:∀ {j:Nat},(g.set l (ng st g l (gd l))).getD j none=if j=l then ng st g l (gd l) else g.getD j none:=jY (by rw[I.len];exact hl)
 have nl:=I.cI l np;have kp:∀ {a o:Nat},g.getD a none=some o->(g.set l (ng st g l (gd l))).getD a none=some o:=fun {a o} e=>by rw[gs,ao (by rintro rfl;rw[nl] at e;cases e)];exact e
 refine⟨by rw[jb,I.len],I.inj.put I.len hl,fun j hj=>?_,fun j hj=>?_⟩
 .rw[gs,ao (by rintro rfl;exact hj (e_ _ cK))];exact I.cI j fun z=>hj (gC _ z)
 .by_cases c:j=l
  .subst c;rw[gs,ap rfl];cases e:ng st g j (gd j) with
   |some x=>exact .inl ⟨x,rfl,(t_ e).1⟩
   |none=>exact .inr ⟨rfl,fun o ho=>let ⟨a,_,e1,e2⟩:=FJ e ho;⟨a,e1,by have:=kp e2;rwa [e] at this⟩⟩
  .rw[gs,ao c];have hj:j∈p:=by
    rcases cL.mp hj with z|z
    .exact z
    .exact absurd (dA.mp z) c
   rcases I.ok j hj with z|⟨z,f⟩
   .exact .inl z
   .exact .inr ⟨z,fun o ho=>let ⟨a,e1,e2⟩:=f o ho;⟨a,e1,kp e2⟩⟩
theorem E1.fold:∀ {ls p:aQ} {g:bA},E1 st g gd p->(∀l∈ls,l<st.length)->(p++ls).Nodup->E1 st (ls.foldl (fun g l=>g.set l (ng st g l (gd l))) g) gd (p++ls)
 |[],p,g,I,_,_=>by rw[jI];exact I
 |l::ls,p,g,I,h,nd=>by
  rw[iN,show p++l::ls=(p++[l])++ls by simp];rw[show p++l::ls=(p++[l])++ls by simp] at nd;refine E1.fold (I.step (h l cK) fun z=>?_) (fun j hj=>h j (dq _ hj)) nd;exact(j7.mp (j7.mp nd).1).2.2 l z l cK rfl
theorem fold_at{f:List (Option Nat)->Nat->Option Nat}{a:Nat}:∀ {ls:aQ} {g:bA},(∀l∈ls,l<g.length)->a∉ls->(ls.foldl (fun g l=>g.set l (f g l)) g).getD a none=g.getD a none
 |[],g,_,_=>rfl
 |l::ls,g,h,n=>by
  rw[iN,fold_at (fun j hj=>by rw[jb];exact h j (dq _ hj)) fun z=>n (dq _ z),jY (h l cK),ao (by rintro rfl;exact n cK)]
noncomputable def FK(n:Nat)(ts:Ts)(st g:bA)(l:Nat):List (Option Nat):=if g.getD l none=none then g.set l (ng st g l (bX n ts ((st.getD l none).getD 0))) else g
noncomputable def sr(n:Nat)(ts:Ts)(homes:aQ)(st g:bA)(l:Nat):List (Option Nat):=g.set l (ng st g l (iU n ts ((st.getD l none).getD 0) (homes.getD l 0)))
noncomputable def Lw(n:Nat)(ts:Ts)(homes:aQ)(st:bA)(m_:aQ):List (Option Nat):=m_.foldl (FK n ts st) (m_.foldl (sr n ts homes st) (List.replicate st.length none))
theorem FL(S:kI n ts homes st)(hl:l<st.length)(ey:st.getD l none=some y)(hy:y<n)(en:g.getD l none=none):∃x,ng st g l (bX n ts y)=some x:=by
 cases e:ng st g l (bX n ts y) with
 |some x=>exact⟨x,rfl⟩
 |none=>
  exfalso;have a:=Lu (b:=((List.range st.length).filter fun j=>decide (st.getD j none=some y)&&(g.getD j none).isSome).map fun j=>(g.getD j none).getD 0) (Dl hy) fun x hx=>by
   obtain⟨a,ha,e1,e2⟩:=FJ e hx;exact bB.mpr ⟨a,gb.mpr ⟨bY.mpr ha,by rw[e1,ey,e2];simp⟩,by rw[e2];rfl⟩
  rw[aT,<-List.countP_eq_length_filter] at a;have b:=SU (Pzz:=fun j=>decide (st.getD j none=some y)&&(g.getD j none).isSome) (Pzz':=fun j=>decide (st.getD j none=some y)) (i:=l) (fun j h=>(gm _ _ ▸ h:_/\_).1) (by rw[en];simp) (by rw[ey];simp) hl;have c:=S.cap y hy;rw[zf] at c;lia
structure E2(n:Nat)(ts:Ts)(st g1 g:bA)(p:aQ):Prop where
 len:g.length=st.length
 inj:Xl st g
 keep:∀l x,g1.getD l none=some x->g.getD l none=some x
 cI:∀l,l∉p->g.getD l none=g1.getD l none
 out:∀l,l∈p->∃x,g.getD l none=some x/\(g1.getD l none=some x\/x∈bX n ts ((st.getD l none).getD 0))
theorem E2.step(S:kI n ts homes st)(I:E2 n ts st g1 g p)(hl:l<st.length)(ey:st.getD l none=some y)(hy:y<n)(np:l∉p):E2 n ts st g1 (FK n ts st g l) (p++[l]):=by
 have nl:=I.cI l np;unfold FK;by_cases c:g.getD l none=none
 .rw[ap c,ey];obtain⟨x,ex⟩:=FL S hl ey hy c;have gs:∀ {j:Nat},(g.set l (ng st g l (bX n ts y))).getD j none=if j=l then ng st g l (bX n ts y) else g.getD j none:=jY (by rw[I.len];exact hl)
  refine⟨by rw[jb,I.len],I.inj.put I.len hl,fun j x e=>?_,fun j hj=>?_,fun j hj=>?_⟩
  .show (g.set l (ng st g l (bX n ts y))).getD j none=_;rw[gs,ao (by rintro rfl;rw[<-nl,c] at e;cases e)];exact I.keep j x e
  .show (g.set l (ng st g l (bX n ts y))).getD j none=_;rw[gs,ao (by rintro rfl;exact hj (e_ _ cK))];exact I.cI j fun z=>hj (gC _ z)
  .show ∃x,(g.set l (ng st g l (bX n ts y))).getD j none=some x/\_;rw[gs];by_cases d:j=l
   .subst d;rw[ap rfl,ex,ey];exact⟨x,rfl,.inr (t_ ex).1⟩
   .rw[ao d];rcases cL.mp hj with z|z
    .exact I.out j z
    .exact absurd (dA.mp z) d
 .rw[ao c];refine⟨I.len,I.inj,I.keep,fun j hj=>I.cI j fun z=>hj (gC _ z),fun j hj=>?_⟩;rcases cL.mp hj with z|z
  .exact I.out j z
  .rw[dA.mp z];cases e:g.getD l none with
   |none=>exact absurd e c
   |some x=>exact⟨x,rfl,.inl (by rw[<-nl,e])⟩
theorem E2.fold(S:kI n ts homes st):∀ {ls p:aQ} {g:bA},E2 n ts st g1 g p->(∀l∈ls,∃y,l<st.length/\st.getD l none=some y/\y<n)->(p++ls).Nodup->E2 n ts st g1 (ls.foldl (FK n ts st) g) (p++ls)
 |[],p,g,I,_,_=>by rw[jI];exact I
 |l::ls,p,g,I,h,nd=>by
  rw[iN,show p++l::ls=(p++[l])++ls by simp];rw[show p++l::ls=(p++[l])++ls by simp] at nd;obtain⟨y,a,b,c⟩:=h l cK;refine E2.fold S (I.step S a b c fun z=>?_) (fun j hj=>h j (dq _ hj)) nd;exact(j7.mp (j7.mp nd).1).2.2 l z l cK rfl
structure Eag(n:Nat)(ts:Ts)(homes:aQ)(st fs:bA):Prop where
 hd:Hd n ts st fs
 eag:∀l y,st.getD l none=some y->(∃x,fs.getD l none=some x/\x∈iU n ts y (homes.getD l 0))\/∀o∈iU n ts y (homes.getD l 0),∃a,st.getD a none=some y/\fs.getD a none=some o/\o∈iU n ts y (homes.getD a 0)
theorem FM{m_:aQ}(S:kI n ts homes st)(pm:m_.Perm (oZ st st.length)):∀l∈m_,∃y,l<st.length/\st.getD l none=some y/\y<n:=fun l hl=>by
 obtain⟨a,b⟩:=jD (pm.mem_iff.mp hl);exact⟨_,a,b,(S.ss l _ (by rw[yU (d:=none) a];exact congrArg some b)).1⟩
theorem SW(h:st.getD l none=some y):l∈oZ st st.length:=gb.mpr ⟨bY.mpr (Lv h),by rw[h];rfl⟩
theorem Lx{m_:aQ}(pm:m_.Perm (oZ st st.length)):m_.Nodup:=pm.nodup_iff.mpr (BP _ jH)
theorem SX{m_:aQ}(S:kI n ts homes st)(pm:m_.Perm (oZ st st.length)):Eag n ts homes st (Lw n ts homes st m_):=by
 have al:=FM S pm;have nd:=Lx pm;have i1:E1 st (m_.foldl (sr n ts homes st) (List.replicate st.length none)) (fun l=>iU n ts ((st.getD l none).getD 0) (homes.getD l 0)) ([]++m_):=E1.fold (gd:=fun l=>iU n ts ((st.getD l none).getD 0) (homes.getD l 0)) ⟨i_,(fun j k y _ hy=>by rw[zg] at hy;cases hy),fun l _=>zg,fun l hl=>(nomatch hl)⟩ (fun l hl=>let ⟨_,a,_⟩:=al l hl;a) nd;have i2:=E2.fold S (g1:=m_.foldl (sr n ts homes st) (List.replicate st.length none)) (p:=[]) ⟨i1.len,i1.inj,fun _ _ e=>e,fun _ _=>rfl,fun l hl=>(nomatch hl)⟩ al nd;rw[List.nil_append] at i1 i2;have aaG:∀ {i j o},o∈iU n ts i j->o∈bX n ts i:=fun h=>(gb.mp h).1;have uo:∀ {l y},st.getD l none=some y->l∈m_:=fun h=>pm.mem_iff.mpr (SW h);have g1k:∀ {l y x},st.getD l none=some y->(m_.foldl (sr n ts homes st) (List.replicate st.length none)).getD l none=some x->x∈iU n ts y (homes.getD l 0):=fun {l y x} h e=>by
  rcases i1.ok l (uo h) with ⟨x',a,b⟩|⟨a,_⟩
  .rw[e] at a;cases a;rw[h] at b;exact b
  .rw[e] at a;cases a
 refine⟨⟨i2.len,fun j hj=>?_,fun j y hj=>?_,i2.inj⟩,fun l y hl=>?_⟩
 .have nj:j∉m_:=fun z=>by obtain⟨y,_,e,_⟩:=al j z;rw[hj] at e;cases e
  exact(i2.cI j nj).trans (i1.cI j nj)
 .obtain⟨x,a,b⟩:=i2.out j (uo hj);rcases b with b|b
  .exact⟨x,a,aaG (g1k hj b)⟩
  .rw[hj] at b;exact⟨x,a,b⟩
 .rcases i1.ok l (uo hl) with ⟨x,a,b⟩|⟨a,f⟩
  .rw[hl] at b;exact .inl ⟨x,i2.keep l x a,b⟩
  .refine .inr fun o ho=>?_;obtain⟨a',e1,e2⟩:=f o (by rw[hl];exact ho);rw[hl] at e1;exact⟨a',e1,i2.keep _ _ e2,g1k e1 e2⟩
end
def SY(st gs:bA)(ps:Ts):Prop:=∀y h:Nat,(ci y,ci h)∈ps↔∃a,a<st.length/\st.getD a none=some y/\gs.getD a none=some h
theorem ffT{st gs:bA}{ps:Ts}{l y:Nat}{os:aQ}(k:SY st gs ps)(ey:st.getD l none=some y):ng st gs l os=(os.filter fun h=>!decide ((ci y,ci h)∈ps)).head?:=by
 unfold ng;rw[List.head?_filter];congr 1;funext h;congr 1;rw[kQ,xF,nW,k y h];constructor
 .rintro⟨a,ha,e⟩;rw[gm,nW,nW,ey] at e;exact⟨a,bY.mp ha,e.1,e.2⟩
 .rintro⟨a,ha,e1,e2⟩;exact⟨a,bY.mpr ha,by rw[e1,ey,e2];simp⟩
theorem SY.put(k:SY st gs ps)(gl:gs.length=st.length)(hl:l<st.length)(ey:st.getD l none=some y)(en:gs.getD l none=none):SY st (gs.set l (some x)) (ps++[(ci y,ci x)]):=fun y' h=>by
 rw[cL,k y' h,dA];constructor
 .rintro(⟨a,ha,e1,e2⟩|e)
  .refine⟨a,ha,e1,?_⟩;rw[jY (by lia),ao (by rintro rfl;rw[en] at e2;cases e2)];exact e2
  .have e1:=d7 (Prod.mk.inj e).1;have e2:=d7 (Prod.mk.inj e).2;exact⟨l,hl,by rw[ey,e1],by rw[jY (by lia),ap rfl,e2]⟩
 .rintro⟨a,ha,e1,e2⟩;rw[jY (by lia)] at e2;by_cases c:a=l
  .subst c;rw[ap rfl] at e2;rw[ey] at e1;cases e1;cases e2;exact .inr rfl
  .rw[ao c] at e2;exact .inl ⟨a,ha,e1,e2⟩
section
variable {n:Nat} {ts:Ts} {homes:aQ} {st g:bA} {l x y:Nat} {os:aQ} {ps:Ts}
theorem Og(S:kI n ts homes st)(k:SY st g ps)(hl:l<st.length)(ey:st.getD l none=some y)(en:g.getD l none=none)(hy:y<n):(bX n ts y).filter (fun h=>!decide ((ci y,ci h)∈ps))≠[]:=fun e=>by
 obtain⟨x,ex⟩:=FL S hl ey hy en;rw[ffT k ey,e] at ex;cases ex
noncomputable def HQ(n:Nat)(ts:Ts)(st g:bA)(l:Nat):List (Option Nat):=g.set l (ng st g l (bX n ts ((st.getD l none).getD 0)))
theorem rJ:∀ {os:aQ} {g:bA},os.Nodup->(∀l∈os,l<g.length)->os.foldl (FK n ts st) g=(os.filter fun l=>decide (g.getD l none=none)).foldl (HQ n ts st) g
 |[],g,_,_=>rfl
 |l::r,g,nd,h=>by
  obtain⟨n1,n2⟩:=gI.mp nd;have hl:=h l cK;rw[iN];by_cases c:g.getD l none=none
  .rw[List.filter_cons_of_pos (p:=fun l=>decide (g.getD l none=none)) (iO c),iN,show FK n ts st g l=HQ n ts st g l from ap c,rJ n2 fun j hj=>by unfold HQ;rw[jb];exact h j (dq _ hj)];congr 1;refine B5 fun j hj=>?_;unfold HQ;rw[jY hl,ao (by rintro rfl;exact n1 hj)]
  .rw[List.filter_cons_of_neg (p:=fun l=>decide (g.getD l none=none)) (by rw[gY c];decide),show FK n ts st g l=g from ao c];exact rJ n2 fun j hj=>h j (dq _ hj)
def gv(homes:aQ):List Nat:=homes.drop 1++homes.take 1
theorem rK:(gv homes).length=homes.length:=by unfold gv;rw[dh,kM,kL];lia
theorem Oh(S:kI n ts homes st):kI n ts (gv homes) (Bv (gv homes) st):=by
 refine⟨by rw[rK,mX,S.len],fun x hx=>?_,fun i y hy=>?_,fun y hy=>?_⟩
 .rcases cL.mp hx with z|z
  .exact S.hs x (ui z)
  .exact S.hs x (o_ z)
 .have hi:i<st.length:=by have:=(eR.mp hy).1;rwa [mX] at this
  have e:(Bv (gv homes) st).getD i none=some y:=by rw[cw,hy];rfl
  have f:=FI e;refine⟨(S.ss i y (by rw[yU (d:=none) hi,f])).1,fun z=>?_⟩;unfold Bv at hy;rw[cA,f_ hi,n0,f,ap (by rw[cw,z];rfl)] at hy;cases hy
 .refine aZ ?_ (S.cap y hy);rw[zf,zf,mX];exact Ba fun j hj=>iO (FI (fu hj))
end
abbrev D_:Stmt:=top 53
abbrev Ly:Stmt:=top 54
theorem oW:(["_law_k","_law_pot_here","_law_size"]:bQ).Nodup:=by decide +kernel
theorem mH:(["_law_mark","_law_letter"]:bQ).Nodup:=by decide +kernel
noncomputable def Ea(ts:Ts)(homes:aQ)(st:bA)(bt:Int)(ranks:dG):Nat->Nat->Int
 |0,_=>0
 |1,l=>jE ts homes st l
 |2,l=>-jE ts homes st l
 |3,l=>((l:Nat)+bt) % ((homes.length:Nat):Int)
 |4,_=>0
 |_,l=>ranks.getD l 0
theorem SZ{ts:Ts}{homes:aQ}{st:bA}{bt:Int}{ranks:dG}{jZ l:Nat}(h:jZ<6):zY [V.int 0,.int (jE ts homes st l),.int (-jE ts homes st l),.int (((l:Nat)+bt) % ((homes.length:Nat):Int)),.int 0,.int (ranks.getD l 0)] (jZ:Int)=some (.int (Ea ts homes st bt ranks jZ l)):=by
 match jZ,h with
 |0,_=>exact aD (j:=0) rfl
 |1,_=>exact aD (j:=1) rfl
 |2,_=>exact aD (j:=2) rfl
 |3,_=>exact aD (j:=3) rfl
 |4,_=>exact aD (j:=4) rfl
 |5,_=>exact aD (j:=5) rfl
theorem Oi{kz:ua}{us:aQ}{zs jy:Zs}(e:zp zs=us.map fun l=>(kz l,ci l))(pm:jy.Perm zs)(m_:Ru (zp jy)):∃out:List Nat,(jy.map fun z=>V.int z.2.2)=NV out/\out.Perm us/\out.Pairwise (zx kz):=by
 have pz:(zp jy).Perm (us.map fun l=>(kz l,ci l)):=by rw[<-e];exact pm.map _
 have mem:∀u∈zp jy,∃l∈us,u=(kz l,ci l):=fun u hu=>by
  obtain⟨l,hl,e⟩:=bB.mp (pz.mem_iff.mp hu);exact⟨l,hl,e.symm⟩
 refine⟨(zp jy).map fun u=>u.2.toNat,?_,?_,?_⟩
 .unfold zp NV;rw[dQ,dQ];refine j6 fun z hz=>?_;obtain⟨l,_,el⟩:=mem z.2 (bB.mpr ⟨z,hz,rfl⟩);show V.int z.2.2=V.int ((z.2.2.toNat:Nat):Int);rw[el];rfl
 .have:=pz.map fun u=>u.2.toNat;rw[dQ] at this;refine this.trans ?_;rw[show ((fun u:Int×Int=>u.2.toNat) ∘ fun l=>(kz l,ci l))=id from funext fun l=>rfl,kY]
 .refine gk.mpr (m_.imp_of_mem fun {u v} hu hv h=>?_);obtain⟨l,_,rfl⟩:=mem u hu;obtain⟨m,_,rfl⟩:=mem v hv;exact h
theorem S4(b:∀n∈us,n<64):∀ {l1 l2:aQ},l1.Perm us->l2.Perm us->l1.Pairwise (zx kz)->l2.Pairwise (zx kz)->l1=l2:=fun {l1 l2} p1 p2 s1 s2=>by
 refine List.Perm.eq_of_pairwise (le:=zx kz) (fun x y hx hy h1 h2=>?_) s1 s2 (p1.trans p2.symm);have:=b x (p1.mem_iff.mp hx);have:=b y (p2.mem_iff.mp hy);unfold zx at h1 h2;lia
theorem FN:aN ["_law_pot_here","_law_many","_law_size"] ["_law_pot_here","_law_many"] (aw D_):=dW (by decide +kernel)
def zh:Sp:=fun vs H Q _=>∃ (p:Addr) (m:Nat),vs=[.ref p,.int (m:Nat)]/\bn H p/\m<=16/\∀ (t:Addr) (ranks:dG) (H':Hp),aO p H H'->bn H' p->H' t=some (.tup (ranks.map V.int))->ranks.length=m->Q (.ref t) H'
theorem Lz(F:iI K "_law_ranks" "_law_ranks" D_ f fd)(B:Bl mg)(TK:d9 P w K mg base bo 1 "_law_take" ["_law_pot_here","_law_many"] ip):bU P w K mg base bo 2 f fd ["_law_pot_here","_law_many"] zh:=by
 refine F.ok FN (fun vs H Q E h=>?_) (fun fX A outer s H vs Q E hr h=>?_)
 .obtain⟨p,m,rfl,_⟩:=h;rfl
 .obtain⟨p,m,rfl,hp,m1,q⟩:=h;refine'⟨_,(ak (aW (i:=2) FN.nd rfl cW (aX aG (cH (aa az (aa (a9 l8 az (a9 Cw az az)) ag))) (aH TK hr aM (aa (pv 0) (aa az ag))) (fun _ _=>rfl)))
   (av (bh (cU fh (by rfl) B.tup o4 (aa ?c1 ag))))),?_⟩
  case c1=>
   refine' cQ (g:=(bH 0)) (te:=(jS (zR fun i j=>.int (i-j)) (rR ip [] E0 (bJ (bb 1) (bJ (bb 2) h_))) (jS (rI Vg fun i j=>.int (i / j)) (bb 2) (tC (.int 2))))) (NB:=["_law_k","_law_pot_here","_law_size"]) (src:=[none,some 0,some 2]) (bz (by kernel_rfl)) rfl (b9 rfl B.range (aa (pv 1) ag)) ?g ?t ?e;case g=>exact fun cl C s₃ H₃ fp=>(aA (i:=0) oW rfl aL cW)
   case t=>exact fun cl C s₃ H₃ fp=>dC
   case e=>exact fun cl C s₃ H₃ fp=>(a9 k8 (aH TK hr aM (aa (pv 1) (aa (pv 2) ag))) (a9 tK (pv 2) az))
  have e59:((10:Int) ^ Int.toNat 59)=100000000000000000000000000000000000000000000000000000000000:=by decide +kernel
  refine⟨_,_,rfl,rfl,⟨by decide,by decide,by decide⟩,_,_,rfl,rfl,?_,by show 2<=sizeLine;decide,fun l hl=>?_⟩
  .exact .inl ⟨by decide,by decide⟩
  have sl:=aj (o:=.lst [V.int 3,.int (2*10 ^ Int.toNat 59)]) hl;refine⟨_,rfl,p,2,rfl,by decide,by decide,hp.same sl,fun d H1 hd s1 mY=>?_⟩;have gl:=s1 _ _ (ae (H:=H) (a:=l) (o:=.lst [V.int 3,.int (2*10 ^ Int.toNat 59)])) (hp.ne hl);have s01:aO p H H1:=(aO.of sl).trans s1;obtain⟨z,hz,z0,z1⟩:∃z:Nat,zY [V.int 3,.int (2*10 ^ Int.toNat 59)] (d:Int)=some (.int (z:Nat))/\0<z/\z<2 ^ 200:=by
   rcases(show d=0\/d=1 by lia) with rfl|rfl
   .exact⟨3,aD (j:=0) rfl,by decide,by decide⟩
   .refine⟨200000000000000000000000000000000000000000000000000000000000,?_,by decide,by decide⟩;rw[e59];exact aD (j:=1) rfl
  refine⟨l,_,_,_,rfl,rfl,a8.of gl,hz,?_⟩;clear gl hz;refine⟨_,rfl,(m:Nat),rfl,by lia,by lia,fun D hD=>?_⟩;have nD:D≠p:=mY.ne hD;rw[gE];refine fJ (fun i ys σ H2=>(∃x,σ=[x,some (.ref p),some (.int (z:Nat))])/\aO p H1 H2/\bn H2 p/\H2 D=some (.lst ys)/\∃rs:List Int,ys=rs.map V.int/\rs.length=i) ⟨⟨_,rfl⟩,aO.of (aj hD),mY.same (aj hD),ae,[],rfl,rfl⟩ ?_ ?_
  .rintro i ys σ H2 Kt Kf hi ⟨⟨x,rfl⟩,s2,vP,jz,rs,rfl,rl⟩ kt kf;refine⟨_,rfl,_,rfl,p,z,rfl,z0,z1,vP,fun e H3 he s3 nE=>⟨_,rfl,_,_,rfl,rfl,⟨by decide,by decide⟩,_,_,rfl,rfl,?_⟩⟩;refine kt _ _ _ (s3 _ _ jz nD) (by rw[aT,rl];exact bv (show i<17 by lia) (by decide)) ⟨⟨_,rfl⟩,fun b o e' n=>?_,?_,ae,rs++[_],by rw[dt];rfl,by rw[dh,rl];rfl⟩
   .rw[aq (am e' hD)];exact s3 _ _ (s2 _ _ e' n) n
   .exact nE.put nD.symm
  .rintro ys σ H2 ⟨_,s2,vP,jz,rs,rfl,rl⟩;refine⟨D,_,rfl,.inl ⟨a8.of jz,fun t ht=>?_⟩⟩;exact q t rs _ ((s01.trans s2).trans (aO.of (aj ht))) (vP.same (aj ht)) ae rl
theorem vL:aN ["_law_way","_law_far_here","_law_homes","_law_stand","_law_beat_here","_law_ranks_here","_law_found","_law_letter","_law_house","_law_left"] ["_law_way","_law_far_here","_law_homes","_law_stand","_law_beat_here","_law_ranks_here"] (aw Ly):=dW (by decide +kernel)
def Eb:Sp:=fun vs H Q _=>∃ (jZ:Nat) (fa ha sa ra:Addr) (bt:Int) (n:Nat) (ts:Ts) (L:iQ) (homes:aQ) (st:bA) (ranks:dG),vs=[.int (jZ:Nat),.ref fa,.ref ha,.ref sa,.int bt,.ref ra]/\jZ<6/\bK H L fa n (fun h=>(List.range n).map (far ts h))/\L fa/\H ha=some (.tup (NV homes))/\H sa=some (.tup (st.map oV))/\lA n homes st/\H ra=some (.tup (ranks.map V.int))/\ranks.length=homes.length/\
 ∀ (r:Addr) (H':Hp) (out:aQ),aI H H'->H r=none->H' r=some (.lst (NV out))->out.Perm (oZ st st.length)->out.Pairwise (zx (Ea ts homes st bt ranks jZ))->Q (.ref r) H'
theorem Oj{f:Addr}{fd:eA}(F:iI K "_law_order" "_law_order" Ly f fd)(B:Bl mg)(hE:mg "enumerate"=none):bU P w K mg base bo 1 f fd ["_law_way","_law_far_here","_law_homes","_law_stand","_law_beat_here","_law_ranks_here"] Eb:=by
 refine F.ok vL (fun vs H Q E h=>?_) (fun fX A outer s H vs Q E hr h=>?_)
 .obtain⟨jZ,fa,ha,sa,ra,bt,n,ts,L,homes,st,ranks,rfl,_⟩:=h;rfl
 .obtain⟨jZ,fa,ha,sa,ra,bt,n,ts,L,homes,st,ranks,rfl,w6,RF,hLf,hH,hS,LO,hR,rl,q⟩:=h;refine'⟨_,(ak (aW (i:=6) vL.nd rfl aL (cH ag))
   (ak (du eI rfl (Au rfl hE (aa (pv 3) ag)) (dX (n:=2) rfl (aE (aA (i:=7) vL.nd rfl aL) (aE (aA (i:=8) vL.nd rfl aL) cM)))
    (av (dS (aY Ew (pv 8) ij (bp _)) (ak (aW (i:=9) vL.nd rfl aL (aX aG (aX aG (pv 1) (pv 8) (fun _ _=>rfl)) (aX eN (pv 2) (pv 7) (fun _ _=>rfl)) (fun _ _=>rfl)))
     (av (cG (gQ gy i9 i8 cV (pv 6) (aa (bT (aa (aX aG (cH (aa az (aa (pv 9) (aa (zS uU (pv 9)) (aa (a9 je (a9 dM (pv 7) (pv 4)) (aJ aV (by rfl) B.len fc (aa (pv 2) ag))) (aa az (aa (aX eN (pv 5) (pv 7) (fun _ _=>rfl)) ag))))))) (pv 0) (fun _ _=>rfl)) (aa (pv 7) ag))) ag))))) b8)))
   (av (bh ?c1)))),?_⟩
  case c1=>
   refine' cQ (g:=(uS K 2 (gn (bH 0) (gn (bH 1) uR)))) (te:=(bb 1)) (NB:=["_law_mark","_law_letter"]) (src:=[none,none]) (bz (by kernel_rfl)) rfl (bN (aJ Df (by rfl) B.sorted nK (aa (pv 6) ag))) ?g ?t ?e;case g=>exact fun cl C s₃ H₃ fp=>(dX (n:=2) rfl (aE (aA (i:=0) mH rfl aL cW) (aE (aA (i:=1) mH rfl aL cW) cM)))
   case t=>exact fun cl C s₃ H₃ fp=>dC
   case e=>exact fun cl C s₃ H₃ fp=>(pv 1)
  refine⟨by show 0<=sizeLine;decide,fun Fo hFo=>?_⟩;have sF:=aj (o:=.lst []) hFo;have le:=LO.le;refine⟨_,rfl,sa,_,rfl,cu.of (sF _ _ hS),GQ (K:=K) (xs:=st.map oV) (fun i σ Hc=>∃zs:Zs,(∃x7 x8 x9,σ=[some (.int (jZ:Nat)),some (.ref fa),some (.ref ha),some (.ref sa),some (.int bt),some (.ref ra),some (.ref Fo),x7,x8,x9])/\aI H Hc/\Hc Fo=some (.lst (zr zs))/\PO Hc zs/\zp zs=(oZ st i).map fun l=>(Ea ts homes st bt ranks jZ l,ci l)) ⟨[],⟨_,_,_,rfl⟩,sF,ae,PO.nil,rfl⟩ (fun i σ Hc _ ⟨zs,z⟩=>cu.of (z.2.1 _ _ hS)) ?_ ?_⟩
  .rintro i x t σ Hc hx ⟨zs,⟨x7,x8,x9,rfl⟩,sc,P9,po,ez⟩ ht;obtain⟨hi,rfl⟩:=DW hx;have aF:=aj (o:=.tup [.int (i:Int),oV (st.getD i none)]) ht;refine⟨t,_,rfl,cu.of ae,rfl,_,_,rfl,_,_,rfl,rfl,?_⟩;refine⟨_,rfl,rfl,_,rfl,?_⟩;rw[FB];have s1:=sc.trans aF;have Sx:=aF _ _ P9;have P8:=po.same aF;generalize upd Hc t _=H1 at *;clear ht aF;refine gU (fun e=>?_) (fun e=>?_)
   .obtain⟨_,y,ey,hy,HP⟩:=LO.at (gb.mpr ⟨bY.mpr hi,e⟩);obtain⟨bs,b,r1,r2,r3,_⟩:=(RF.keep hLf (fun b o _ e=>s1 b o e)).row hy;have hg:(NV ((List.range n).map (far ts y)))[homes.getD i 0]?=some (.int (far ts y (homes.getD i 0):Nat)):=by
     rw[cA,cA,f_ HP];rfl
    have en:((far ts y (homes.getD i 0):Nat):Int)=jE ts homes st i:=by unfold jE;rw[ey];rfl
    rw[ey];refine⟨_,rfl,_,rfl,fa,_,_,_,rfl,rfl,a8.of r1,aD r2,_,rfl,_,rfl,ha,_,_,_,rfl,rfl,cu.of (s1 _ _ hH),aD (iT (by rw[LO.len];exact hi)),b,_,_,_,rfl,rfl,a8.of r3,aD hg,?_⟩;rw[en];refine⟨_,rfl,.inl ⟨rfl,_,a8.of Sx⟩,_,rfl,_,rfl,_,rfl,_,rfl,_,rfl,_,_,rfl,rfl,_,rfl,ha,_,rfl,.inr (cu.of (s1 _ _ hH)),_,_,rfl,rfl,?_,_,rfl,_,rfl,ra,_,_,.int (ranks.getD i 0),rfl,rfl,cu.of (s1 _ _ hR),aD ?_,by show 6<=sizeLine;decide,fun L6 hL6=>?_⟩
    .rw[be,LO.len];lia
    .rw[cA,cw,cz (show i<ranks.length by rw[rl,LO.len];exact hi)];rfl
    rw[be];have s6:=aj (o:=.lst [V.int 0,.int (jE ts homes st i),.int (-jE ts homes st i),.int (((i:Nat)+bt) % ((homes.length:Nat):Int)),.int 0,.int (ranks.getD i 0)]) hL6;refine⟨_,rfl,L6,_,_,_,rfl,rfl,a8.of ae,SZ w6,_,rfl,by show 2<=sizeLine;decide,fun t2 ht2=>?_⟩;have s7:=s6.trans (aj (o:=oY (Ea ts homes st bt ranks jZ i,ci i)) ht2);refine⟨Fo,_,_,rfl,rfl,s7 _ _ Sx,?_,zs++[(t2,(Ea ts homes st bt ranks jZ i,ci i))],⟨_,_,_,rfl⟩,bj (s1.trans s7) hFo,by rw[ae,eO];rfl,PO.putL (xs:=zr zs) ((P8.same s7).append (PO.one ae)) (s7 _ _ Sx),?_⟩
    .rw[dZ,<-b_,ez,aT];exact eK jC (bv (show i<17 by lia) (by decide))
    .rw[eQ,ez,qb,ap e,dt];rfl
   .refine⟨zs,⟨_,_,_,rfl⟩,s1,Sx,P8,?_⟩;rw[qb,ao e,jI];exact ez
  .rintro σ Hc ⟨zs,⟨x7,x8,x9,rfl⟩,sc,P9,po,ez⟩;rw[aT] at ez;have zl:zs.length<=16:=by rw[<-b_,ez,aT];exact aZ jC le
   refine⟨_,rfl,PX ?_⟩;refine Kr P9 po (by lia) (fun u hu=>?_) (by rw[ez];exact gk.mpr (mW.imp fun {a b} h=>by show (a:Int)<(b:Int);lia)) fun D jy hD pm m_=>⟨D,rfl,⟨_,a8.of ae⟩,fun D2 jz=>?_⟩
   .rw[ez] at hu;obtain⟨l,hl,rfl⟩:=bB.mp hu;have:=(jD hl).1;show 0<=ci l/\ci l<64;show (0:Int)<=(l:Int)/\(l:Int)<64;lia
   obtain⟨out,eo,op,pw⟩:=Oi ez pm m_;have sD:=aj (o:=.lst (zr jy)) hD;have DM:PO (upd Hc D (.lst (zr jy))) jy:=fun z hz=>sD _ _ (po z (pm.mem_iff.mp hz));refine Fn jy (fun z=>V.ref z.1) (fun z=>V.int z.2.2) (fun σ=>∃a b,σ=[a,b]) ae jz (by rw[pm.length_eq];lia) ⟨_,_,rfl⟩ ?_ ?_
   .rintro z σ H2 R Kf hz ⟨a,b,rfl⟩ sm kk;exact⟨z.1,_,rfl,cu.of (sm _ _ (DM z hz)),rfl,_,_,rfl,_,_,rfl,rfl,_,rfl,kk _ _ ⟨_,_,rfl⟩ (aI.refl _)⟩
   .intro H2 sm pY;rw[eo] at pY;exact q D2 H2 out (sc.trans (sD.trans sm)) (sc.free (sD.free jz)) pY op pw
abbrev UO:List Str:=["self","net","homes","stand","beat"]
theorem Bb(a:PE X e t1)(b:PE X e t2):PE X e (fun σ H Q=>t1 σ H Q\/t2 σ H Q):=fun af s σ H Q I h=>h.elim (a af s σ H Q I) (b af s σ H Q I)
structure Qe(K:a_)(mg:cr)(nm:Str)(CB Ci:Addr)(bt:Bool):Prop where
 cl:Ib K Ci
 Nm:mg nm=some (.ref Ci)
 ha:W.findIn K (.ref Ci) "__class__"=some (some (.builtin "object.__class__"))
 hn:W.specialIn K (.builtin "object.__class__") "__get__"=some (some (.builtin "getset_descriptor.__get__"))
 Vk:W.takesIn K (.builtin "object.__class__")=some true
 hm:W.mroIn K Ci (.type "object")=some true
 kt:W.kitOne K (.ref Ci) (.ref CB)=some bt
theorem Qe.ty(T:Qe K mg nm CB Ci bt)(e:H a=some (.ins Ci d fs)):Pd K H (.ref a) (.ref Ci):=.of (.ins e T.cl T.ha T.hn T.Vk T.hm)
structure js(PN PF PT PR:Addr)(H:Hp):Prop where
 n:yZ PN H
 f:y_ PF H
 t:zc PT H
 r:zd PR H
theorem js.same{PN PF PT PR:Addr}{H H':Hp}(t:js PN PF PT PR H)(s:aI H H'):js PN PF PT PR H':=⟨t.n.same s,t.f.same s,t.t.same s,t.r.same s⟩
def KQ(PN PF PT PR:Addr)(H H':Hp):Prop:=∀b o,H b=some o->b≠PN->b≠PF->b≠PT->b≠PR->H' b=some o
def KN(H H':Hp):Prop:=∀b o,H b=some o->Oc o->H' b=some o
theorem KQ.kn{PN PF PT PR:Addr}{H H':Hp}(k:KQ PN PF PT PR H H')(t:js PN PF PT PR H):KN H H':=fun b o e n=>k b o e (t.n.not e n) (t.f.not e n) (t.t.not e n) (t.r.not e n)
theorem KQ.of{PN PF PT PR:Addr}{H H':Hp}(s:aI H H'):KQ PN PF PT PR H H':=fun b o e _ _ _ _=>s b o e
theorem KQ.trans{PN PF PT PR:Addr}{H H1 H2:Hp}(a:KQ PN PF PT PR H H1)(b:KQ PN PF PT PR H1 H2):KQ PN PF PT PR H H2:=fun c o e n1 n2 n3 n4=>b c o (a c o e n1 n2 n3 n4) n1 n2 n3 n4
theorem _root_.L2.dU.lB(t:dU lp q Pzz H)(s:mq Pzz' H H')(hp:∃ps,H Pzz'=some (.jp ps))(n:Pzz≠Pzz'):dU lp q Pzz H':=by
 obtain⟨ps,hp⟩:=hp;rcases t with z|⟨c,z,y⟩
 .exact .inl (s _ _ z n)
 .exact .inr ⟨c,s _ _ z n,s _ _ y (by rintro rfl;rw[hp] at y;cases y)⟩
theorem _root_.L2.dU.jp(t:dU lp q Pzz H):∃ps,H Pzz=some (.jp ps):=by
 rcases t with z|⟨c,z,y⟩
 .exact⟨_,z⟩
 .exact⟨_,z⟩
theorem _root_.L2.dU.putL(t:dU lp q Pt H)(h:H A=some (.lst xs)):dU lp q Pt (upd H A u):=by
 rcases t with z|⟨c,z,y⟩
 .exact .inl (by rw[aq (by rintro rfl;rw[h] at z;cases z)];exact z)
 .exact .inr ⟨c,by rw[aq (by rintro rfl;rw[h] at z;cases z)];exact z,by rw[aq (by rintro rfl;rw[h] at y;cases y)];exact y⟩
theorem js.putL{PN PF PT PR A:Addr}{H:Hp}{xs:bg}{u:HO}(t:js PN PF PT PR H)(h:H A=some (.lst xs)):js PN PF PT PR (upd H A u):=⟨t.n.putL h,t.f.putL h,t.t.putL h,t.r.putL h⟩
def Rl(CE CN CF CT CI CR:Addr)(ranks:dG)(H:Hp):Nat->Addr->Prop
 |0,a=>∃d,H a=some (.ins CE d [])
 |1,a=>∃d,H a=some (.ins CN d [])
 |2,a=>∃d,H a=some (.ins CF d [])
 |3,a=>∃d,H a=some (.ins CT d [])
 |4,a=>∃d,H a=some (.ins CI d [])
 |_,a=>yX CR H a ranks
theorem Rl.kn{CE CN CF CT CI CR:Addr}{ranks:dG}{H H':Hp}{jZ:Nat}{a:Addr}(h:Rl CE CN CF CT CI CR ranks H jZ a)(k:KN H H'):Rl CE CN CF CT CI CR ranks H' jZ a:=by
 match jZ,h with
 |0,⟨d,e⟩=>exact⟨d,k _ _ e nofun⟩
 |1,⟨d,e⟩=>exact⟨d,k _ _ e nofun⟩
 |2,⟨d,e⟩=>exact⟨d,k _ _ e nofun⟩
 |3,⟨d,e⟩=>exact⟨d,k _ _ e nofun⟩
 |4,⟨d,e⟩=>exact⟨d,k _ _ e nofun⟩
 |n+5,⟨d,ra,e,e'⟩=>exact⟨d,ra,k _ _ e nofun,k _ _ e' nofun⟩
section
variable {K:a_} {C CE CN CF CT CI CR PN PF PT PR:Addr}
abbrev tO(Ci:Addr)(sp:Sp):TE:=Ey Ci "order" sp [] E0 (bb 0) (bJ (bb 1) (bJ (bb 2) (bJ (bb 3) (bJ (bb 4) h_))))
abbrev tOU(C CE CN CF CT CI CR PN PF PT PR:Addr):TE:=fun σ H Q=>tO CE vK σ H Q\/(fun σ H Q=>tO CN (D5 C PN) σ H Q\/(fun σ H Q=>tO CF (D6 C PF) σ H Q\/(fun σ H Q=>tO CT (D7 PT) σ H Q\/(fun σ H Q=>tO CI vK σ H Q\/tO CR (D9 CR PR) σ H Q) σ H Q) σ H Q) σ H Q) σ H Q
theorem S5:([("ranks",v)]:rO).lookup ("order":Str)=none:=by
 rw[gX];rw[show (("order":Str)==("ranks":Str))=false by decide +kernel];rfl
theorem FO:(oZ st i).Pairwise (zx fun _=>0):=mW.imp fun {a b} h=>by unfold zx;lia
theorem Xm(nd:[PN,PF,PT,PR].Nodup)(tb:js PN PF PT PR H)(N:dE C H L px n ts)(he:H ha=some (.tup (NV homes)))(se:H sa=some (.tup (st.map oV)))(LO:lA n homes st)(b0:0<=bt)(rl:ranks.length=homes.length)(w6:jZ<6)(ra:Rl CE CN CF CT CI CR ranks H jZ a)(q:∀ (r:Addr) (H':Hp) (out:aQ),js PN PF PT PR H'->KQ PN PF PT PR H H'->H r=none->out.Perm (oZ st st.length)->out.Pairwise (zx (Ea ts homes st bt ranks jZ))->H' r=some (.lst (NV out))->Q (.ref r) H'):
  tOU C CE CN CF CT CI CR PN PF PT PR [some (.ref a),some (.ref px),some (.ref ha),some (.ref sa),some (.int bt),x5,x6] H Q:=by
 simp only[gI,bq,jG,not_or,jM,not_false_eq_true,kR,and_true] at nd;obtain⟨⟨n1,n2,n3⟩,⟨n4,n5⟩,n6⟩:=nd;have kq:∀ {Pzz H'},(Pzz=PN\/Pzz=PF\/Pzz=PT\/Pzz=PR)->mq Pzz H H'->KQ PN PF PT PR H H':=fun h s b o e m1 m2 m3 m4=>s b o e (by rcases h with rfl|rfl|rfl|rfl <;> assumption)
 match jZ,w6,ra,q with
 |0,_,⟨d,e⟩,q=>exact .inl ⟨_,rfl,a,d,_,rfl,e,rfl,_,rfl,_,rfl,_,rfl,_,rfl,_,_,_,_,sa,st,rfl,se,LO.le,fun r H' s HN hr=>q r H' _ (tb.same s) (KQ.of s) HN (iE _) FO hr⟩
 |1,_,⟨d,e⟩,q=>exact .inr (.inl ⟨_,rfl,a,d,_,rfl,e,rfl,_,rfl,_,rfl,_,rfl,_,rfl,_,_,_,px,ha,sa,n,ts,homes,st,rfl,N,he,se,LO,tb.n,fun r H' out t' s HN op pw hr=>q r H' out ⟨t',tb.f.lB s tb.n.jp (dI n1),tb.t.lB s tb.n.jp (dI n2),tb.r.lB s tb.n.jp (dI n3)⟩ (kq (.inl rfl) s) HN op pw hr⟩)
 |2,_,⟨d,e⟩,q=>exact .inr (.inr (.inl ⟨_,rfl,a,d,_,rfl,e,rfl,_,rfl,_,rfl,_,rfl,_,rfl,_,_,_,px,ha,sa,n,ts,homes,st,rfl,N,he,se,LO,tb.f,fun r H' out t' s HN op pw hr=>q r H' out ⟨tb.n.lB s tb.f.jp n1,t',tb.t.lB s tb.f.jp (dI n4),tb.r.lB s tb.f.jp (dI n5)⟩ (kq (.inr (.inl rfl)) s) HN op pw hr⟩))
 |3,_,⟨d,e⟩,q=>exact .inr (.inr (.inr (.inl ⟨_,rfl,a,d,_,rfl,e,rfl,_,rfl,_,rfl,_,rfl,_,rfl,_,_,bt,ha,sa,n,homes,st,rfl,b0,he,se,LO,tb.t,fun r H' out t' s HN op pw hr=>q r H' out ⟨tb.n.lB s tb.t.jp n2,tb.f.lB s tb.t.jp n4,t',tb.r.lB s tb.t.jp (dI n6)⟩ (kq (.inr (.inr (.inl rfl))) s) HN op pw hr⟩)))
 |4,_,⟨d,e⟩,q=>exact .inr (.inr (.inr (.inr (.inl ⟨_,rfl,a,d,_,rfl,e,rfl,_,rfl,_,rfl,_,rfl,_,rfl,_,_,_,_,sa,st,rfl,se,LO.le,fun r H' s HN hr=>q r H' _ (tb.same s) (KQ.of s) HN (iE _) FO hr⟩))))
 |5,_,rk,q=>
  have rk:yX CR H a ranks:=rk;obtain⟨d,ra',e,e'⟩:=id rk;exact .inr (.inr (.inr (.inr (.inr ⟨_,rfl,a,d,_,rfl,e,S5,_,rfl,_,rfl,_,rfl,_,rfl,_,_,a,ha,sa,n,ranks,homes,st,rfl,rk,rl,he,se,LO,tb.r,fun r H' out t' s HN op pw hr=>q r H' out ⟨tb.n.lB s tb.r.jp n3,tb.f.lB s tb.r.jp n5,tb.t.lB s tb.r.jp n6,t'⟩ (kq (.inr (.inr (.inr rfl))) s) HN op pw hr⟩))))
end
structure Xn(P:bL)(w:World)(K:a_)(mg:cr)(base:Heap)(C CE CN CF CT CI CR PN PF PT PR:Addr):Prop where
 e:Qe K mg "Elder" CI CE false
 n:Qe K mg "Nearest" CI CN false
 f:Qe K mg "Farthest" CI CF false
 t:Qe K mg "Turns" CI CT false
 i:Qe K mg "InTurn" CI CI true
 r:Qe K mg "Ranked" CI CR false
 nd:[PN,PF,PT,PR].Nodup
 oE:jX P w K mg base bo 2 CE "order" UO vK
 oN:jX P w K mg base bo 9 CN "order" UO (D5 C PN)
 oF:jX P w K mg base bo 9 CF "order" UO (D6 C PF)
 oT:jX P w K mg base bo 9 CT "order" UO (D7 PT)
 oI:jX P w K mg base bo 2 CI "order" UO vK
 oR:jX P w K mg base bo 9 CR "order" UO (D9 CR PR)
theorem Xn.ty{C CE CN CF CT CI CR PN PF PT PR:Addr}(R:Xn P w K mg base C CE CN CF CT CI CR PN PF PT PR){H:Hp}{ranks:dG}{jZ a:Nat}(w6:jZ<6)(h:Rl CE CN CF CT CI CR ranks H jZ a):∃t,W.kitOne K t (.ref CI)=some (decide (jZ=4))/\Pd K H (.ref a) t:=by
 match jZ,w6,h with
 |0,_,⟨d,e⟩=>exact⟨_,R.e.kt,R.e.ty e⟩
 |1,_,⟨d,e⟩=>exact⟨_,R.n.kt,R.n.ty e⟩
 |2,_,⟨d,e⟩=>exact⟨_,R.f.kt,R.f.ty e⟩
 |3,_,⟨d,e⟩=>exact⟨_,R.t.kt,R.t.ty e⟩
 |4,_,⟨d,e⟩=>exact⟨_,R.i.kt,R.i.ty e⟩
 |5,_,rk=>
  obtain⟨d,ra',e,e'⟩:=(show yX CR H a ranks from rk)
  exact⟨_,R.r.kt,R.r.ty e⟩
abbrev sHE:Stmt:=top 24
theorem S6:aN ["net","homes","stand","letters","goes","letter"] ["net","homes","stand","letters","goes"] (aw sHE):=dW (by decide +kernel)
def S7(C:Addr):Sp:=fun vs H Q _=>∃ (L:iQ) (px ha sa la ga:Addr) (n:Nat) (ts:Ts) (homes os:aQ) (st gs:bA),vs=[.ref px,.ref ha,.ref sa,.ref la,.ref ga]/\dE C H L px n ts/\¬ L ga/\H ha=some (.tup (NV homes))/\H sa=some (.tup (st.map oV))/\lA n homes st/\(∀l∈os,l∈oZ st st.length)/\H la=some (.lst (NV os))/\la≠ga/\H ga=some (.lst (gs.map oV))/\gs.length=st.length/\
 ∀H',aO ga H H'->H' ga=some (.lst ((os.foldl (FK n ts st) (os.foldl (sr n ts homes st) gs)).map oV))->Q .cI H'
theorem qe:∀ {ls:aQ} {gs:bA},(ls.foldl (sr n ts homes st) gs).length=gs.length
 |[],gs=>rfl
 |l::ls,gs=>by rw[iN,qe];unfold sr;rw[jb]
theorem FP:∀ {ls:aQ} {gs:bA},(ls.foldl (FK n ts st) gs).length=gs.length
 |[],gs=>rfl
 |l::ls,gs=>by rw[iN,FP];unfold FK;split <;> simp
theorem Xo(F:iI K "hand_eagerly" "hand_eagerly" sHE f fd)(T:NT K mg C)(MG:jX P w K mg base bo 6 C "good" ["self","house","home"] (yV C))(MO:jX P w K mg base bo 5 C "out" ["self","house"] (Dz C))(FF:d9 P w K mg base bo 1 "first_free" ["others","stand","goes","letter"] SG):
  bU P w K mg base bo 7 f fd ["net","homes","stand","letters","goes"] (S7 C):=by
 obtain⟨fG,fdG,mG,bG,GG⟩:=MG.ex;obtain⟨fO,fdO,mO,bO,GO⟩:=MO.ex;refine F.ok S6 (fun vs H Q E h=>?_) (fun fX A outer s H vs Q E hr h=>?_)
 .obtain⟨L,px,ha,sa,la,ga,n,ts,homes,os,st,gs,rfl,_⟩:=h;rfl
 .obtain⟨L,px,ha,sa,la,ga,n,ts,homes,os,st,gs,rfl,N,nLg,hH,hS,LO,ho,hL,nlg,hG,gl,q⟩:=h;have h1:df 1 _:=hr.mono (by decide);have h5:df 5 _:=hr.mono (by decide);refine⟨_,(ak (du eI rfl (bN (pv 3)) (aA (i:=5) S6.nd rfl aL)
    (av (d8 (aH FF h1 aM (aa (eZ (pv 0) T.cl mG GG hr bG .nil aM (aa (aX eN (pv 2) (pv 5) (fun _ _=>rfl)) (aa (aX eN (pv 1) (pv 5) (fun _ _=>rfl)) ag))) (aa (pv 2) (aa (pv 4) (aa (pv 5) ag))))) (gx (pv 4) (pv 5) dY))))
   (av (du eI rfl (bN (pv 3)) (aA (i:=5) S6.nd rfl aL)
    (av (dS (aY Cy (aX aG (pv 4) (pv 5) (fun _ _=>rfl)) ij (bp _)) (av (d8 (aH FF h1 aM (aa (eZ (pv 0) T.cl mO GO h5 bO .nil aM (aa (aX eN (pv 2) (pv 5) (fun _ _=>rfl)) ag)) (aa (pv 2) (aa (pv 4) (aa (pv 5) ag))))) (gx (pv 4) (pv 5) dY))) b8))))),?_⟩
  have n2:=N.lE.n2;have npg:px≠ga:=by obtain⟨dx,fs,a,_⟩:=N.Oa;rintro rfl;rw[a] at hG;cases hG
  have nhg:ha≠ga:=by rintro rfl;rw[hH] at hG;cases hG
  have nsg:sa≠ga:=by rintro rfl;rw[hS] at hG;cases hG
  refine⟨_,rfl,la,rfl,⟨_,a8.of hL⟩,eM (K:=K) (xs:=NV os) (fun j σ Hc=>(∃x,σ=[some (.ref px),some (.ref ha),some (.ref sa),some (.ref la),some (.ref ga),x])/\aO ga H Hc/\Hc ga=some (.lst (((os.take j).foldl (sr n ts homes st) gs).map oV))) ⟨⟨_,rfl⟩,aO.refl,hG⟩ (fun j σ Hc _ z=>a8.of (z.2.1 _ _ hL nlg)) ?_ ?_⟩
  .rintro j x σ Hc hx ⟨⟨x5,rfl⟩,sc,qf⟩;obtain⟨l,hv,rfl⟩:=p6 hx;obtain⟨hl,y,ey,hy,HP⟩:=LO.at (ho l (dz hv));have tk:os.take (j+1)=os.take j++[l]:=by rw[gW,hv];rfl
   rw[tk,xC,iN,uF];have Iu:((os.take j).foldl (sr n ts homes st) gs).length=st.length:=by rw[qe,gl]
   generalize (os.take j).foldl (sr n ts homes st) gs=g at *;have Nc:=N.keep (fun b o l e=>sc b o e (by rintro rfl;exact nLg l)) (fun o e=>sc _ _ e npg);have N8:=sc _ _ hH nhg;have vQ:=sc _ _ hS nsg;obtain⟨dx,fs,i1,i2,i3⟩:=Nc.Oa;refine⟨_,rfl,px,dx,fs,rfl,i1,i2,_,rfl,_,rfl,sa,_,_,_,rfl,rfl,cu.of vQ,aD (kJ hl),?_⟩;rw[ey];have lg:(iU n ts y (homes.getD l 0)).length<=n:=aZ (iL _ _) qc;refine⟨_,rfl,_,rfl,ha,_,_,_,rfl,rfl,cu.of N8,aD (iT (by rw[LO.len];exact hl)),L,px,n,ts,y,homes.getD l 0,rfl,Nc,hy,HP,fun r1 H1 s1 DE g1=>?_⟩;refine⟨_,rfl,_,rfl,_,rfl,r1,sa,ga,iU n ts y (homes.getD l 0),st,g,l,rfl,g1,s1 _ _ vQ,s1 _ _ qf,Iu,LO.le,hl,fun H4 s4=>?_⟩;have Xp:=s1.trans s4;refine⟨_,rfl,_,rfl,ga,_,(l:Int),l,rfl,rfl,Xp _ _ qf,eJ (by rw[aT,Iu];exact hl),⟨_,rfl⟩,fun b o e m=>by rw[aq m];exact Xp _ _ (sc _ _ e m),?_⟩;rw[ae];unfold sr;rw[ey,xN];rfl
  .rintro σ Hc ⟨⟨x5,rfl⟩,sc,qf⟩;rw[be,ja] at qf;have Iu:(os.foldl (sr n ts homes st) gs).length=st.length:=by rw[qe,gl]
   generalize os.foldl (sr n ts homes st) gs=g0 at *;refine⟨_,rfl,la,rfl,⟨_,a8.of (sc _ _ hL nlg)⟩,eM (K:=K) (xs:=NV os) (fun j σ Hc=>(∃x,σ=[some (.ref px),some (.ref ha),some (.ref sa),some (.ref la),some (.ref ga),x])/\aO ga H Hc/\Hc ga=some (.lst (((os.take j).foldl (FK n ts st) g0).map oV))) ⟨⟨_,rfl⟩,sc,qf⟩ (fun j σ Hc _ z=>a8.of (z.2.1 _ _ hL nlg)) ?_ ?_⟩
   .clear sc qf;rintro j x σ Hc hx ⟨⟨x5,rfl⟩,sc,qf⟩;obtain⟨l,hv,rfl⟩:=p6 hx;obtain⟨hl,y,ey,hy,HP⟩:=LO.at (ho l (dz hv));have tk:os.take (j+1)=os.take j++[l]:=by rw[gW,hv];rfl
    rw[tk,xC,iN,uF];have gl2:((os.take j).foldl (FK n ts st) g0).length=st.length:=by rw[FP,Iu]
    generalize (os.take j).foldl (FK n ts st) g0=g at *;have Nc:=N.keep (fun b o l e=>sc b o e (by rintro rfl;exact nLg l)) (fun o e=>sc _ _ e npg);have vQ:=sc _ _ hS nsg;obtain⟨dx,fs,i1,i2,i3⟩:=Nc.Oa;refine⟨_,rfl,_,rfl,ga,_,_,_,rfl,rfl,a8.of qf,aD (kJ (by rw[gl2];exact hl)),rfl,_,rfl,?_⟩;unfold FK;cases eg:g.getD l none with
    |some z=>refine sg rfl ⟨⟨_,rfl⟩,sc,?_⟩;rw[ao (fun z=>by cases z)];exact qf
    |none=>
    rw[ap rfl];refine xc rfl ⟨_,rfl,px,dx,fs,rfl,i1,i3,_,rfl,_,rfl,sa,_,_,_,rfl,rfl,cu.of vQ,aD (kJ hl),?_⟩;rw[ey];refine⟨L,px,n,ts,y,rfl,Nc,hy,fun r1 H1 s1 DE g1=>?_⟩;have lo:=qc (n:=n) (ts:=ts) (h:=y);refine⟨_,rfl,_,rfl,_,rfl,r1,sa,ga,bX n ts y,st,g,l,rfl,g1,s1 _ _ vQ,s1 _ _ qf,gl2,LO.le,hl,fun H4 s4=>?_⟩;have Xp:=s1.trans s4;refine⟨_,rfl,_,rfl,ga,_,(l:Int),l,rfl,rfl,Xp _ _ qf,eJ (by rw[aT,gl2];exact hl),⟨_,rfl⟩,fun b o e m=>by rw[aq m];exact Xp _ _ (sc _ _ e m),?_⟩;rw[ae,xN];rfl
   .rintro σ Hc ⟨⟨x5,rfl⟩,sc,qf⟩;rw[be,ja] at qf;exact q Hc sc qf
theorem Ec:aN ["rule","net","homes","stand","beat","letters","goes"] ["rule","net","homes","stand","beat"] (aw Ln):=dW (by decide +kernel)
def S8:Sp:=fun vs _ _ _=>vs.length=5/\False
theorem Xq:bU P w K mg base bo k f fd ["net","homes","stand","letters","goes"] S8:=⟨fun _ _ _ _ h=>h.2.elim,fun _ _ _ _ _ _ _ _ _ _ _ _ _ h=>h.2.elim⟩
def Ed(C CE CN CF CT CI CR PN PF PT PR:Addr):Sp:=fun vs H Q _=>∃ (L:iQ) (a px ha sa:Addr) (bt:Int) (jZ n:Nat) (ts:Ts) (homes:aQ) (st:bA) (ranks:dG),vs=[.ref a,.ref px,.ref ha,.ref sa,.int bt]/\jZ<6/\jZ≠4/\Rl CE CN CF CT CI CR ranks H jZ a/\dE C H L px n ts/\H ha=some (.tup (NV homes))/\H sa=some (.tup (st.map oV))/\lA n homes st/\0<=bt/\ranks.length=homes.length/\js PN PF PT PR H/\
 ∀ (t:Addr) (H':Hp) (m_:aQ),js PN PF PT PR H'->KQ PN PF PT PR H H'->m_.Perm (oZ st st.length)->m_.Pairwise (zx (Ea ts homes st bt ranks jZ))->H' t=some (.tup ((Lw n ts homes st m_).map oV))->Q (.ref t) H'
theorem Ol{f C CE CN CF CT CI CR PN PF PT PR:Addr}{fd:eA}(F:iI K "hand" "hand" Ln f fd)(B:Bl mg)(R:Xn P w K mg base C CE CN CF CT CI CR PN PF PT PR)(HT:d9 P w K mg base bo 1 "hand_in_turn" ["net","homes","stand","letters","goes"] S8)(HE:d9 P w K mg base bo 7 "hand_eagerly" ["net","homes","stand","letters","goes"] (S7 C)):
  bU P w K mg base bo 10 f fd ["rule","net","homes","stand","beat"] (Ed C CE CN CF CT CI CR PN PF PT PR):=by
 obtain⟨f1,d1,m1,b1,G1⟩:=R.oE.ex;obtain⟨f2,d2,m2,b2,G2⟩:=R.oN.ex;obtain⟨f3,d3,m3,b3,G3⟩:=R.oF.ex;obtain⟨f4,d4,m4,b4,G4⟩:=R.oT.ex;obtain⟨f5,d5,m5,b5,G5⟩:=R.oI.ex;obtain⟨f6,d6,m6,b6,G6⟩:=R.oR.ex;refine F.ok Ec (fun vs H Q E h=>?_) (fun fX A outer s H vs Q E hr h=>?_)
 .obtain⟨L,a,px,ha,sa,bt,jZ,n,ts,homes,st,ranks,rfl,_⟩:=h;rfl
 .obtain⟨L,a,px,ha,sa,bt,jZ,n,ts,homes,st,ranks,rfl,w6,w4,hR,N,hH,hS,LO,b0,S9,tb,q⟩:=h;have h1:df 1 _:=hr.mono (by decide);have h2:df 2 _:=hr.mono (by decide);have h7:df 7 _:=hr.mono (by decide);refine'⟨_,(ak (aW (i:=5) Ec.nd rfl aL (Bb (eZ (pv 0) R.e.cl m1 G1 h2 b1 .nil aM (aa (pv 1) (aa (pv 2) (aa (pv 3) (aa (pv 4) ag))))) (Bb (eZ (pv 0) R.n.cl m2 G2 hr b2 .nil aM (aa (pv 1) (aa (pv 2) (aa (pv 3) (aa (pv 4) ag))))) (Bb (eZ (pv 0) R.f.cl m3 G3 hr b3 .nil aM (aa (pv 1) (aa (pv 2) (aa (pv 3) (aa (pv 4) ag))))) (Bb (eZ (pv 0) R.t.cl m4 G4 hr b4 .nil aM (aa (pv 1) (aa (pv 2) (aa (pv 3) (aa (pv 4) ag))))) (Bb (eZ (pv 0) R.i.cl m5 G5 h2 b5 .nil aM (aa (pv 1) (aa (pv 2) (aa (pv 3) (aa (pv 4) ag))))) (eZ (pv 0) R.r.cl m6 G6 hr b6 .nil aM (aa (pv 1) (aa (pv 2) (aa (pv 3) (aa (pv 4) ag)))))))))))
   (ak (fE (i:=6) (g:=(bH 0)) (te:=(tC .cI)) (NB:=["home"]) (src:=[none]) (bz (by kernel_rfl)) rfl (Cu (pv 2)) ?g1 ?t1 ?e1 Ec.nd rfl rfl rfl)
   (ak (dS (jR (aJ Gr (by rfl) B.PL rM (aa (pv 0) (aa (tI (v:=.ref CI) rfl R.i.Nm rfl) ag)))) (av (cG (aH HT h1 aM (aa (pv 1) (aa (pv 2) (aa (pv 3) (aa (pv 5) (aa (pv 6) ag)))))))) (av (cG (aH HE h7 aM (aa (pv 1) (aa (pv 2) (aa (pv 3) (aa (pv 5) (aa (pv 6) ag)))))))))
   (av (bh (cU fh (by rfl) B.tup o4 (aa (pv 6) ag))))))),?_⟩
  case g1=>exact fun cl C s₃ H₃ fp=>(aA (i:=0) N9 rfl aL cW)
  case t1=>exact fun cl C s₃ H₃ fp=>dC
  case e1=>exact fun cl C s₃ H₃ fp=>ij
  refine Xm (CE:=CE) (CN:=CN) (CF:=CF) (CT:=CT) (CI:=CI) (CR:=CR) (L:=L) R.nd tb N hH hS LO b0 S9 w6 hR fun la H1 m_ t1 k1 la0 op pw t8=>?_;have kn:=k1.kn tb;have hH1:=kn _ _ hH nofun;have ins:∃dx fs,H px=some (.ins C dx fs):=let ⟨dx,fs,a,_⟩:=N.Oa;⟨dx,fs,a⟩;have N1:dE C H1 (fun b=>H1 b≠none) px n ts:=by
   obtain⟨dx,fs,a⟩:=ins;exact(N.Xf.keep (fun b o l e=>by obtain⟨_,o',e',n⟩:=l;rw[e] at e';cases e';exact kn b o e n) fun o e=>kn _ _ e (by rw[a] at e;cases e;exact fun ps z=>by cases z)).own
  refine⟨_,rfl,ha,rfl,⟨_,cu.of hH1⟩,fun ga hg=>?_⟩;refine vG (K:=K) (a:=ha) (xs:=NV homes) (fun i ys σ H2=>(∃x,σ=[x])/\aI H1 H2/\H2 ga=some (.lst ys)/\ys=List.replicate i V.cI) ⟨⟨_,rfl⟩,aj hg,ae,rfl⟩ (fun i ys σ H2 _ z=>cu.of (z.2.1 _ _ hH1)) ?_ ?_
  .rintro i x ys σ H2 Kt Kf hx ⟨⟨x',rfl⟩,sm,L_,rfl⟩ kt kf;have hi:i<homes.length:=by have:=(eR.mp hx).1;rwa [be] at this
   have:=LO.len;have:=LO.le;exact kt _ _ _ L_ (by rw[i_];exact bv (show i<17 by lia) (by decide)) ⟨⟨_,rfl⟩,bj sm hg,ae,by rw[uh]⟩
  rintro ys σ H2 ⟨_,sm,L_,rfl⟩;rw[be,LO.len,show V.cI=oV none from rfl,<-List.map_replicate] at L_;have wd:=(hR.kn kn).kn (fun b o e _=>sm b o e);obtain⟨tt,kt,ty⟩:=R.ty w6 wd;rw[gY w4] at kt;have Ir:=sm _ _ (kn _ _ hS nofun);refine⟨_,rfl,.ref a,CI,tt,false,rfl,kt,ty,_,rfl,?_⟩;refine jT ⟨_,rfl,_,rfl,_,rfl,_,rfl,_,rfl,fun b=>H1 b≠none,px,ha,sa,la,ga,n,ts,homes,m_,st,_,rfl,N1.same sm,fun z=>z hg,sm _ _ hH1,Ir,LO,fun l hl=>op.mem_iff.mp hl,sm _ _ t8,am t8 hg,L_,by rw[i_],fun H3 s3 hg3=>?_⟩;refine⟨_,rfl,ga,_,rfl,.inl ⟨a8.of hg3,fun t ht=>?_⟩⟩;have k3:∀b o,H1 b=some o->(upd H3 t (.tup ((Lw n ts homes st m_).map oV))) b=some o:=fun b o e=>aj ht _ _ (s3 _ _ (sm _ _ e) (am e hg));exact q t _ m_ (t1.same k3) (fun b o e n1 n2 n3 n4=>k3 _ _ (k1 b o e n1 n2 n3 n4)) op pw ae
end
end r9
namespace L2
open PySem PySem.Spec PyProof.Rows
section
variable {X:Cx} {pos:Pos}
def Xr(i j k:Nat)(ta:TA):TS:=fun D σ H=>ta σ H fun vs H1=>∃u v w,vs=[u,v,w]/\D.nx (((σ.set i (some u)).set j (some v)).set k (some w)) H1
theorem Om{kt k2 Es}(hc:X.calm=true)(hN:X.N.Nodup)(hi:X.N[i]?=some x)(hj:X.N[j]?=some y)(hk:X.N[k]?=some z)(zL:i≠j)(hik:i≠k)(hjk:j≠k)(hx:X.env.scope.names.lookup x=some .local)(hy:X.env.scope.names.lookup y=some .local)(hz:X.env.scope.names.lookup z=some .local)(ha:PA X [a,b,c] ta)(hw:swappedStores [.Tuple [.Name x px,.Name y py,.Name z pz] kt pt] (.Tuple [a,b,c] k2 Es) X.env=pure (some [x,y,z]))(hs:swapsWithSole [.Tuple [.Name x px,.Name y py,.Name z pz] kt pt] (.Tuple [a,b,c] k2 Es) pos.line X.env=pure false:=by rfl):
  PS X (.Assign [.Tuple [.Name x px,.Name y py,.Name z pz] kt pt] (.Tuple [a,b,c] k2 Es) pos) (Xr i j k ta):=by
 intro af s σ H D I h;rw[exec_Assign_arm];refine au (oj ?_);rw[hs];refine au (wpAny_pure ?_);rw[ao (by decide)];refine au (Tuple_ (eD (ha _ af s σ H _ I h) fun us s1 ⟨vs,H1,I1,r1,q1⟩=>?_));obtain⟨u,v,w,e1,q1⟩:=q1;subst e1;obtain⟨u1,u2,u3,rfl,ru,rv,vT⟩:∃u1 u2 u3,us=[u1,u2,u3]/\bW u u1/\bW v u2/\bW w u3:=by
  cases r1 with
  |cons p q=>
   cases q with
   |cons p' q'=>
    cases q' with
    |cons p'' q''=>
     cases q'';exact⟨_,_,_,rfl,p,p',p''⟩
 refine kK ?_ (by show 3<=sizeLine;decide);have I2:aU X af σ H1 { s1 with heap:=s1.heap.push { cls:=.type "tuple",data:=.seq [u1,u2,u3].toArray } }:=I1.kept (t':=s1.toks) fun b o e=>bP _ e;rw[hw];refine au (wpAny_pure ?_);show wpAny (model X.prog X.w) X.A (do rule "assign.swapped-stores";let items <- unpackItems (.ref s1.heap.objs.size) 3 none;assignInOrder [fun v=>bindName X.env z v,fun v=>bindName X.env y v,fun v=>bindName X.env x v] items.reverse;pure Flow.next) _ _ _;refine au (fv (au (unpackItems_tuple (items:=#[u1,u2,u3]) (I.ok.hd hc) (IsTup.new s1.heap _) fun h' qU=>?_)));have I3:=I2.kept (h':=h') (t':=s1.toks) fun b o e=>qU b o (bf (aS e)) e;show wpAny _ _ (assignInOrder [fun v=>bindName X.env z v,fun v=>bindName X.env y v,fun v=>bindName X.env x v] [u3,u2,u1] >>= fun _=>pure Flow.next) _ _ _;refine au (qG (uI (ir I3 hN hk (.inl hz) vT (fun s2 I4=>?_) (.inr hz))));refine qG (uI (ir I4 hN hj (.inl hy) rv (fun s3 I5=>?_) (.inr hy)));refine qG (uI (ir I5 hN hi (.inl hx) ru (fun s4 I6=>assignInOrder_nil (wpAny_pure ?_)) (.inr hx)));rw[xL _ _ (dI hjk),xL _ _ (dI hik),xL _ _ (dI zL)] at I6;exact⟨_,H1,I6,q1⟩
end
end L2
namespace r9
open PySem L2 ln
abbrev LA:Stmt:=top 55
abbrev Ee:Stmt:=top 56
abbrev LB:Stmt:=top 57
abbrev sIH:Stmt:=top 58
theorem mI:(["_law_other","_law_house","_law_taken"]:bQ).Nodup:=by decide +kernel
theorem iK:(["_law_other","_law_far_here","_law_home","_law_house"]:bQ).Nodup:=by decide +kernel
theorem S_:(["_law_one"]:bQ).Nodup:=by decide +kernel
theorem Ta:WE X H 0 (oV o) (oV o):=by
 cases o with
 |none=>exact fun af s σ A u v I hu rx ry=>x_ (A:=A) (s:=s) (y:=.cI) (x:=.cI) rx ry rfl rfl
 |some y=>exact NG
theorem On{X:Cx}{H:Hp}{os:bA}:∀i,i<(os.map oV).length->i<(os.map oV).length->WE X H 0 ((os.map oV).getD i .cI) ((os.map oV).getD i .cI):=fun i h _=>by
 rw[cw,cz h,qC,uA];exact Ta
theorem Oo(hu:X.A.units+2<cLine):nr X (compareOp .Eq) (WF X false 0):=NH (d:=0) (by lia)
theorem zi:W.kitOne K (.type "NoneType") (.type "bool")=some false:=by kernel_rfl
section
variable {P:bL} {w:World} {K:a_} {mg:cr} {base:Heap}
theorem Tb:aN ["_law_house","_law_some","_law_taken"] ["_law_house","_law_some","_law_taken"] (aw LA):=dW (by decide +kernel)
def Ef:Sp:=fun vs H Q _=>∃ (y:Nat) (l z:Addr) (os:aQ) (zs:Zs),vs=[.int (y:Nat),.ref l,.ref z]/\H l=some (.lst (NV os))/\os.length<=1000/\H z=some (.lst (zr zs))/\PO H zs/\∀ (r:Addr) (H':Hp),aI H H'->H r=none->H' r=some (.lst (NV (os.filter fun h=>!decide ((ci y,ci h)∈zp zs))))->Q (.ref r) H'
theorem Op(F:iI K "_law_free" "_law_free" LA f fd):bU P w K mg base bo 1 f fd ["_law_house","_law_some","_law_taken"] Ef:=by
 refine F.ok Tb (fun vs H Q E h=>?_) (fun fX A outer s H vs Q E hr h=>?_)
 .obtain⟨y,l,z,os,zs,rfl,_⟩:=h;rfl
 .obtain⟨y,l,z,os,zs,rfl,hl,ol,hz,po,q⟩:=h;refine'⟨_,(av (bh ?c1)),?_⟩;case c1=>
   refine' cQ (g:=(bH 0)) (tt:=(pA (jS (Rj K true) (sG (bJ (bb 1) (bJ (bb 0) h_))) (bb 2)))) (te:=(bb 0)) (NB:=["_law_other","_law_house","_law_taken"]) (src:=[none,some 0,some 2]) (bz (by kernel_rfl)) rfl (bN (pv 1)) ?g ?t ?e;case g=>exact fun cl C s₃ H₃ fp=>(aA (i:=0) mI rfl aL cW)
   case t=>exact fun cl C s₃ H₃ fp=>g8 (aY (mR hr.u) (bT (aa (pv 1) (aa (pv 0) ag))) (pv 2) rfl)
   case e=>exact fun cl C s₃ H₃ fp=>(pv 0)
  refine⟨_,rfl,l,rfl,⟨_,a8.of hl⟩,fun D hD=>?_⟩;refine yR os (fun (x:Nat)=>V.int (x:Int)) (fun h=>!decide ((ci y,ci h)∈zp zs)) (fun σ=>∃a,σ=[a,some (.int (y:Nat)),some (.ref z)]) hl hD ol ⟨_,rfl⟩ ?_ ?_
  .rintro x σ H2 Kt Kf hx ⟨a,rfl⟩ sm kt kf;refine⟨_,rfl,_,rfl,by show 2<=sizeLine;decide,fun t ht=>?_⟩;have st:=aj (o:=.tup [.int (y:Nat),.int (x:Nat)]) ht;obtain⟨l1,l2⟩:=Fm (K:=K) ((po.same sm).same st);refine⟨_,rfl,t,z,(ci y,ci x),zs.map (·.1),zp zs,rfl,rfl,cu.of ae,?_,?_,l2,_,rfl,?_⟩
   .rw[<-iY];exact a8.of (st _ _ (sm _ _ hz))
   .rw[aT];exact l1
   rw[ap rfl];refine gU (fun e=>?_) (fun e=>?_)
   .exact⟨_,rfl,kt _ _ ⟨_,rfl⟩ st e⟩
   .exact kf _ _ ⟨_,rfl⟩ st (by simpa using e)
  .intro H2 sm h2;exact q D H2 sm hD h2
theorem Oq:aN ["_law_outs_here","_law_far_here","_law_house","_law_home"] ["_law_outs_here","_law_far_here","_law_house","_law_home"] (aw Ee):=dW (by decide +kernel)
def zj:Sp:=fun vs H Q _=>∃ (oa fa:Addr) (n i j:Nat) (ts:Ts) (L L':iQ),vs=[.ref oa,.ref fa,.int (i:Nat),.int (j:Nat)]/\cJ n ts/\bK H L oa n (bX n ts)/\bK H L' fa n (fun h=>(List.range n).map (far ts h))/\i<n/\j<n/\∀ (r:Addr) (H':Hp),aI H H'->H' r=some (.lst (NV (iU n ts i j)))->Q (.ref r) H'
theorem LC(F:iI K "_law_good" "_law_good" Ee f fd):bU P w K mg base bo 1 f fd ["_law_outs_here","_law_far_here","_law_house","_law_home"] zj:=by
 refine F.ok Oq (fun vs H Q E h=>?_) (fun fX A outer s H vs Q E hr h=>?_)
 .obtain⟨oa,fa,n,i,j,ts,L,L',rfl,_⟩:=h;rfl
 .obtain⟨oa,fa,n,i,j,ts,L,L',rfl,fi,RO,RF,hi,hj,q⟩:=h;have n2:=fi.n2;refine'⟨_,(av (bh ?c1)),?_⟩;case c1=>
   refine' cQ (g:=(bH 0)) (tt:=(pA (jS (zR fun i j=>.bl (decide (i<j))) (jS (sI K) (jS (sI K) (bb 1) (bb 0)) (bb 2)) (jS (sI K) (jS (sI K) (bb 1) (bb 3)) (bb 2))))) (te:=(bb 0)) (NB:=["_law_other","_law_far_here","_law_home","_law_house"]) (src:=[none,some 1,some 3,some 2]) (bz (by kernel_rfl)) rfl (bN (aX aG (pv 0) (pv 2) (fun _ _=>rfl))) ?g ?t ?e;case g=>exact fun cl C s₃ H₃ fp=>(aA (i:=0) iK rfl aL cW)
   case t=>exact fun cl C s₃ H₃ fp=>g8 (aY nw (aX aG (aX aG (pv 1) (pv 0) (fun _ _=>rfl)) (pv 2) (fun _ _=>rfl)) (aX aG (aX aG (pv 1) (pv 3) (fun _ _=>rfl)) (pv 2) (fun _ _=>rfl)) (bp _))
   case e=>exact fun cl C s₃ H₃ fp=>(pv 0)
  obtain⟨bs,b,r1,r2,r3,_⟩:=RO.row hi;have hg:∀v,(NV ((List.range n).map (far ts v)))[j]?=some (.int (far ts v j:Nat)):=fun v=>by
   rw[cA,cA,f_ hj];rfl
  obtain⟨bi,b0,i1,i2,i3,_⟩:=RF.row hi;refine⟨_,rfl,_,rfl,oa,_,_,_,rfl,rfl,a8.of r1,aD r2,b,rfl,⟨_,a8.of r3⟩,fun D hD=>?_⟩;refine yR (bX n ts i) (fun (x:Nat)=>V.int (x:Int)) (fun o=>decide (far ts o j<far ts i j)) (fun σ=>∃a,σ=[a,some (.ref fa),some (.int (j:Nat)),some (.int (i:Nat))]) r3 hD (aZ qc (by lia)) ⟨_,rfl⟩ ?_ ?_
  .rintro x σ H2 Kt Kf hx ⟨a,rfl⟩ sm kt kf;obtain⟨bs2,b2,q1,q2,q3,_⟩:=RF.row (tV fi hi hx);refine⟨_,rfl,_,rfl,fa,_,_,_,rfl,rfl,a8.of (sm _ _ q1),aD q2,_,rfl,b2,_,_,_,rfl,rfl,a8.of (sm _ _ q3),aD (hg x),_,rfl,_,rfl,fa,_,_,_,rfl,rfl,a8.of (sm _ _ i1),aD i2,_,rfl,b0,_,_,_,rfl,rfl,a8.of (sm _ _ i3),aD (hg i),_,_,rfl,rfl,_,rfl,?_⟩;refine gU (fun e=>?_) (fun e=>?_)
   .exact⟨_,rfl,kt _ _ ⟨_,rfl⟩ (aI.refl _) (by simp at e |-;lia)⟩
   .exact kf _ _ ⟨_,rfl⟩ (aI.refl _) (by simp at e |-;lia)
  .intro H2 sm h2;exact q D H2 sm h2
theorem aaH:aN ["_law_told","_law_due"] ["_law_told","_law_due"] (aw sIH):=dW (by decide +kernel)
def Tc:Sp:=fun vs H Q _=>∃ (a b:Addr) (os:bA),vs=[.ref a,.ref b]/\H a=some (.tup (os.map oV))/\H b=some (.tup (os.map oV))/\os.length<=16/\∀H',aI H H'->Q (.bl true) H'
theorem Xs{f:Addr}{fd:eA}(F:iI K "_law_is_handing" "_law_is_handing" sIH f fd)(B:Bl mg):bU P w K mg base bo 1 f fd ["_law_told","_law_due"] Tc:=by
 refine F.ok aaH (fun vs H Q E h=>?_) (fun fX A outer s H vs Q E hr h=>?_)
 .obtain⟨a,b,os,rfl,_⟩:=h;rfl
 .obtain⟨a,b,os,rfl,ha,hb,ol,q⟩:=h;refine'⟨_,(av (bh (l6 (aJ jg (by rfl) B.PL rM (aa (pv 0) (aa (k4 (v:=.ty "tuple") rfl B.tup o4 rfl) ag))) (l6 (pq (Oo hr.u) (pv 0) (pv 1) (bp _)) (qT (IU (aJ (wP rfl) (by rfl) B.any PyProof.Rows.boot_any (aa ?c1 ag)))))))),?_⟩;case c1=>
   refine' cQ (g:=(bH 0)) (te:=Vp (VD K) (bJ (bb 0) (bJ (tC (.ty "bool")) h_))) (NB:=["_law_one"]) (src:=[none]) (bz (by kernel_rfl)) rfl (Cu (pv 0)) ?g ?t ?e;case g=>exact fun cl C s₃ H₃ fp=>(aA (i:=0) S_ rfl aL cW)
   case t=>exact fun cl C s₃ H₃ fp=>dC
   case e=>exact fun cl C s₃ H₃ fp=>(aJ jg (by rfl) B.PL rM (aa (pv 0) (aa (k4 (v:=.ty "bool") rfl B.bool PyProof.Rows.boot_bool rfl) ag)))
  refine⟨_,rfl,_,_,_,.type "tuple",true,rfl,⟨rfl,yC⟩,.of (.tup ha),true,rfl,?_⟩;refine vY ⟨_,rfl,_,rfl,a,b,_,_,rfl,rfl,cu.of ha,cu.of hb,rfl,On,_,rfl,vY ?_⟩;refine⟨_,rfl,a,rfl,⟨_,cu.of ha⟩,fun D hD=>?_⟩;refine vG (K:=K) (a:=a) (xs:=os.map oV) (fun i ys σ H2=>(∃x,σ=[x])/\aI H H2/\H2 D=some (.lst ys)/\ys=(List.replicate i false).map V.bl) ⟨⟨_,rfl⟩,aj hD,ae,rfl⟩ (fun i ys σ H2 _ z=>cu.of (z.2.1 _ _ ha)) ?_ ?_
  .rintro i x ys σ H2 Kt Kf hx ⟨⟨x',rfl⟩,sm,jz,rfl⟩ kt kf;obtain⟨hi,rfl⟩:=DW hx;have d_:=kt (.bl false) [some (oV (os.getD i none))] H2 jz (by rw[aT,i_];exact bv (show i<17 by lia) (by decide)) ⟨⟨_,rfl⟩,bj sm hD,ae,by rw[uh,dt];rfl⟩;cases e:os.getD i none with
   |none=>rw[e] at d_;exact⟨_,rfl,_,_,_,.type "NoneType",false,rfl,⟨rfl,zi⟩,.of .cI,d_⟩
   |some y=>rw[e] at d_;exact⟨_,rfl,_,_,_,.type "int",false,rfl,⟨rfl,pU⟩,.of (.int _),d_⟩
  .rintro ys σ H2 ⟨_,sm,jz,rfl⟩;refine⟨D,_,rfl,a8.of jz,_,rfl,?_⟩;have e:(List.replicate (os.map oV).length false).any id=false:=by
    rw[ux];intro x qU;rw[(BZ.mp qU).2];decide
   rw[e];exact q _ sm
theorem LD{g:bA}{l:Nat}(h:g.getD l none=none):g.set l ([]:aQ).head?=g:=by
 show g.set l none=g;apply lL;intro i;rw[uv];by_cases c:l=i
 .subst c;rw[ap rfl];split
  .rename_i d;rw[yU (d:=none) d,h]
  .rename_i d;rw[f9 (by lia)]
 .rw[ao c]
theorem mJ:aN ["_law_order_here","_law_outs_here","_law_far_here","_law_homes","_law_stand","_law_at_once","_law_goals","_law_taken","_law_late","_law_letter","_law_house","_law_free_here"] ["_law_order_here","_law_outs_here","_law_far_here","_law_homes","_law_stand","_law_at_once"] (aw LB):=dW (by decide +kernel)
def Eg:Sp:=fun vs H Q _=>∃ (la oa fa ha sa:Addr) (n:Nat) (ts:Ts) (L L':iQ) (homes os:aQ) (st:bA),vs=[.ref la,.ref oa,.ref fa,.ref ha,.ref sa,.bl false]/\H la=some (.lst (NV os))/\os.Perm (oZ st st.length)/\cJ n ts/\bK H L oa n (bX n ts)/\L oa/\bK H L' fa n (fun h=>(List.range n).map (far ts h))/\L' fa/\H ha=some (.tup (NV homes))/\H sa=some (.tup (st.map oV))/\lA n homes st/\kI n ts homes st/\
 ∀ (t:Addr) (H':Hp),aI H H'->H' t=some (.tup ((Lw n ts homes st os).map oV))->Q (.ref t) H'
theorem Os{f:Addr}{fd:eA}(F:iI K "_law_walk" "_law_walk" LB f fd)(B:Bl mg)(FR:d9 P w K mg base bo 1 "_law_free" ["_law_house","_law_some","_law_taken"] Ef)(GD:d9 P w K mg base bo 1 "_law_good" ["_law_outs_here","_law_far_here","_law_house","_law_home"] zj):bU P w K mg base bo 2 f fd ["_law_order_here","_law_outs_here","_law_far_here","_law_homes","_law_stand","_law_at_once"] Eg:=by
 refine F.ok mJ (fun vs H Q E h=>?_) (fun fX A outer s H vs Q E hr h=>?_)
 .obtain⟨la,oa,fa,ha,sa,n,ts,L,L',homes,os,st,rfl,_⟩:=h;rfl
 .obtain⟨la,oa,fa,ha,sa,n,ts,L,L',homes,os,st,rfl,hL,pm,fi,RO,hLo,RF,hLf,hH,hS,LO,SD,q⟩:=h;have n2:=fi.n2;have al:=FM SD pm;have ndo:=Lx pm;have ol:os.length<=16:=by rw[pm.length_eq];exact aZ jC LO.le
  refine⟨_,(ak (Om (i:=6) (j:=7) (k:=8) rfl mJ.nd rfl rfl rfl (by decide) (by decide) (by decide) rfl rfl rfl (aa (a9 yf (cH (aa ij ag)) (aJ aV (by rfl) B.len fc (aa (pv 4) ag))) (aa (cH ag) (aa (cH ag) ag))) (by rfl))
   (ak (du eI rfl (bN (pv 0)) (aA (i:=9) mJ.nd rfl aL)
    (ak (aW (i:=10) mJ.nd rfl aL (aX eN (pv 4) (pv 9) (fun _ _=>rfl)))
    (ak (aW (i:=11) mJ.nd rfl aL (aH FR hr aM (aa (pv 10) (aa (aH GD hr aM (aa (pv 1) (aa (pv 2) (aa (pv 10) (aa (aX eN (pv 3) (pv 9) (fun _ _=>rfl)) ag))))) (aa (pv 7) ag)))))
    (ak (dS (PW.pt (xU (aY (JD (e:=uY) hr.u) (pv 11) (cH ag) (bp _)) (tJ (jR (pv 5))))) (av (aW (i:=11) mJ.nd rfl aL (aH FR hr aM (aa (pv 10) (aa (aX aG (pv 1) (pv 10) (fun _ _=>rfl)) (aa (pv 7) ag)))))) b8)
    (av (dS (aY (JD (e:=uY) hr.u) (pv 11) (cH ag) (bp _)) (av (cG (gQ gy i9 i8 cV (pv 8) (aa (pv 9) ag)))) (ak (d8 (aX aG (pv 11) az (fun _ _=>rfl)) (gx (pv 6) (pv 9) dY))
     (av (cG (gQ gy i9 i8 cV (pv 7) (aa (bT (aa (pv 10) (aa (aX aG (pv 11) az (fun _ _=>rfl)) ag))) ag)))))))))))
   (ak (du eI rfl (bN (pv 8)) (aA (i:=9) mJ.nd rfl aL)
    (ak (aW (i:=11) mJ.nd rfl aL (aH FR hr aM (aa (aX eN (pv 4) (pv 9) (fun _ _=>rfl)) (aa (aX aG (pv 1) (aX eN (pv 4) (pv 9) (fun _ _=>rfl)) (fun _ _=>rfl)) (aa (pv 7) ag)))))
    (ak (d8 (aX aG (pv 11) az (fun _ _=>rfl)) (gx (pv 6) (pv 9) dY))
    (av (cG (gQ gy i9 i8 cV (pv 7) (aa (bT (aa (aX eN (pv 4) (pv 9) (fun _ _=>rfl)) (aa (aX aG (pv 11) az (fun _ _=>rfl)) ag))) ag)))))))
   (av (bh (cU fh (by rfl) B.tup o4 (aa (pv 6) ag))))))),?_⟩
  refine⟨by show 1<=sizeLine;decide,fun L1 t8=>⟨_,rfl,sa,_,rfl,.inr (cu.of (aj t8 _ _ hS)),L1,_,_,rfl,rfl,ae,by lia,by rw[aT];have:=LO.le;lia,by rw[aT,lO,gE];exact aZ (show _<=16 by have:=LO.le;lia) (by decide),fun G hG=>?_⟩⟩;rw[gE,aT,mw,show V.cI=oV none from rfl,<-List.map_replicate];refine⟨by show 0<=sizeLine;decide,fun Tn UH=>⟨by show 0<=sizeLine;decide,fun Lt Xt=>⟨_,_,_,rfl,?_⟩⟩⟩;have s1:=aj (o:=.lst [oV none]) t8;have s2:=aj (o:=.lst ((List.replicate st.length none).map oV)) hG;have s3:=aj (o:=.lst []) UH;have s4:=aj (o:=.lst []) Xt;have sA:=((s1.trans s2).trans s3).trans s4;have gG:=s4 _ _ (s3 _ _ ae);have gT:=s4 _ _ ae;have gL:=(ae:(upd (upd (upd (upd H L1 (.lst [oV none])) G (.lst ((List.replicate st.length none).map oV))) Tn (.lst [])) Lt (.lst [])) Lt=_)
  have Zg:G≠Tn:=am ae UH;have nGL:G≠Lt:=am (s3 _ _ ae) Xt;have nTL:Tn≠Lt:=am ae Xt;have fG:H G=none:=s1.free hG;have fT:H Tn=none:=(s1.trans s2).free UH;have fL:H Lt=none:=((s1.trans s2).trans s3).free Xt;generalize upd (upd (upd (upd H L1 (.lst [oV none])) G (.lst ((List.replicate st.length none).map oV))) Tn (.lst [])) Lt (.lst [])=H0 at *;clear Xt UH hG s1 s2 s3 s4;refine⟨_,rfl,la,rfl,⟨_,a8.of (sA _ _ hL)⟩,eM (K:=K) (xs:=NV os) (fun j σ Hc=>∃zs:Zs,(∃x9 Fx HR,σ=[some (.ref la),some (.ref oa),some (.ref fa),some (.ref ha),some (.ref sa),some (.bl false),some (.ref G),some (.ref Tn),some (.ref Lt),x9,Fx,HR])/\aI H Hc/\Hc G=some (.lst (((os.take j).foldl (sr n ts homes st) (List.replicate st.length none)).map oV))/\Hc Tn=some (.lst (zr zs))/\PO Hc zs/\zs.length<=j/\Hc Lt=some (.lst (NV ((os.take j).filter fun l=>decide (((os.take j).foldl (sr n ts homes st) (List.replicate st.length none)).getD l none=none))))/\SY st ((os.take j).foldl (sr n ts homes st) (List.replicate st.length none)) (zp zs)) ⟨[],⟨_,_,_,rfl⟩,sA,gG,gT,PO.nil,cp _,gL,fun y h=>?_⟩ (fun j σ Hc _ ⟨zs,z⟩=>a8.of (z.2.1 _ _ hL)) ?_ ?_⟩
  .constructor
   .intro z;cases z
   .rintro⟨a,_,_,e⟩;rw[List.take_zero,uF,zg] at e;cases e
  .clear sA gG gT gL;rintro j x σ Hc hx ⟨zs,⟨x9,Fx,HR,rfl⟩,sc,qf,Fy,po,zl,HL,tk⟩;obtain⟨l,hv,rfl⟩:=p6 hx;have hj:j<16:=by have:=(eR.mp hv).1;lia
   obtain⟨hl,y,ey,hy,HP⟩:=LO.at (pm.mem_iff.mp (dz hv));have tj:os.take (j+1)=os.take j++[l]:=by rw[gW,hv];rfl
   have nd:(os.take (j+1)).Nodup:=ndo.sublist (xB _ _);rw[tj] at nd;have nj:l∉os.take j:=fun z=>(j7.mp nd).2.2 l z l cK rfl;have lt:∀x∈os.take j,x<st.length:=fun x hx=>let ⟨_,a,_⟩:=al x (o_ hx);a;have en:((os.take j).foldl (sr n ts homes st) (List.replicate st.length none)).getD l none=none:=(fold_at (f:=fun g l=>ng st g l (iU n ts ((st.getD l none).getD 0) (homes.getD l 0))) (fun x hx=>by rw[i_];exact lt x hx) nj).trans zg;have Iu:((os.take j).foldl (sr n ts homes st) (List.replicate st.length none)).length=st.length:=by rw[qe,i_]
   rw[tj,xC,iN,uF,ic];generalize (os.take j).foldl (sr n ts homes st) (List.replicate st.length none)=g at *;have Iv:sr n ts homes st g l=g.set l (ng st g l (iU n ts y (homes.getD l 0))):=by unfold sr;rw[ey];rfl
   rw[ffT tk ey] at Iv;have efl:(os.take j).filter (fun a=>decide ((sr n ts homes st g l).getD a none=none))=(os.take j).filter fun a=>decide (g.getD a none=none):=B5 fun a ha=>by rw[Iv,jY (by rw[Iu];exact hl),ao (by rintro rfl;exact nj ha)]
   rw[efl];have lg:(iU n ts y (homes.getD l 0)).length<=n:=aZ (iL _ _) qc;have N8:=sc _ _ hH;have vQ:=sc _ _ hS;have lfl:((os.take j).filter fun a=>decide (g.getD a none=none)).length<=j:=aZ (iL _ _) (xy _ _);refine⟨_,rfl,_,rfl,sa,_,_,_,rfl,rfl,cu.of vQ,aD (kJ hl),?_⟩;rw[ey];refine⟨_,rfl,_,rfl,_,rfl,_,rfl,_,rfl,_,rfl,ha,_,_,_,rfl,rfl,cu.of N8,aD (iT (by rw[LO.len];exact hl)),oa,fa,n,y,homes.getD l 0,ts,L,L',rfl,fi,RO.keep hLo (fun b o _ e=>sc b o e),RF.keep hLf (fun b o _ e=>sc b o e),hy,HP,fun r1 H1 s1 DE=>?_⟩;refine⟨_,rfl,y,r1,Tn,_,zs,rfl,DE,by lia,s1 _ _ Fy,po.same s1,fun r2 H2 s2 Pg Bu=>?_⟩;have Ux:=s1.trans s2;have WB:=s1.free Pg;refine⟨_,rfl,by show 0<=sizeLine;decide,fun e hE=>?_⟩;have sE:=aj (o:=.lst []) hE;refine⟨r2,e,_,[],rfl,rfl,a8.of (sE _ _ Bu),a8.of ae,fun i h1 h2=>absurd h2 (n9 _),_,rfl,?_⟩;rw[ao di,HB];have sF:=Ux.trans sE;cases hF:(iU n ts y (homes.getD l 0)).filter fun h=>!decide ((ci y,ci h)∈zp zs) with
   |nil=>
    rw[hF] at Bu Iv;rw[show sr n ts homes st g l=g by rw[Iv];exact LD en] at *;refine xc rfl ⟨_,rfl,_,rfl,jT ⟨_,rfl,by show 0<=sizeLine;decide,fun e2 Zh=>?_⟩⟩;have Td:=aj (o:=.lst []) Zh;refine⟨r2,e2,[],[],rfl,rfl,a8.of (Td _ _ (sE _ _ Bu)),a8.of ae,fun i h1 h2=>absurd h2 (n9 _),_,rfl,xc rfl ?_⟩;have s4:=sF.trans Td;refine⟨_,rfl,.inl ⟨rfl,_,a8.of (s4 _ _ HL)⟩,_,rfl,Lt,_,_,rfl,rfl,s4 _ _ HL,by rw[be];exact eK lfl (bv (show j<16 by lia) (by decide)),?_⟩;refine⟨zs,⟨_,_,_,rfl⟩,bj (sc.trans s4) fL,by rw[aq nGL];exact s4 _ _ qf,by rw[aq nTL];exact s4 _ _ Fy,PO.putL (po.same s4) (s4 _ _ HL),by lia,?_,tk⟩;rw[ae,List.filter_cons_of_pos (p:=fun a=>decide (g.getD a none=none)) (iO en),Cd];unfold NV;rw[dt];rfl
   |cons x Vm=>
    rw[hF] at Bu Iv;rw[List.head?_cons] at Iv;refine sg rfl (sg rfl ⟨_,rfl,by show 0<=sizeLine;decide,fun e2 Zh=>?_⟩);have Td:=aj (o:=.lst []) Zh;refine⟨r2,e2,_,[],rfl,rfl,a8.of (Td _ _ (sE _ _ Bu)),a8.of ae,fun i h1 h2=>absurd h2 (n9 _),_,rfl,sg rfl ?_⟩;have s4:=sF.trans Td;have h4:=Td _ _ (sE _ _ Bu);have n3:r2≠G:=fun z=>by rw[z,qf] at WB;cases WB
    clear sE hE Td Zh DE s1 Bu s2 Ux Pg WB sF;generalize upd (upd H2 e _) e2 _=H4 at *;rw[Iv];refine⟨_,rfl,r2,_,0,oV (some x),rfl,rfl,a8.of h4,aD (j:=0) rfl,?_⟩;refine⟨_,rfl,_,rfl,G,_,(l:Int),l,rfl,rfl,s4 _ _ qf,eJ (by rw[aT,Iu];exact hl),?_⟩;rw[<-xN];have s5:aI H (upd H4 G (.lst ((g.set l (some x)).map oV))):=bj (sc.trans s4) fG;have g5:(upd H4 G (.lst ((g.set l (some x)).map oV))) G=_:=ae;have t5:(upd H4 G (.lst ((g.set l (some x)).map oV))) Tn=some (.lst (zr zs)):=by rw[aq Zg.symm];exact s4 _ _ Fy
    have l5:(upd H4 G (.lst ((g.set l (some x)).map oV))) Lt=some (.lst (NV ((os.take j).filter fun a=>decide (g.getD a none=none)))):=by rw[aq nGL.symm];exact s4 _ _ HL
    have h5:(upd H4 G (.lst ((g.set l (some x)).map oV))) r2=some (.lst (NV (x::Vm))):=by rw[aq n3];exact h4
    have Iq:PO (upd H4 G (.lst ((g.set l (some x)).map oV))) zs:=PO.putL (po.same s4) (s4 _ _ qf);generalize upd H4 G _=H5 at *;refine⟨_,rfl,.inl ⟨rfl,_,a8.of t5⟩,_,rfl,_,rfl,r2,_,0,V.int (x:Nat),rfl,rfl,a8.of h5,aD (j:=0) rfl,by show 2<=sizeLine;decide,fun t ht=>?_⟩;have aF:=aj (o:=oY (ci y,ci x)) ht;refine⟨Tn,_,_,rfl,rfl,aF _ _ t5,by rw[dZ];exact eK zl (bv (show j<16 by lia) (by decide)),?_⟩;refine⟨zs++[(t,(ci y,ci x))],⟨_,_,_,rfl⟩,bj (s5.trans aF) fT,by rw[aq Zg];exact aF _ _ g5,by rw[ae,eO];rfl,PO.putL (xs:=zr zs) ((Iq.same aF).append (PO.one ae)) (aF _ _ t5),by rw[dh];exact xD zl,?_,?_⟩
    .rw[aq nTL.symm,List.filter_cons_of_neg (p:=fun a=>decide ((g.set l (some x)).getD a none=none)) (by rw[jY (by rw[Iu];exact hl),ap rfl];simp),Cd,jI];exact aF _ _ l5
    .rw[eQ];exact tk.put Iu hl ey en
  .rintro σ Hc ⟨zs,⟨x9,Fx,HR,rfl⟩,sc,qf,Fy,po,zl,HL,tk⟩;rw[be,ja] at *;have gl1:(os.foldl (sr n ts homes st) (List.replicate st.length none)).length=st.length:=by rw[qe,i_]
   have d_:Lw n ts homes st os=_:=rJ (n:=n) (ts:=ts) (st:=st) (g:=os.foldl (sr n ts homes st) (List.replicate st.length none)) ndo (fun l hl=>by rw[gl1];obtain⟨_,a,_⟩:=al l hl;exact a);rw[d_] at q;clear d_;generalize os.foldl (sr n ts homes st) (List.replicate st.length none)=g1 at *;have lm:∀l∈os.filter (fun l=>decide (g1.getD l none=none)),l∈os/\g1.getD l none=none:=fun l hl=>let ⟨a,b⟩:=gb.mp hl;⟨a,fu b⟩;have ndl:(os.filter fun l=>decide (g1.getD l none=none)).Nodup:=ndo.filter _;have ll:(os.filter fun l=>decide (g1.getD l none=none)).length<=16:=aZ (iL _ _) ol;generalize os.filter (fun l=>decide (g1.getD l none=none))=lt at *;refine⟨_,rfl,Lt,rfl,⟨_,a8.of HL⟩,eM (K:=K) (xs:=NV lt) (fun j σ H2=>∃zs:Zs,(∃x9 HR,σ=[some (.ref la),some (.ref oa),some (.ref fa),some (.ref ha),some (.ref sa),some (.bl false),some (.ref G),some (.ref Tn),some (.ref Lt),x9,Fx,HR])/\aI H H2/\H2 G=some (.lst (((lt.take j).foldl (HQ n ts st) g1).map oV))/\H2 Tn=some (.lst (zr zs))/\PO H2 zs/\zs.length<=16+j/\H2 Lt=some (.lst (NV lt))/\SY st ((lt.take j).foldl (HQ n ts st) g1) (zp zs)) ⟨zs,⟨_,_,rfl⟩,sc,qf,Fy,po,by lia,HL,tk⟩ (fun j σ H2 _ ⟨zs,z⟩=>a8.of z.2.2.2.2.2.2.1) ?_ ?_⟩
   .clear sc qf Fy po zl HL tk;rintro j x σ Hc hx ⟨zs,⟨x9,HR,rfl⟩,sc,qf,Fy,po,zl,HL,tk⟩;obtain⟨l,hv,rfl⟩:=p6 hx;have hj:j<16:=by have:=(eR.mp hv).1;lia
    obtain⟨lo,en1⟩:=lm l (dz hv);obtain⟨hl,y,ey,hy,HP⟩:=LO.at (pm.mem_iff.mp lo);have tj:lt.take (j+1)=lt.take j++[l]:=by rw[gW,hv];rfl
    have nd:(lt.take (j+1)).Nodup:=ndl.sublist (xB _ _);rw[tj] at nd;have nj:l∉lt.take j:=fun z=>(j7.mp nd).2.2 l z l cK rfl;have en:((lt.take j).foldl (HQ n ts st) g1).getD l none=none:=(fold_at (f:=fun g l=>ng st g l (bX n ts ((st.getD l none).getD 0))) (fun x hx=>by rw[gl1];obtain⟨_,a,_⟩:=al x (lm x (o_ hx)).1;exact a) nj).trans en1;have Iu:((lt.take j).foldl (HQ n ts st) g1).length=st.length:=by
     have:∀ {ls:aQ} {g:bA},(ls.foldl (HQ n ts st) g).length=g.length:=fun {ls}=>by
      induction ls with
      |nil=>intro g;rfl
      |cons j ls ih=>intro g;rw[iN,ih];unfold HQ;rw[jb]
     rw[this,gl1]
    rw[tj,xC,iN,uF];generalize (lt.take j).foldl (HQ n ts st) g1=g at *;have Iv:HQ n ts st g l=g.set l (ng st g l (bX n ts y)):=by unfold HQ;rw[ey];rfl
    rw[ffT tk ey] at Iv;have ne:=Og SD tk hl ey en hy;have lo':=qc (n:=n) (ts:=ts) (h:=y);have vQ:=sc _ _ hS;obtain⟨bs,b,r1,r2',r3,_⟩:=(RO.keep hLo (fun b o _ e=>sc b o e)).row hy;refine⟨_,rfl,_,rfl,sa,_,_,_,rfl,rfl,cu.of vQ,aD (kJ hl),?_⟩;rw[ey];refine⟨_,rfl,_,rfl,_,rfl,sa,_,_,_,rfl,rfl,cu.of vQ,aD (kJ hl),?_⟩;rw[ey];refine⟨oa,_,_,_,rfl,rfl,a8.of r1,aD r2',_,rfl,y,b,Tn,_,zs,rfl,r3,by lia,Fy,po,fun r2 H2 s2 Pg Bu=>?_⟩;cases hF:(bX n ts y).filter fun h=>!decide ((ci y,ci h)∈zp zs) with
    |nil=>exact absurd hF ne
    |cons x Vm=>
    rw[hF] at Bu Iv;rw[List.head?_cons] at Iv;rw[Iv];have n3:r2≠G:=fun z=>by rw[z,qf] at Pg;cases Pg
    refine⟨_,rfl,r2,_,0,oV (some x),rfl,rfl,a8.of Bu,aD (j:=0) rfl,?_⟩;refine⟨_,rfl,_,rfl,G,_,(l:Int),l,rfl,rfl,s2 _ _ qf,eJ (by rw[aT,Iu];exact hl),?_⟩;rw[<-xN];have s5:aI H (upd H2 G (.lst ((g.set l (some x)).map oV))):=bj (sc.trans s2) fG;have g5:(upd H2 G (.lst ((g.set l (some x)).map oV))) G=_:=ae;have t5:(upd H2 G (.lst ((g.set l (some x)).map oV))) Tn=some (.lst (zr zs)):=by rw[aq Zg.symm];exact s2 _ _ Fy
    have l5:(upd H2 G (.lst ((g.set l (some x)).map oV))) Lt=some (.lst (NV lt)):=by rw[aq nGL.symm];exact s2 _ _ HL
    have h5:(upd H2 G (.lst ((g.set l (some x)).map oV))) r2=some (.lst (NV (x::Vm))):=by rw[aq n3];exact Bu
    have Iq:PO (upd H2 G (.lst ((g.set l (some x)).map oV))) zs:=PO.putL (po.same s2) (s2 _ _ qf);generalize upd H2 G _=H5 at *;refine⟨_,rfl,.inl ⟨rfl,_,a8.of t5⟩,_,rfl,_,rfl,sa,_,_,_,rfl,rfl,cu.of (s5 _ _ hS),aD (kJ hl),?_⟩;rw[ey];refine⟨_,rfl,r2,_,0,V.int (x:Nat),rfl,rfl,a8.of h5,aD (j:=0) rfl,by show 2<=sizeLine;decide,fun t ht=>?_⟩;have aF:=aj (o:=oY (ci y,ci x)) ht;refine⟨Tn,_,_,rfl,rfl,aF _ _ t5,by rw[dZ];exact eK zl (bv (show 16+j<32 by lia) (by decide)),?_⟩;refine⟨zs++[(t,(ci y,ci x))],⟨_,_,rfl⟩,bj (s5.trans aF) fT,by rw[aq Zg];exact aF _ _ g5,by rw[ae,eO];rfl,PO.putL (xs:=zr zs) ((Iq.same aF).append (PO.one ae)) (aF _ _ t5),by rw[dh];exact xD zl,by rw[aq nTL.symm];exact aF _ _ l5,?_⟩;rw[eQ];exact tk.put Iu hl ey en
   .rintro σ H2 ⟨zs,⟨x9',act,rfl⟩,sc,qf,_⟩;rw[be,ja] at qf;exact⟨_,rfl,G,_,rfl,.inl ⟨a8.of qf,fun t ht=>q t _ (sc.trans (aj ht)) ae⟩⟩
abbrev Eh:Stmt:=top 59
theorem nG:(["_law_house","_law_home"]:bQ).Nodup:=by decide +kernel
abbrev vM(A:Addr)(H H':Hp):Prop:=∀b o,H b=some o->Oc o->b≠A->H' b=some o
theorem dE.FQ(N:dE C H (·≠A) p n ts)(hp:p≠A)(k:vM A H H'):dE C H' (·≠A) p n ts:=by
 obtain⟨dx,tl,ol,ds,a,_⟩:=N.ob;exact(N.Xf.keep (fun b o l e=>by obtain⟨l1,o',e',n⟩:=l;rw[e] at e';cases e';exact k b o e n l1) fun o e=>k _ _ e (by rw[a] at e;cases e;exact fun ps z=>by cases z) hp).weak fun b h=>h.1
theorem bK.FQ(R:bK H (·≠A) l n r)(hl:l≠A)(k:vM A H H'):bK H' (·≠A) l n r:=by
 obtain⟨bs,a,b,c⟩:=R;refine⟨bs,k _ _ a nofun hl,b,c.mono fun j hj e=>k _ _ e nofun (b _ ?_)⟩;rw[cw,cz (by rw[c.1];exact hj)];exact ie _
structure vN(C A:Addr)(H:Hp)(t px oa fa ha sa:Addr)(n:Nat)(ts:Ts)(homes:aQ)(st:bA):Prop where
 tu:H t=some (.tup [.ref px,.ref oa,.ref fa,.ref ha,.ref sa])
 tA:t≠A
 net:dE C H (·≠A) px n ts
 px:px≠A
 out:bK H (·≠A) oa n (bX n ts)
 oa:oa≠A
 far:bK H (·≠A) fa n (fun h=>(List.range n).map (far ts h))
 fa:fa≠A
 hA:ha≠A
 sA:sa≠A
 he:H ha=some (.tup (NV homes))
 se:H sa=some (.tup (st.map oV))
 le:st.length<=16
 sd:kI n ts homes st
theorem vN.keep{C A:Addr}{H H':Hp}{t px oa fa ha sa:Addr}{n:Nat}{ts:Ts}{homes:aQ}{st:bA}(c:vN C A H t px oa fa ha sa n ts homes st)(k:vM A H H'):vN C A H' t px oa fa ha sa n ts homes st:=
 ⟨k _ _ c.tu nofun c.tA,c.tA,c.net.FQ c.px k,c.px,c.out.FQ c.oa k,c.oa,c.far.FQ c.fa k,c.fa,c.hA,c.sA,k _ _ c.he nofun c.hA,k _ _ c.se nofun c.sA,c.le,c.sd⟩
theorem rG.toK{C A:Addr}{H0 H:Hp}{t px oa fa ha sa:Addr}{n:Nat}{ts:Ts}{homes:aQ}{st:bA}{xs:bg}(c:rG C H0 H t px oa fa ha sa n ts homes st)(e0:H0 A≠none)(e:H A=some (.lst xs)):vN C A H t px oa fa ha sa n ts homes st:=by
 have f:∀b,H0 b=none->b≠A:=fun b h z=>e0 (z ▸ h);have g:∀ {b ys},H b=some (.tup ys)->b≠A:=fun h z=>by rw[z,e] at h;cases h
 exact⟨c.tu,g c.tu,c.net.weak f,f _ c.px,c.out.weak f,f _ c.oa,c.far.weak f,f _ c.fa,g c.ha,g c.sa,c.ha,c.sa,c.le,c.sd⟩
theorem m9.putL(t:m9 Pt H)(e:H D=some (.lst xs)):m9 Pt (upd H D o):=by
 have f:∀ {b u},H b=some u->(∀ys,u≠.lst ys)->(upd H D o) b=some u:=fun h n=>by rw[aq (by rintro rfl;rw[e] at h;cases h;exact n _ rfl)];exact h
 rcases t with z|⟨c,z,y⟩
 .exact .inl (f z (fun ys z=>by cases z))
 .exact .inr ⟨c,f z (fun ys z=>by cases z),f y (fun ys z=>by cases z)⟩
theorem rG.sf{C p:Addr}{H0 H H':Hp}{t px oa fa ha sa:Addr}{n:Nat}{ts:Ts}{homes:aQ}{st:bA}(c:rG C H0 H t px oa fa ha sa n ts homes st)(s:aO p H H')(f:H0 p≠none)(hp:bn H p):rG C H0 H' t px oa fa ha sa n ts homes st:=by
 have ne:∀b,H0 b=none->b≠p:=fun b e z=>f (z ▸ e);exact⟨s _ _ c.tu (hp.neT c.tu),c.net.keep (fun b o l e=>s b o e (ne b l)) (fun o e=>s _ _ e (ne _ c.px)),c.px,c.out.keep c.oa (fun b o l e=>s b o e (ne b l)),c.oa,c.far.keep c.fa (fun b o l e=>s b o e (ne b l)),c.fa,s _ _ c.ha (hp.neT c.ha),s _ _ c.sa (hp.neT c.sa),c.le,c.sd⟩
theorem _root_.L2.dU.mE(t:dU lp q Pt H)(s:aO p H H')(hp:bn H p):dU lp q Pt H':=by
 obtain⟨a,b,e,_⟩:=hp;rcases t with z|⟨c,z,y⟩
 .exact .inl (s _ _ z (by rintro rfl;rw[z] at e;cases e))
 .exact .inr ⟨c,s _ _ z (by rintro rfl;rw[z] at e;cases e),s _ _ y (by rintro rfl;rw[y] at e;cases e)⟩
theorem _root_.L2.dU.xn(t:dU lp q Pzz H)(k:FG Pt p H H')(hp:bn H p)(tb:m9 Pt H)(n:Pzz≠Pt):dU lp q Pzz H':=by
 obtain⟨a,b,e,_⟩:=hp;obtain⟨ps,hP⟩:=dU.jp tb;rcases t with z|⟨c,z,y⟩
 .exact .inl (k _ _ z n (by rintro rfl;rw[z] at e;cases e))
 .exact .inr ⟨c,k _ _ z n (by rintro rfl;rw[z] at e;cases e),k _ _ y (by rintro rfl;rw[hP] at y;cases y) (by rintro rfl;rw[y] at e;cases e)⟩
theorem js.mE{PN PF PT PR p:Addr}{H H':Hp}(t:js PN PF PT PR H)(s:aO p H H')(hp:bn H p):js PN PF PT PR H':=⟨t.n.mE s hp,t.f.mE s hp,t.t.mE s hp,t.r.mE s hp⟩
theorem js.xn{PN PF PT PR p Pt:Addr}{H H':Hp}(t:js PN PF PT PR H)(k:FG Pt p H H')(hp:bn H p)(tb:m9 Pt H)(n:Pt∉[PN,PF,PT,PR]):js PN PF PT PR H':=by
 simp only[bq,jG,not_or,jM] at n;obtain⟨n1,n2,n3,n4⟩:=n;exact⟨t.n.xn k hp tb (dI n1),t.f.xn k hp tb (dI n2),t.t.xn k hp tb (dI n3),t.r.xn k hp tb (dI n4)⟩
def Bc(C A:Addr)(H:Hp)(q:Addr):Prop:=∃ (t ra:Addr) (bt:Nat) (px oa fa ha sa:Addr) (n:Nat) (ts:Ts) (homes:aQ) (st:bA) (ranks:dG),H q=some (.tup [.ref t,.int bt,.ref ra])/\q≠A/\H ra=some (.tup (ranks.map V.int))/\ra≠A/\ranks.length=homes.length/\vN C A H t px oa fa ha sa n ts homes st
theorem Bc.keep(c:Bc C A H q)(k:vM A H H'):Bc C A H' q:=by
 obtain⟨t,ra,bt,px,oa,fa,ha,sa,n,ts,homes,st,ranks,e,m,e2,m2,l,d⟩:=c;exact⟨t,ra,bt,px,oa,fa,ha,sa,n,ts,homes,st,ranks,k _ _ e nofun m,m,k _ _ e2 nofun m2,m2,l,d.keep k⟩
theorem mK(nx:H x=none)(nd:H d=none)(ne:x≠d):aI H (upd (upd H d (.own x)) x (.ins C d [])):=(aj (o:=.own x) nd).trans (aj (D:=x) (o:=.ins C d []) (by rw[aq ne];exact nx))
structure FS(C:Addr)(H:Hp)(t px oa fa ha sa:Addr)(n:Nat)(ts:Ts)(homes:aQ)(st:bA):Prop where
 tu:H t=some (.tup [.ref px,.ref oa,.ref fa,.ref ha,.ref sa])
 net:dE C H (fun _=>True) px n ts
 out:bK H (fun _=>True) oa n (bX n ts)
 far:bK H (fun _=>True) fa n (fun h=>(List.range n).map (far ts h))
 he:H ha=some (.tup (NV homes))
 se:H sa=some (.tup (st.map oV))
 le:st.length<=16
 sd:kI n ts homes st
theorem bK.kn(R:bK H (fun _=>True) l n r)(k:KN H H'):bK H' (fun _=>True) l n r:=by
 obtain⟨bs,b1,b2,b3⟩:=R;exact⟨bs,k _ _ b1 nofun,b2,b3.mono fun j hj e=>k _ _ e nofun⟩
theorem FS.kn(c:FS C H t px oa fa ha sa n ts homes st)(k:KN H H'):FS C H' t px oa fa ha sa n ts homes st:=by
 obtain⟨dx,tl,ol,ds,a,_⟩:=c.net.ob;exact⟨k _ _ c.tu nofun,(c.net.Xf.keep (fun b o l e=>by obtain⟨_,o',e',n⟩:=l;rw[e] at e';cases e';exact k b o e n) fun o e=>k _ _ e (by rw[a] at e;cases e;exact fun ps z=>by cases z)).weak fun _ _=>trivial,
  c.out.kn k,c.far.kn k,k _ _ c.he nofun,k _ _ c.se nofun,c.le,c.sd⟩
theorem Ot(h:i<fs.length):((Bv homes fs).map oV)[i]?=some (if fs.getD i none=some (homes.getD i 0) then V.cI else oV (fs.getD i none)):=by
 unfold Bv;rw[cA,cA,f_ h];show some (oV (if _ then none else _))=_;split <;> rfl
theorem vN.toN{C A:Addr}{H:Hp}{t px oa fa ha sa:Addr}{n:Nat}{ts:Ts}{homes:aQ}{st:bA}(c:vN C A H t px oa fa ha sa n ts homes st):FS C H t px oa fa ha sa n ts homes st:=⟨c.tu,c.net.weak fun _ _=>trivial,c.out.weak fun _ _=>trivial,c.far.weak fun _ _=>trivial,c.he,c.se,c.le,c.sd⟩
structure Qf(CE CN CF CT:Addr)(H:Hp)(rl q0 q1 q2 q3 a0 a1 a2 a3:Addr):Prop where
 l:H rl=some (.lst [.ref q0,.ref q1,.ref q2,.ref q3])
 e:H q0=some (.tup [.int 0,.ref a0])/\∃d,H a0=some (.ins CE d [])
 n:H q1=some (.tup [.int 1,.ref a1])/\∃d,H a1=some (.ins CN d [])
 f:H q2=some (.tup [.int 2,.ref a2])/\∃d,H a2=some (.ins CF d [])
 t:H q3=some (.tup [.int 3,.ref a3])/\∃d,H a3=some (.ins CT d [])
theorem Qf.keep{CE CN CF CT A rl q0 q1 q2 q3 a0 a1 a2 a3:Addr}{H H':Hp}{xs:bg}(r:Qf CE CN CF CT H rl q0 q1 q2 q3 a0 a1 a2 a3)(n:rl≠A)(hA:H A=some (.lst xs))(k:vM A H H'):Qf CE CN CF CT H' rl q0 q1 q2 q3 a0 a1 a2 a3:=by
 have g:∀ {b C q x},(H q=some (.tup x)/\∃d,H b=some (.ins C d []))->(H' q=some (.tup x)/\∃d,H' b=some (.ins C d [])):=fun {b C q x} h=>⟨k _ _ h.1 nofun (by rintro rfl;have:=h.1;rw[hA] at this;cases this),let ⟨d,e⟩:=h.2;⟨d,k _ _ e nofun (by rintro rfl;rw[hA] at e;cases e)⟩⟩
 exact⟨k _ _ r.l nofun n,g r.e,g r.n,g r.f,g r.t⟩
theorem Qf.kn{CE CN CF CT rl q0 q1 q2 q3 a0 a1 a2 a3:Addr}{H H':Hp}(r:Qf CE CN CF CT H rl q0 q1 q2 q3 a0 a1 a2 a3)(k:KN H H'):Qf CE CN CF CT H' rl q0 q1 q2 q3 a0 a1 a2 a3:=by
 have g:∀ {b C q x},(H q=some (.tup x)/\∃d,H b=some (.ins C d []))->(H' q=some (.tup x)/\∃d,H' b=some (.ins C d [])):=fun {b C q x} h=>⟨k _ _ h.1 nofun,let ⟨d,e⟩:=h.2;⟨d,k _ _ e nofun⟩⟩
 exact⟨k _ _ r.l nofun,g r.e,g r.n,g r.f,g r.t⟩
def Qg(K:a_)(H:Hp)(a:Addr)(xs:bg):Prop:=(∃o,H a=some (.zn o (.lst xs)))\/(∀H':Hp,a8 K H' a xs)
theorem Qg.seq(h:Qg K H a xs):a8 K H a xs:=by
 rcases h with ⟨o,h⟩|h
 .exact .inl (.inr ⟨o,h⟩)
 .exact h H
theorem Qg.mono(h:Qg K H a xs)(e:∀o u,H a=some (.zn o u)->H' a=some (.zn o u)):Qg K H' a xs:=by
 rcases h with ⟨o,h⟩|h
 .exact .inl ⟨o,e _ _ h⟩
 .exact .inr h
theorem fW:aN ["_law_script","_law_rules","_law_asked","_law_k","_law_pot_here","_law_beat_here","_law_case_here","_law_ranks_here","_law_net_here","_law_outs_here","_law_far_here","_law_homes","_law_stand","_law_turned","_law_left","_law_way","_law_rule","_law_ends","_law_here","_law_order_here","_law_due"] ["_law_script"] (aw Eh):=dW (by decide +kernel)
def FT(K:a_)(Pt PN PF PT PR:Addr):Sp:=fun vs H Q _=>∃ (a:Addr) (ns:dG),vs=[.ref a]/\Qg K H a (ns.map V.int)/\ns.length<=63/\m9 Pt H/\js PN PF PT PR H/\∀H',Q (.bl true) H'
theorem Te{f fRI C CE CN CF CT CI CR Pt PN PF PT PR:Addr}{fd Xu:eA}(F:iI K "law" "law" Eh f fd)(B:Bl mg)(B2:UB mg)(R:Xn P w K mg base C CE CN CF CT CI CR PN PF PT PR)(nP:Pt∉[PN,PF,PT,PR])(kE:WG K CE)(kN:WG K CN)(kF:WG K CF)(kT:WG K CT)(M:Mk K CR fRI)(bI:lx K Xu ["self","ranks"] [])(GI:bU P w K mg base bo 2 fRI Xu ["self","ranks"] (ze CR))(PT':d9 P w K mg base bo 1 "_law_pot" ["_law_script","_law_k"] (KM K))(BE:d9 P w K mg base bo 2 "_law_beat" ["_law_pot_here"] DL)(CA:d9 P w K mg base bo 9 "_law_case" ["_law_pot_here"] (DY C Pt))(RA:d9 P w K mg base bo 2 "_law_ranks" ["_law_pot_here","_law_many"] zh)(OD:d9 P w K mg base bo 1 "_law_order" ["_law_way","_law_far_here","_law_homes","_law_stand","_law_beat_here","_law_ranks_here"] Eb)(HA:d9 P w K mg base bo 10 "hand" ["rule","net","homes","stand","beat"] (Ed C CE CN CF CT CI CR PN PF PT PR))(WK:d9 P w K mg base bo 2 "_law_walk" ["_law_order_here","_law_outs_here","_law_far_here","_law_homes","_law_stand","_law_at_once"] Eg)(IH:d9 P w K mg base bo 1 "_law_is_handing" ["_law_told","_law_due"] Tc):bU P w K mg base bo 11 f fd ["_law_script"] (FT K Pt PN PF PT PR):=by
 refine F.ok fW (fun vs H Q E h=>?_) (fun fX A outer s H vs Q E hr h=>?_)
 .obtain⟨a,ns,rfl,_⟩:=h;rfl
 .obtain⟨a,ns,rfl,hS,Ao,tp,tb,q⟩:=h;have h1:df 1 _:=hr.mono (by decide);have h2:df 2 _:=hr.mono (by decide);have h3:df 3 _:=hr.mono (by decide);have h9:df 9 _:=hr.mono (by decide);refine'⟨_,(ak (aW (i:=1) fW.nd rfl aL (cH (aa (bT (aa az (aa (yJ kE rfl R.e.Nm) ag))) (aa (bT (aa az (aa (yJ kN rfl R.n.Nm) ag))) (aa (bT (aa az (aa (yJ kF rfl R.f.Nm) ag))) (aa (bT (aa az (aa (yJ kT rfl R.t.Nm) ag))) ag))))))
   (ak (aW (i:=2) fW.nd rfl aL (cH ag))
   (ak (du eI rfl (b9 rfl B.range (aa az ag)) (aA (i:=3) fW.nd rfl aL)
    (ak (aW (i:=4) fW.nd rfl aL (aH PT' h1 aM (aa (pv 0) (aa (pv 3) ag))))
    (ak (aW (i:=5) fW.nd rfl aL (aH BE h2 aM (aa (pv 4) ag)))
    (ak (aW (i:=6) fW.nd rfl aL (aH CA h9 aM (aa (pv 4) ag)))
    (av (cG (gQ gy i9 i8 cV (pv 2) (aa (bT (aa (pv 6) (aa (pv 5) (aa (aH RA h2 aM (aa (pv 4) (aa (aJ aV (by rfl) B.len fc (aa (aX eN (pv 6) az (fun _ _=>rfl)) ag)) ag))) ag)))) ag))))))))
   (ak (du eI rfl (bN (a9 uZ (pv 2) (l_ xZ (pv 2) pE (pF az)))) (dX (n:=3) rfl (aE (aA (i:=6) fW.nd rfl aL) (aE (aA (i:=5) fW.nd rfl aL) (aE (aA (i:=7) fW.nd rfl aL) cM))))
    (ak (d8 (pv 6) (dX (n:=5) rfl (aE (aA (i:=8) fW.nd rfl aL) (aE (aA (i:=9) fW.nd rfl aL) (aE (aA (i:=10) fW.nd rfl aL) (aE (aA (i:=11) fW.nd rfl aL) (aE (aA (i:=12) fW.nd rfl aL) cM)))))))
    (ak (aW (i:=13) fW.nd rfl aL (a9 NI (l_ Fj (pv 11) (pF az) pE) (l_ Fj (pv 11) pE (pF az))))
    (ak (aW (i:=14) fW.nd rfl aL (cU fh (by rfl) B.tup o4 (aa ?c1 ag)))
    (av (du eI rfl (bN (a9 uZ (pv 1) (cH (aa (bT (aa az (aa (Ez M GI h3 rfl R.r.Nm bI .nil aM (aa (pv 7) ag)) ag))) ag)))) (dX (n:=2) rfl (aE (aA (i:=15) fW.nd rfl aL) (aE (aA (i:=16) fW.nd rfl aL) cM)))
     (av (du eI rfl (bN (cH (aa (bT (aa (pv 11) (aa (pv 12) ag))) (aa (bT (aa (pv 13) (aa (pv 14) ag))) (aa (bT (aa (pv 11) (aa (pv 12) ag))) ag))))) (dX (n:=2) rfl (aE (aA (i:=17) fW.nd rfl aL) (aE (aA (i:=18) fW.nd rfl aL) cM)))
      (ak (aW (i:=19) fW.nd rfl aL (aH OD h1 aM (aa (pv 15) (aa (pv 10) (aa (pv 17) (aa (pv 18) (aa (pv 5) (aa (pv 7) ag))))))))
      (ak (aW (i:=20) fW.nd rfl aL (aH WK h2 aM (aa (pv 19) (aa (pv 9) (aa (pv 10) (aa (pv 17) (aa (pv 18) (aa Ep ag))))))))
      (av (dS (oq (jR (aH IH h1 aM (aa (aH HA hr aM (aa (pv 16) (aa (pv 8) (aa (pv 17) (aa (pv 18) (aa (pv 5) ag)))))) (aa (pv 20) ag))))) (av (bh Ep)) b8))))))))))))
   (av (bh Ep)))))),?_⟩
  case c1=>
   refine' cQ (g:=(uS K 2 (gn (bH 0) (gn (bH 1) uR)))) (te:=(tIf (pA (jS (ZJ) (bb 0) (bb 1))) (tC .cI) (bb 0))) (NB:=["_law_house","_law_home"]) (src:=[none,none]) (bz (by kernel_rfl)) rfl (M9 rfl B2.zip (aa (pv 12) (aa (pv 13) ag))) ?g ?t ?e;case g=>exact fun cl C s₃ H₃ fp=>(dX (n:=2) rfl (aE (aA (i:=0) nG rfl aL cW) (aE (aA (i:=1) nG rfl aL cW) cM)))
   case t=>exact fun cl C s₃ H₃ fp=>dC
   case e=>exact fun cl C s₃ H₃ fp=>(zK (aY iR (pv 0) (pv 1) (bp _)) ij (pv 0))
  refine fun a0 d0 x0 y0 z0=>⟨by show 2<=sizeLine;decide,fun q0 hq0=>?_⟩
  have w0:=(mK (C:=CE) x0 y0 (dI z0)).trans (aj (o:=.tup [.int 0,.ref a0]) hq0);have g0:(upd (upd (upd H d0 (.own a0)) a0 (.ins CE d0 [])) q0 (.tup [.int 0,.ref a0])) q0=some (.tup [.int 0,.ref a0])/\∃d,(upd (upd (upd H d0 (.own a0)) a0 (.ins CE d0 [])) q0 (.tup [.int 0,.ref a0])) a0=some (.ins CE d []):=⟨ae,d0,aj hq0 _ _ ae⟩
  generalize upd (upd (upd H d0 _) a0 _) q0 _=H0 at *;refine fun a1 d1 x1 y1 z1=>⟨by show 2<=sizeLine;decide,fun q1 Ii=>?_⟩
  have w1:=(mK (C:=CN) x1 y1 (dI z1)).trans (aj (o:=.tup [.int 1,.ref a1]) Ii);have g1:(upd (upd (upd H0 d1 (.own a1)) a1 (.ins CN d1 [])) q1 (.tup [.int 1,.ref a1])) q1=some (.tup [.int 1,.ref a1])/\∃d,(upd (upd (upd H0 d1 (.own a1)) a1 (.ins CN d1 [])) q1 (.tup [.int 1,.ref a1])) a1=some (.ins CN d []):=⟨ae,d1,aj Ii _ _ ae⟩
  generalize upd (upd (upd H0 d1 _) a1 _) q1 _=H1 at *;refine fun a2 d2 x2 y2 z2=>⟨by show 2<=sizeLine;decide,fun q2 Ij=>?_⟩
  have w2:=(mK (C:=CF) x2 y2 (dI z2)).trans (aj (o:=.tup [.int 2,.ref a2]) Ij);have g2:(upd (upd (upd H1 d2 (.own a2)) a2 (.ins CF d2 [])) q2 (.tup [.int 2,.ref a2])) q2=some (.tup [.int 2,.ref a2])/\∃d,(upd (upd (upd H1 d2 (.own a2)) a2 (.ins CF d2 [])) q2 (.tup [.int 2,.ref a2])) a2=some (.ins CF d []):=⟨ae,d2,aj Ij _ _ ae⟩
  generalize upd (upd (upd H1 d2 _) a2 _) q2 _=H2 at *;refine fun a3 d3 x3 y3 z3=>⟨by show 2<=sizeLine;decide,fun q3 Uq=>?_⟩
  have w3:=(mK (C:=CT) x3 y3 (dI z3)).trans (aj (o:=.tup [.int 3,.ref a3]) Uq);have g3:(upd (upd (upd H2 d3 (.own a3)) a3 (.ins CT d3 [])) q3 (.tup [.int 3,.ref a3])) q3=some (.tup [.int 3,.ref a3])/\∃d,(upd (upd (upd H2 d3 (.own a3)) a3 (.ins CT d3 [])) q3 (.tup [.int 3,.ref a3])) a3=some (.ins CT d []):=⟨ae,d3,aj Uq _ _ ae⟩
  generalize upd (upd (upd H2 d3 _) a3 _) q3 _=H4 at *;refine⟨by show 4<=sizeLine;decide,fun rl Us=>?_⟩;have w5:=aj (o:=.lst [V.ref q0,.ref q1,.ref q2,.ref q3]) Us;have mv:∀ {b C q x} {Hx Hy:Hp},aI Hx Hy->(Hx q=some (.tup x)/\∃d,Hx b=some (.ins C d []))->(Hy q=some (.tup x)/\∃d,Hy b=some (.ins C d [])):=fun s h=>⟨s _ _ h.1,let ⟨d,e⟩:=h.2;⟨d,s _ _ e⟩⟩
  have rs:Qf CE CN CF CT (upd H4 rl (.lst [V.ref q0,.ref q1,.ref q2,.ref q3])) rl q0 q1 q2 q3 a0 a1 a2 a3:=⟨ae,mv (((w1.trans w2).trans w3).trans w5) g0,mv ((w2.trans w3).trans w5) g1,mv (w3.trans w5) g2,mv w5 g3⟩
  have w:=(((w0.trans w1).trans w2).trans w3).trans w5;generalize upd H4 rl _=H5 at *;clear g0 g1 g2 g3 w0 w1 w2 w3 w5 x0 x1 x2 x3 y0 y1 y2 y3 z0 z1 z2 z3 Us mv hq0 Ii Ij Uq;refine⟨by show 0<=sizeLine;decide,fun Ak hA=>?_⟩;have sA:=aj (o:=.lst []) hA;have gA:=ae (H:=H5) (a:=Ak) (o:=.lst []);have nRA:rl≠Ak:=am rs.l hA;have S0:=hS.mono fun o u e=>sA _ _ (w _ _ e);have tp0:=(tp.same w).same sA;have tb0:=(tb.same w).same sA;have rs0:=rs.kn (fun b o e _=>sA b o e);generalize upd H5 Ak _=H6 at *;clear sA hA hS tp tb rs w;refine⟨2,rfl,by decide,by decide,eh (n:=2) (lo:=0) (fun k σ Hc=>(∃x3 x4 x5 x6 x7 x8 x9 Fx HR UP UQ UR Mh Mi FU FV FW FX,σ=[some (.ref a),some (.ref rl),some (.ref Ak),x3,x4,x5,x6,x7,x8,x9,Fx,HR,UP,UQ,UR,Mh,Mi,FU,FV,FW,FX])/\Qg K Hc a (ns.map V.int)/\m9 Pt Hc/\js PN PF PT PR Hc/\Qf CE CN CF CT Hc rl q0 q1 q2 q3 a0 a1 a2 a3/\∃qs:List Addr,qs.length=k/\Hc Ak=some (.lst (qs.map V.ref))/\∀q∈qs,Bc C Ak Hc q) ⟨⟨_,_,_,_,_,_,_,_,_,_,_,_,_,_,_,_,_,_,rfl⟩,S0,tp0,tb0,rs0,[],rfl,gA,fun q hq=>(nomatch hq)⟩ ?_ ?_⟩
  .rintro k σ Hc hk ⟨⟨x3,x4,x5,x6,x7,x8,x9,Fx,HR,UP,UQ,UR,Mh,Mi,FU,FV,FW,FX,rfl⟩,Sc,tp,tb,rs,qs,ql,Ac,Qc⟩;rw[iG];refine⟨_,rfl,_,rfl,a,ns,k,rfl,Sc.seq,by lia,fun p H3 s3 PM nE=>?_⟩;refine⟨_,rfl,p,rfl,nE,fun bt H4 hbt s4 sn=>?_⟩;have t4:=(tp.same s3).mE s4 nE;have u4:=(tb.same s3).mE s4 nE;have A4:=s4 _ _ (s3 _ _ Ac) (am Ac PM);refine⟨_,rfl,p,rfl,sn,t4,fun t px oa fa ha sa n ts homes st H5 k5 xf t5 ca=>?_⟩;have u5:=u4.xn k5 sn t4 nP;have kc5:∀b o,Hc b=some o->Oc o->H5 b=some o:=fun b o e n=>k5 b o (s4 _ _ (s3 _ _ e) (am e PM)) (t4.not (s4 _ _ (s3 _ _ e) (am e PM)) n) (am e PM);have A5:=kc5 _ _ Ac nofun;have LO:=ca.sd.let ca.le;refine⟨_,rfl,.inl ⟨rfl,_,a8.of A5⟩,_,rfl,_,rfl,_,rfl,_,rfl,t,_,_,_,rfl,rfl,cu.of ca.tu,aD (j:=3) rfl,ha,_,rfl,.inr (cu.of ca.ha),p,homes.length,by rw[be];rfl,xf,by rw[LO.len];exact LO.le,fun ra ranks H6 s6 zw Mg S9=>?_⟩;have nAp:Ak≠p:=am Ac PM;have A6:=s6 _ _ A5 nAp;have kc6:∀b o,Hc b=some o->Oc o->H6 b=some o:=fun b o e n=>s6 b o (kc5 b o e n) (am e PM);have ck6:=(ca.sf s6 sn.full xf).toK (A:=Ak) (fun z=>by rw[A4] at z;cases z) A6;have t6:=t5.mE s6 xf;have u6:=u5.mE s6 xf;refine⟨by show 3<=sizeLine;decide,fun q hq=>?_⟩;have sq:=aj (o:=.tup [.ref t,.int (bt:Nat),.ref ra]) hq;have k7:vM Ak H6 (upd (upd H6 q (.tup [.ref t,.int (bt:Nat),.ref ra])) Ak (.lst (qs.map V.ref++[.ref q]))):=fun b o e n m=>by rw[aq m];exact sq _ _ e
   have nq:q≠Ak:=(am A6 hq).symm;have kc7:vM Ak Hc (upd (upd H6 q (.tup [.ref t,.int (bt:Nat),.ref ra])) Ak (.lst (qs.map V.ref++[.ref q]))):=fun b o e n m=>k7 b o (kc6 b o e n) n m;have nra:ra≠Ak:=by rintro rfl;rw[A6] at Mg;cases Mg
   refine⟨Ak,_,_,rfl,rfl,sq _ _ A6,by rw[aT,ql];exact bv hk (by decide),⟨_,_,_,_,_,_,_,_,_,_,_,_,_,_,_,_,_,_,rfl⟩,Sc.mono fun o u e=>kc7 _ _ e nofun (by rintro rfl;rw[Ac] at e;cases e),(t6.same sq).putL (sq _ _ A6),(u6.same sq).putL (sq _ _ A6),rs.keep nRA Ac kc7,qs++[q],by rw[dh,ql];rfl,by rw[ae,dt];rfl,fun q' Jg=>?_⟩;rcases cL.mp Jg with z|z
   .exact(Qc _ z).keep kc7
   .rw[dA.mp z];exact⟨t,ra,bt,px,oa,fa,ha,sa,n,ts,homes,st,ranks,by rw[aq nq];exact ae,nq,k7 _ _ Mg nofun nra,nra,S9,ck6.keep k7⟩
  .rintro σ Hc ⟨⟨x3,x4,x5,x6,x7,x8,x9,Fx,HR,UP,UQ,UR,Mh,Mi,FU,FV,FW,FX,rfl⟩,Sc,tp,tb,rs,qs,ql,Ac,Qc⟩;clear Sc tp S0 tp0 tb0 rs0 gA
   match qs,ql with
   |[k0,k1],_=>
   have Q0:=Qc k0 cK;have Q1:=Qc k1 (dq _ cK);refine⟨_,rfl,_,rfl,_,rfl,Ak,_,rfl,a8.of Ac,fun c hc=>?_⟩;have ec:iw ([k0,k1].map V.ref) none (some 1)=[.ref k0]:=rfl;rw[ec];have sC:=aj (o:=.lst [.ref k0]) hc;refine⟨Ak,c,_,_,rfl,rfl,sC _ _ Ac,ae,by show 3<=sizeLine;decide,fun r CY=>?_⟩;have sR:=aj (o:=.lst ([k0,k1].map V.ref++[.ref k0])) CY;have s1:=sC.trans sR;have gr:=ae (H:=upd Hc c (.lst [.ref k0])) (a:=r) (o:=.lst ([k0,k1].map V.ref++[.ref k0]));generalize upd (upd Hc c _) r _=H3 at *;have Q0:=Q0.keep (fun b o e _ _=>s1 b o e);have Q1:=Q1.keep (fun b o e _ _=>s1 b o e);have tb:=tb.same s1;have rs:=rs.kn (fun b o e _=>s1 b o e);clear sC sR s1 hc CY Qc Ac ec;refine⟨r,rfl,⟨_,a8.of gr⟩,eM (K:=K) (xs:=[.ref k0,.ref k1,.ref k0]) (fun j σ Hd=>(∃x3 x4 x5 x6 x7 x8 x9 Fx HR UP UQ UR Mh Mi FU FV FW FX,σ=[some (.ref a),some (.ref rl),some (.ref Ak),x3,x4,x5,x6,x7,x8,x9,Fx,HR,UP,UQ,UR,Mh,Mi,FU,FV,FW,FX])/\js PN PF PT PR Hd/\KQ PN PF PT PR H3 Hd) ⟨⟨_,_,_,_,_,_,_,_,_,_,_,_,_,_,_,_,_,_,rfl⟩,tb,KQ.of (aI.refl _)⟩ (fun j σ Hd _ z=>a8.of (z.2.2.kn tb _ _ gr nofun)) ?_ (fun σ Hd _=>q Hd)⟩;rintro j x σ Hd hx ⟨⟨x3,x4,x5,x6,x7,x8,x9,Fx,HR,UP,UQ,UR,Mh,Mi,FU,FV,FW,FX,rfl⟩,td,kd⟩;obtain⟨qq,rfl,QQ⟩:∃q,x=.ref q/\Bc C Ak H3 q:=by
    match j,hx with
    |0,hx=>cases hx;exact⟨k0,rfl,Q0⟩
    |1,hx=>cases hx;exact⟨k1,rfl,Q1⟩
    |2,hx=>cases hx;exact⟨k0,rfl,Q0⟩
    |j+3,hx=>cases hx
   have kn:=kd.kn tb;obtain⟨t,ra,bt,px,oa,fa,ha,sa,n,ts,homes,st,ranks,eq,_,Zi,_,S9,ca⟩:=QQ.keep (H':=Hd) (fun b o e n _=>kn b o e n);have rd':=rs.kn kn;refine⟨qq,_,rfl,cu.of eq,rfl,_,_,rfl,_,_,rfl,_,_,rfl,rfl,?_⟩;have cn:=ca.toN;clear ca;have LO:=cn.sd.let cn.le;have fi:=cn.net.lE;refine⟨_,rfl,t,_,rfl,cu.of cn.tu,rfl,_,_,rfl,_,_,rfl,_,_,rfl,_,_,rfl,_,_,rfl,rfl,?_⟩;refine⟨_,rfl,_,rfl,ha,NV homes,rfl,cn.he,fun r1 I1 s1 DE=>⟨_,rfl,_,rfl,ha,NV homes,rfl,s1 _ _ cn.he,fun r2 I2 s2 Bu=>⟨r1,r2,_,_,rfl,rfl,s2 _ _ DE,Bu,?_,fun tu I3 s3 US=>?_⟩⟩⟩
   .exact aZ (Nat.add_le_add (ju _ _ _) (ju _ _ _)) (by rw[be,LO.len];exact aZ (show _<=32 by have:=LO.le;lia) (by decide))
   have US:I3 tu=some (.tup (NV (gv homes))):=by
    rw[US];show some (HO.tup (iw (NV homes) (some ((1:Nat):Int)) none++iw (NV homes) none (some ((1:Nat):Int))))=_;rw[vH,DN];unfold gv NV;rw[dt,List.map_drop,List.map_take]
   have Mf:=(s1.trans s2).trans s3;clear DE Bu s1 s2 s3;have QP:=Mf _ _ cn.se;have fl:st.length=(gv homes).length:=by rw[rK,cn.sd.len]
   refine⟨_,rfl,_,rfl,sa,tu,_,_,rfl,cu.of QP,cu.of US,by rw[aT,be];exact fl,fun D4 Bt=>?_⟩;refine J4 (K:=K) (xs:=st.map oV) (ys:=NV (gv homes)) (by rw[aT,be];exact fl) (fun i zz σ H2=>(∃u v,σ=[u,v])/\aI I3 H2/\H2 D4=some (.lst zz)/\zz=((Bv (gv homes) st).map oV).take i) ⟨⟨_,_,rfl⟩,aj Bt,ae,rfl⟩ (fun i zz σ H _ z=>⟨cu.of (z.2.1 _ _ QP),cu.of (z.2.1 _ _ US)⟩) ?_ ?_
   .rintro i x y pp zz σ J5 Kt Kf hx hy ⟨⟨u,v,rfl⟩,SC,Me,rfl⟩ hpp kt kf;have hil:i<st.length:=by have:=(eR.mp hx).1;rwa [aT] at this
    rw[kJ hil] at hx;obtain rfl:=cB hx;rw[iT (by lia)] at hy;obtain rfl:=cB hy;have sp:=aj (o:=.tup [oV (st.getD i none),.int (((gv homes).getD i 0:Nat):Int)]) hpp;have one:=Ot (homes:=gv homes) (fs:=st) hil;have lt:(((Bv (gv homes) st).map oV).take i).length<sizeLine:=eK (BO _ _) (by rw[aT,mX];exact eK cn.le (by decide));refine⟨pp,_,rfl,cu.of ae,rfl,_,_,rfl,_,_,rfl,rfl,?_⟩;refine⟨_,rfl,_,rfl,SH,_,rfl,?_⟩;rw[Xd];have go:∀v,((Bv (gv homes) st).map oV)[i]?=some v->∀σ2,(∃u v,σ2=[u,v])->Kt v σ2 (upd J5 pp (.tup [oV (st.getD i none),.int (((gv homes).getD i 0:Nat):Int)])):=fun v hv σ2 sh=>kt v σ2 _ (sp _ _ Me) lt ⟨sh,bj (SC.trans sp) Bt,ae,by rw[gW,hv];rfl⟩;by_cases c:st.getD i none=some ((gv homes).getD i 0)
    .rw[ap c] at one;rw[iO c];exact vY (go _ one _ ⟨_,_,rfl⟩)
    .rw[ao c] at one;rw[gY c];exact jT ⟨_,rfl,go _ one _ ⟨_,_,rfl⟩⟩
   rintro zz σ J5 ⟨_,SC,Me,rfl⟩;rw[aT,show st.length=((Bv (gv homes) st).map oV).length by rw[aT,mX],ja] at Me;refine⟨D4,_,rfl,.inl ⟨a8.of Me,fun lf hlf=>?_⟩⟩;have sB:=(Mf.trans SC).trans (aj (o:=.tup ((Bv (gv homes) st).map oV)) hlf);have glf:=ae (H:=J5) (a:=lf) (o:=.tup ((Bv (gv homes) st).map oV));have gtu:=aj (o:=.tup ((Bv (gv homes) st).map oV)) hlf _ _ (SC _ _ US);generalize upd J5 lf _=J6 at *;refine⟨_,rfl,_,rfl,fun rx rd nx nrd Zb=>?_⟩;have sN:=mK (C:=CR) nx nrd (dI Zb);refine⟨rx,rd,ra,ranks,rfl,ae,sN _ _ (sB _ _ Zi),by rw[S9,LO.len];exact aZ LO.le (by decide),fun J7 rk7 se7=>⟨rfl,by show 2<=sizeLine;decide,fun q5 hq5=>⟨by show 1<=sizeLine;decide,fun l1 Bo=>?_⟩⟩⟩;have Lf:aI J6 J7:=fun b o e=>se7 _ _ (sN _ _ e) (am e nx);have sQ:=aj (o:=.tup [.int 5,.ref rx]) hq5;have Zj:=aj (o:=.lst [V.ref q5]) Bo;have rd8:=((rd'.kn (fun b o e _=>sB b o e)).kn (fun b o e _=>Lf b o e)).kn (fun b o e _=>(sQ.trans Zj) b o e);refine⟨rl,l1,_,_,rfl,rfl,rd8.l,ae,by show 5<=sizeLine;decide,fun RL hRL=>?_⟩;have sR:=aj (o:=.lst ([V.ref q0,.ref q1,.ref q2,.ref q3]++[.ref q5])) hRL;have gR:(upd (upd (upd J7 q5 (.tup [.int 5,.ref rx])) l1 (.lst [V.ref q5])) RL (.lst ([V.ref q0,.ref q1,.ref q2,.ref q3]++[.ref q5]))) RL=some (.lst [V.ref q0,.ref q1,.ref q2,.ref q3,.ref q5]):=ae;have s78:=(sQ.trans Zj).trans sR;have Qh:=rd8.kn (fun b o e _=>sR b o e);have g5:=sR _ _ (Zj _ _ (ae (H:=J7) (a:=q5) (o:=.tup [.int 5,.ref rx])));have Zk:=Lf.trans s78;have LG:=sB.trans Zk;have r5:=rk7.same s78;have td:=td.same LG;have cn:=cn.kn (fun b o e _=>LG b o e);have Zi:=LG _ _ Zi;have gtu:=Zk _ _ gtu;have glf:=Zk _ _ glf;have kd:=kd.trans (KQ.of LG);generalize upd (upd (upd J7 q5 _) l1 _) RL _=J8 at *;clear LG Zk s78 sR Zj sQ Lf sN sB SC Me Mf QP US hlf hRL Bo hq5 se7 rk7 nx nrd Zb rd8 rd' Bt eq;refine⟨RL,rfl,⟨_,a8.of gR⟩,eM (K:=K) (xs:=[.ref q0,.ref q1,.ref q2,.ref q3,.ref q5]) (fun i σ He=>(∃Mh Mi FU FV FW FX,σ=[some (.ref a),some (.ref rl),some (.ref Ak),x3,x4,some (.int (bt:Nat)),some (.ref t),some (.ref ra),some (.ref px),some (.ref oa),some (.ref fa),some (.ref ha),some (.ref sa),some (.ref tu),some (.ref lf),Mh,Mi,FU,FV,FW,FX])/\js PN PF PT PR He/\KQ PN PF PT PR J8 He) ⟨⟨_,_,_,_,_,_,rfl⟩,td,KQ.of (aI.refl _)⟩ (fun i σ He _ z=>a8.of (z.2.2.kn td _ _ gR nofun)) ?_ ?_⟩
   rotate_left
   .rintro σ He ⟨⟨Mh,Mi,FU,FV,FW,FX,rfl⟩,te,ke⟩;exact⟨⟨_,_,_,_,_,_,_,_,_,_,_,_,_,_,_,_,_,_,rfl⟩,te,kd.trans ke⟩
   rintro i x σ He hx ⟨⟨Mh,Mi,FU,FV,FW,FX,rfl⟩,te,ke⟩;obtain⟨qi,ai,jZ,rfl,w6,w4,eqi,rai⟩:∃ (qi ai jZ:Nat),x=.ref qi/\jZ<6/\jZ≠4/\J8 qi=some (.tup [.int (jZ:Nat),.ref ai])/\Rl CE CN CF CT CI CR ranks J8 jZ ai:=by
    match i,hx with
    |0,hx=>cases hx;exact⟨q0,a0,0,rfl,by decide,by decide,Qh.e.1,Qh.e.2⟩
    |1,hx=>cases hx;exact⟨q1,a1,1,rfl,by decide,by decide,Qh.n.1,Qh.n.2⟩
    |2,hx=>cases hx;exact⟨q2,a2,2,rfl,by decide,by decide,Qh.f.1,Qh.f.2⟩
    |3,hx=>cases hx;exact⟨q3,a3,3,rfl,by decide,by decide,Qh.t.1,Qh.t.2⟩
    |4,hx=>cases hx;exact⟨q5,rx,5,rfl,by decide,by decide,g5,r5⟩
    |i+5,hx=>cases hx
   have kne:=ke.kn td;refine⟨qi,_,rfl,cu.of (kne _ _ eqi nofun),rfl,_,_,rfl,_,_,rfl,rfl,?_⟩;refine⟨_,rfl,_,rfl,by show 2<=sizeLine;decide,fun p1 mY=>⟨_,rfl,_,rfl,by show 2<=sizeLine;decide,fun p2 vP=>⟨_,rfl,_,rfl,by show 2<=sizeLine;decide,fun p3 nE=>⟨by show 3<=sizeLine;decide,fun LL hLL=>?_⟩⟩⟩⟩;have v1:=aj (o:=.tup [.ref ha,.ref sa]) mY;have v2:=aj (o:=.tup [.ref tu,.ref lf]) vP;have v3:=aj (o:=.tup [.ref ha,.ref sa]) nE;have v4:=aj (o:=.lst [V.ref p1,.ref p2,.ref p3]) hLL;have e1:=v4 _ _ (v3 _ _ (v2 _ _ (ae (H:=He) (a:=p1) (o:=.tup [.ref ha,.ref sa]))));have e2:=v4 _ _ (v3 _ _ (ae (H:=upd He p1 (.tup [.ref ha,.ref sa])) (a:=p2) (o:=.tup [.ref tu,.ref lf])));have e3:=v4 _ _ (ae (H:=upd (upd He p1 (.tup [.ref ha,.ref sa])) p2 (.tup [.ref tu,.ref lf])) (a:=p3) (o:=.tup [.ref ha,.ref sa]));have gLL:=ae (H:=upd (upd (upd He p1 (.tup [.ref ha,.ref sa])) p2 (.tup [.ref tu,.ref lf])) p3 (.tup [.ref ha,.ref sa])) (a:=LL) (o:=.lst [V.ref p1,.ref p2,.ref p3]);have v:=((v1.trans v2).trans v3).trans v4;generalize upd (upd (upd (upd He p1 _) p2 _) p3 _) LL _=Hf at *;have tf:=te.same v;have kf:=ke.trans (KQ.of v);have Xv:=kf.kn td;clear v v1 v2 v3 v4 mY vP nE hLL hx;have cf:=cn.kn Xv;have raf:=rai.kn Xv;have aaI:=Xv _ _ Zi nofun;have gtf:=Xv _ _ gtu nofun;have aaJ:=Xv _ _ glf nofun;refine⟨LL,rfl,⟨_,a8.of gLL⟩,eM (K:=K) (xs:=[.ref p1,.ref p2,.ref p3]) (fun j σ Hg=>(∃FU FV FW FX,σ=[some (.ref a),some (.ref rl),some (.ref Ak),x3,x4,some (.int (bt:Nat)),some (.ref t),some (.ref ra),some (.ref px),some (.ref oa),some (.ref fa),some (.ref ha),some (.ref sa),some (.ref tu),some (.ref lf),some (.int (jZ:Nat)),some (.ref ai),FU,FV,FW,FX])/\js PN PF PT PR Hg/\KQ PN PF PT PR Hf Hg) ⟨⟨_,_,_,_,rfl⟩,tf,KQ.of (aI.refl _)⟩ (fun j σ Hg _ z=>a8.of (z.2.2.kn tf _ _ gLL nofun)) ?_ ?_⟩
   rotate_left
   .rintro σ Hg ⟨⟨FU,FV,FW,FX,rfl⟩,tg,kg⟩;exact⟨⟨_,_,_,_,_,_,rfl⟩,tg,kf.trans kg⟩
   rintro j x σ Hg hx ⟨⟨FU,FV,FW,FX,rfl⟩,tg,kg⟩;obtain⟨pj,ea,eb,hm,sj,rfl,ej,Xw,Xx,lej,sdj,hml⟩:∃ (pj ea eb:Nat) (hm:aQ) (sj:bA),x=.ref pj/\Hf pj=some (.tup [.ref ea,.ref eb])/\Hf ea=some (.tup (NV hm))/\Hf eb=some (.tup (sj.map oV))/\sj.length<=16/\kI n ts hm sj/\hm.length=homes.length:=by
    match j,hx with
    |0,hx=>cases hx;exact⟨p1,ha,sa,homes,st,rfl,e1,cf.he,cf.se,cf.le,cf.sd,rfl⟩
    |1,hx=>cases hx;exact⟨p2,tu,lf,gv homes,_,rfl,e2,gtf,aaJ,by rw[mX];exact cf.le,Oh cf.sd,rK⟩
    |2,hx=>cases hx;exact⟨p3,ha,sa,homes,st,rfl,e3,cf.he,cf.se,cf.le,cf.sd,rfl⟩
    |j+3,hx=>cases hx
   have UT:=kg.kn tf;have cg:=cf.kn UT;have LOj:=sdj.let lej;have Xw:=UT _ _ Xw nofun;have Xx:=UT _ _ Xx nofun;refine⟨pj,_,rfl,cu.of (UT _ _ ej nofun),rfl,_,_,rfl,_,_,rfl,rfl,?_⟩;refine⟨_,rfl,_,rfl,_,rfl,_,rfl,_,rfl,_,rfl,jZ,fa,ea,eb,ra,(bt:Nat),n,ts,_,hm,sj,ranks,rfl,w6,cg.far,trivial,Xw,Xx,LOj,UT _ _ aaI nofun,by rw[S9,hml],fun d Hh out sh hd0 hdh op pw=>?_⟩;have ch:=cg.kn (fun b o e _=>sh b o e);refine⟨_,rfl,_,rfl,_,rfl,_,rfl,_,rfl,d,oa,fa,ea,eb,n,ts,_,_,hm,out,sj,rfl,hdh,op,fi,ch.out,trivial,ch.far,trivial,sh _ _ Xw,sh _ _ Xx,LOj,sdj,fun wk Hi si hwk=>?_⟩;have Xy:=sh.trans si;have ci':=ch.kn (fun b o e _=>si b o e);have ti:=tg.same Xy;refine⟨_,rfl,_,rfl,_,rfl,_,rfl,_,rfl,_,ai,px,ea,eb,_,jZ,n,ts,hm,sj,ranks,rfl,w6,w4,(raf.kn UT).kn (fun b o e _=>Xy b o e),ci'.net,Xy _ _ Xw,Xy _ _ Xx,LOj,by lia,by rw[S9,hml],ti,fun tt Hj m_ tj kj Vh pw' htj=>?_⟩;have Nf:∀m∈oZ sj sj.length,m<64:=fun m hm=>by have:=(jD hm).1;lia
   obtain rfl:m_=out:=S4 Nf Vh op pw' pw;refine⟨_,rfl,tt,wk,_,rfl,htj,kj.kn ti _ _ hwk nofun,by rw[(SX sdj Vh).hd.len];exact lej,fun Hk sk=>⟨_,rfl,jT ⟨⟨_,_,_,_,rfl⟩,tj.same sk,((kg.trans (KQ.of Xy)).trans kj).trans (KQ.of sk)⟩⟩⟩
def FD(K:a_)(n:Str)(st:Stmt):Prop:=∃ (f:Addr) (oc:Value) (od an:jt) (sl:nh) (kV dc pm cd ct:Value),W.nsIn K mainGlobals n=some (some (.ref f))/\K.lookup f=some ⟨oc,od,.func (W.fnOf n n (eE st) (cP st) (aw st) .none kV dc pm an cd ct),sl⟩/\W.codeIn K cd n=true/\W.keepIn K (.ref f)=true
def FC(K:a_)(n:Str)(st:Stmt)(c:Addr):Prop:=∃ (f:Addr) (oc:Value) (od an:jt) (sl:nh) (kV dc pm ct:Value),W.nsIn K mainGlobals n=some (some (.ref f))/\K.lookup f=some ⟨oc,od,.func (W.fnOf n n (eE st) (cP st) (aw st) .none kV dc pm an (.ref c) ct),sl⟩/\W.codeIn K (.ref c) n=true/\W.keepIn K (.ref f)=true
def MD(K:a_)(C:Addr)(n q:Str)(st:Stmt):Prop:=∃ (f:Addr) (oc:Value) (od an:jt) (sl:nh) (kV dc pm cd ct:Value),W.findIn K (.ref C) n=some (some (.ref f))/\W.isFn K (.ref f)=true/\K.lookup f=some ⟨oc,od,.func (W.fnOf n q (eE st) (cP st) (aw st) .none kV dc pm an cd ct),sl⟩/\W.codeIn K cd q=true/\W.keepIn K (.ref f)=true
def MC(K:a_)(C:Addr)(n q:Str)(st:Stmt)(c:Addr):Prop:=∃ (f:Addr) (oc:Value) (od an:jt) (sl:nh) (kV dc pm ct:Value),W.findIn K (.ref C) n=some (some (.ref f))/\W.isFn K (.ref f)=true/\K.lookup f=some ⟨oc,od,.func (W.fnOf n q (eE st) (cP st) (aw st) .none kV dc pm an (.ref c) ct),sl⟩/\W.codeIn K (.ref c) q=true/\W.keepIn K (.ref f)=true
section
variable {P:bL} {w:World} {K:a_} {mg:cr} {base h:Heap} {n q:Str} {st:Stmt} {f c C:Addr} {oc kV dc pm cd ct:Value} {od an:jt} {sl:nh} {CX:Bk} {k:Nat} {ps:bQ} {sp:Sp}
theorem FD.mk(a:W.nsIn K mainGlobals n=some (some (.ref f)))(l:K.lookup f=some ⟨oc,od,.func (W.fnOf n n (eE st) (cP st) (aw st) .none kV dc pm an cd ct),sl⟩)(d:W.codeIn K cd n=true)(k:W.keepIn K (.ref f)=true):FD K n st:=⟨f,oc,od,an,sl,kV,dc,pm,cd,ct,a,l,d,k⟩
theorem FC.mk(a:W.nsIn K mainGlobals n=some (some (.ref f)))(l:K.lookup f=some ⟨oc,od,.func (W.fnOf n n (eE st) (cP st) (aw st) .none kV dc pm an (.ref c) ct),sl⟩)(d:W.codeIn K (.ref c) n=true)(k:W.keepIn K (.ref f)=true):FC K n st c:=⟨f,oc,od,an,sl,kV,dc,pm,ct,a,l,d,k⟩
theorem MD.mk(a:W.findIn K (.ref C) n=some (some (.ref f)))(i:W.isFn K (.ref f)=true)(l:K.lookup f=some ⟨oc,od,.func (W.fnOf n q (eE st) (cP st) (aw st) .none kV dc pm an cd ct),sl⟩)(d:W.codeIn K cd q=true)(k:W.keepIn K (.ref f)=true):MD K C n q st:=⟨f,oc,od,an,sl,kV,dc,pm,cd,ct,a,i,l,d,k⟩
theorem MC.mk(a:W.findIn K (.ref C) n=some (some (.ref f)))(i:W.isFn K (.ref f)=true)(l:K.lookup f=some ⟨oc,od,.func (W.fnOf n q (eE st) (cP st) (aw st) .none kV dc pm an (.ref c) ct),sl⟩)(d:W.codeIn K (.ref c) q=true)(k:W.keepIn K (.ref f)=true):MC K C n q st c:=⟨f,oc,od,an,sl,kV,dc,pm,ct,a,i,l,d,k⟩
def BD(n q:Str)(st:Stmt)(ps:bQ):Prop:=∀ (kV pC pm:Value) (an:jt) (fX ct:Value) (us:bw),us.length=ps.length->bindArgs (W.fnOf n q (eE st) (cP st) (aw st) .none kV pC pm an fX ct) ⟨us,[]⟩=pure (ps.zip us)
theorem FD.iV(X:K.In h)(G:h.Ns mainGlobals mg)(D:FD K n st)(b:BD n n st ps)(o:∀ {f fd},iI K n n st f fd->bU Pzz w K mg base CX k f fd ps sp):d9 Pzz w K mg base CX k n ps sp:=by
 obtain⟨f,_,_,_,_,_,_,_,_,_,a,l,d,kp⟩:=D;have F:=u8 (x:=n) (qual:=n) (st:=st) l d kp;exact⟨⟨f,_,W.mg_of X G a,kp,F.binds b,o F⟩⟩
theorem FC.iV(X:K.In h)(G:h.Ns mainGlobals mg)(D:FC K n st c)(b:BD n n st ps)(o:∀ {f fd},sU K n n st f fd c->bU Pzz w K mg base CX k f fd ps sp):d9 Pzz w K mg base CX k n ps sp:=by
 obtain⟨f,_,_,_,_,_,_,_,_,a,l,d,kp⟩:=D;have F:=ER (x:=n) (qual:=n) (st:=st) l d kp;exact⟨⟨f,_,W.mg_of X G a,kp,F.fun.binds b,o F⟩⟩
theorem MD.iV(D:MD K C n q st)(b:BD n q st ps)(o:∀ {f fd},iI K n q st f fd->bU Pzz w K mg base CX k f fd ps sp):jX Pzz w K mg base CX k C n ps sp:=by
 obtain⟨f,_,_,_,_,_,_,_,_,_,a,i,l,d,kp⟩:=D;have F:=u8 (x:=n) (qual:=q) (st:=st) l d kp;exact⟨⟨f,_,⟨a,i,kp⟩,F.binds b,o F⟩⟩
theorem MC.iV(D:MC K C n q st c)(b:BD n q st ps)(o:∀ {f fd},sU K n q st f fd c->bU Pzz w K mg base CX k f fd ps sp):jX Pzz w K mg base CX k C n ps sp:=by
 obtain⟨f,_,_,_,_,_,_,_,_,a,i,l,d,kp⟩:=D;have F:=ER (x:=n) (qual:=q) (st:=st) l d kp;exact⟨⟨f,_,⟨a,i,kp⟩,F.fun.binds b,o F⟩⟩
end
theorem mL{α:Type}{Pzz:List α->Prop}(h:∀a0,Pzz [a0])(l:List α)(e:l.length=1):Pzz l:=by
 cases l with
 |nil=>cases e
 |cons a t=>cases t with
  |nil=>exact h a
  |cons b t=>cases e
theorem ii{α:Type}{Pzz:List α->Prop}(h:∀a0 a1,Pzz [a0,a1])(l:List α)(e:l.length=2):Pzz l:=by
 cases l with
 |nil=>cases e
 |cons a t=>exact mL (Pzz:=fun t=>Pzz (a::t)) (h a) t (uJ e)
theorem nI{α:Type}{Pzz:List α->Prop}(h:∀a0 a1 a2,Pzz [a0,a1,a2])(l:List α)(e:l.length=3):Pzz l:=by
 cases l with
 |nil=>cases e
 |cons a t=>exact ii (Pzz:=fun t=>Pzz (a::t)) (h a) t (uJ e)
theorem LH{α:Type}{Pzz:List α->Prop}(h:∀a0 a1 a2 a3,Pzz [a0,a1,a2,a3])(l:List α)(e:l.length=4):Pzz l:=by
 cases l with
 |nil=>cases e
 |cons a t=>exact nI (Pzz:=fun t=>Pzz (a::t)) (h a) t (uJ e)
theorem nJ{α:Type}{Pzz:List α->Prop}(h:∀a0 a1 a2 a3 a4,Pzz [a0,a1,a2,a3,a4])(l:List α)(e:l.length=5):Pzz l:=by
 cases l with
 |nil=>cases e
 |cons a t=>exact LH (Pzz:=fun t=>Pzz (a::t)) (h a) t (uJ e)
theorem Qi{α:Type}{Pzz:List α->Prop}(h:∀a0 a1 a2 a3 a4 a5,Pzz [a0,a1,a2,a3,a4,a5])(l:List α)(e:l.length=6):Pzz l:=by
 cases l with
 |nil=>cases e
 |cons a t=>exact nJ (Pzz:=fun t=>Pzz (a::t)) (h a) t (uJ e)
theorem Tf{l:W.OpenLaw}{w:World}{K:a_}{h:Heap}{mg:cr}{fa:Addr}(X:K.In h)(G:h.Ns mainGlobals mg)(Zc:mg "law"=some (.ref fa)){C cO Pt cN PN cF PF cT PT cR PR fq dF cS ft dw cD:Addr}{tw wj tD:Tok}(aC:W.nsIn K mainGlobals "Net"=some (some (.ref C)))(Ou:W.nsIn K mainGlobals "Elder"=some (some (.ref fq)))(HS:W.nsIn K mainGlobals "Nearest"=some (some (.ref dF)))(Ei:W.nsIn K mainGlobals "Farthest"=some (some (.ref cS)))(Ov:W.nsIn K mainGlobals "Turns"=some (some (.ref ft)))(LI:W.nsIn K mainGlobals "InTurn"=some (some (.ref dw)))(Bd:W.nsIn K mainGlobals "Ranked"=some (some (.ref cD)))(Ow:FD K "is_whole" Du)(LJ:FD K "is_whole_within" yB)(Ox:FD K "is_house" Dv)(Xz:FD K "is_row" Rq)(XA:FD K "are_unlike_houses" RD)(XB:FD K "is_tie" RB)(Oy:FD K "check_ties" DA)(XC:FD K "check_balance" RC)(Tg:FC K "houses_out" AR cO)(Th:FD K "distances_from" Kz)(Oz:FD K "check_reached" DB)(aaK:FD K "under_way" sUW)(aaL:FD K "first_free" sFF)(XD:FD K "_law_pot" R_)(Ti:FD K "_law_take" KI)(Tj:FD K "_law_beat" KJ)(Tk:FD K "_law_ring" K1)(Tl:FD K "_law_some_pairs" K2)(XE:FD K "_law_box" Si)(OA:FD K "_law_words" vI)(XF:FD K "_law_one_way" Sm)(XG:FD K "_law_renamed" Sn)(XH:FD K "_law_net" Sy)(OB:FD K "_law_outs" DU)(To:FD K "_law_far" Lg)(OC:FD K "_law_start" DV)(Tp:FD K "_law_case" Lq)(OE:FD K "_law_ranks" D_)(aaM:FD K "hand_in_turn" sHT)(aaN:FD K "hand_eagerly" sHE)(Tq:FD K "hand" Ln)(Tt:FD K "_law_order" Ly)(Tu:FD K "_law_free" LA)(OF:FD K "_law_good" Ee)(aaO:FD K "_law_is_handing" sIH)(Tv:FD K "_law_walk" LB)(XI:FD K "law" Eh)(Tw:MD K C "__init__" "Net.__init__" Fd)(OG:MD K C "check_house" "Net.check_house" Dy)(XJ:MD K C "far" "Net.far" Rx)(XM:MD K C "out" "Net.out" Rv)(Tx:MD K C "good" "Net.good" Ks)(pg:W.plainGet K C Str.empty=true)(aaP:W.hasDictIn K C=true)(po:W.plainOver K C=true)(sa:W.findIn K (.ref C) "__setattr__"=some (some (.builtin "object.__setattr__")))(mk:W.makesIn K C=true)(kc:W.keepIn K (.ref C)=true)(nH:W.findIn K (.ref C) "house_count"=some none)(nT:W.findIn K (.ref C) "tie_list"=some none)(nO:W.findIn K (.ref C) "out_lists"=some none)(nD:W.findIn K (.ref C) "distances"=some none)(zk:W.nsIn K mainGlobals "isinstance"=some none)(XN:W.nsIn K mainGlobals "int"=some none)(Tz:W.nsIn K mainGlobals "bool"=some none)(OH:W.nsIn K mainGlobals "tuple"=some none)(TB:W.nsIn K mainGlobals "list"=some none)(XO:W.nsIn K mainGlobals "str"=some none)(XQ:W.nsIn K mainGlobals "set"=some none)(XR:W.nsIn K mainGlobals "len"=some none)(OI:W.nsIn K mainGlobals "range"=some none)(LK:W.nsIn K mainGlobals "sorted"=some none)(XS:W.nsIn K mainGlobals "any"=some none)(XT:W.nsIn K mainGlobals "max"=some none)(XU:W.nsIn K mainGlobals "min"=some none)(zm:W.nsIn K mainGlobals "ValueError"=some none)(XV:W.nsIn K mainGlobals "all"=some none)(XW:W.nsIn K mainGlobals "abs"=some none)(LM:W.nsIn K mainGlobals "divmod"=some none)(TC:W.nsIn K mainGlobals "dict"=some none)(XX:W.nsIn K mainGlobals "zip"=some none)(TD:W.nsIn K mainGlobals "repr"=some none)(su:W.nsIn K mainGlobals "enumerate"=some none)(tE:W.nsIn K mainGlobals "FEWEST_HOUSES"=some (some (.int 2 tw)))(wm:W.nsIn K mainGlobals "MOST_HOUSES"=some (some (.int 32 wj)))(tG:W.nsIn K mainGlobals "MOST_TIES_OUT"=some (some (.int 8 tD)))(HU:W.specialIn K (.builtin "object.__class__") "__get__"=some (some (.builtin "getset_descriptor.__get__")))(HV:W.takesIn K (.builtin "object.__class__")=some true)(aaQ:W.plainGet K fq Str.empty=true)(aaR:W.hasDictIn K fq=true)(aaS:W.plainOver K fq=true)(aaT:W.findIn K (.ref fq) "__setattr__"=some (some (.builtin "object.__setattr__")))(aaU:W.findIn K (.ref fq) "__class__"=some (some (.builtin "object.__class__")))(aaV:W.mroIn K fq (.type "object")=some true)(aaW:W.kitOne K (.ref fq) (.ref dw)=some false)(aaX:W.makesIn K fq=true)(aaY:W.keepIn K (.ref fq)=true)(aaZ:W.findIn K (.ref fq) "__init__"=some (some (.builtin "object.__init__")))(aa0:MD K fq "order" "Rule.order" Fz)(aa1:W.plainGet K dF Str.empty=true)(aa2:W.hasDictIn K dF=true)(aa3:W.plainOver K dF=true)(aa4:W.findIn K (.ref dF) "__setattr__"=some (some (.builtin "object.__setattr__")))(aa5:W.findIn K (.ref dF) "__class__"=some (some (.builtin "object.__class__")))(aa6:W.mroIn K dF (.type "object")=some true)(aa7:W.kitOne K (.ref dF) (.ref dw)=some false)(aa8:W.makesIn K dF=true)(aa9:W.keepIn K (.ref dF)=true)(aba:W.findIn K (.ref dF) "__init__"=some (some (.builtin "object.__init__")))(abb:MC K dF "order" "Nearest.order" xi cN)(abc:W.plainGet K cS Str.empty=true)(abd:W.hasDictIn K cS=true)(abe:W.plainOver K cS=true)(abf:W.findIn K (.ref cS) "__setattr__"=some (some (.builtin "object.__setattr__")))(abg:W.findIn K (.ref cS) "__class__"=some (some (.builtin "object.__class__")))(abh:W.mroIn K cS (.type "object")=some true)(abi:W.kitOne K (.ref cS) (.ref dw)=some false)(abj:W.makesIn K cS=true)(abk:W.keepIn K (.ref cS)=true)(abl:W.findIn K (.ref cS) "__init__"=some (some (.builtin "object.__init__")))(abm:MC K cS "order" "Farthest.order" xj cF)(abn:W.plainGet K ft Str.empty=true)(abo:W.hasDictIn K ft=true)(abp:W.plainOver K ft=true)(abq:W.findIn K (.ref ft) "__setattr__"=some (some (.builtin "object.__setattr__")))(abr:W.findIn K (.ref ft) "__class__"=some (some (.builtin "object.__class__")))(abt:W.mroIn K ft (.type "object")=some true)(abu:W.kitOne K (.ref ft) (.ref dw)=some false)(abv:W.makesIn K ft=true)(abw:W.keepIn K (.ref ft)=true)(abx:W.findIn K (.ref ft) "__init__"=some (some (.builtin "object.__init__")))(aby:MC K ft "order" "Turns.order" xk cT)(abz:W.plainGet K dw Str.empty=true)(abA:W.hasDictIn K dw=true)(abB:W.plainOver K dw=true)(abC:W.findIn K (.ref dw) "__setattr__"=some (some (.builtin "object.__setattr__")))(abD:W.findIn K (.ref dw) "__class__"=some (some (.builtin "object.__class__")))(abE:W.mroIn K dw (.type "object")=some true)(abF:W.kitOne K (.ref dw) (.ref dw)=some true)(abG:MD K dw "order" "Rule.order" Fz)(XY:W.plainGet K cD Str.empty=true)(XZ:W.hasDictIn K cD=true)(X0:W.plainOver K cD=true)(X1:W.findIn K (.ref cD) "__setattr__"=some (some (.builtin "object.__setattr__")))(abH:W.findIn K (.ref cD) "__class__"=some (some (.builtin "object.__class__")))(abI:W.mroIn K cD (.type "object")=some true)(abJ:W.kitOne K (.ref cD) (.ref dw)=some false)(abK:W.makesIn K cD=true)(abL:W.keepIn K (.ref cD)=true)(abM:MC K cD "order" "Ranked.order" xm cR)(abN:MD K cD "check_letters" "Ranked.check_letters" Lr)(TF:MD K cD "__init__" "Ranked.__init__" yY)(abO:W.findIn K (.ref cD) "ranks"=some none)(q_n:W.codeHdIn K cN PN=true)(q_f:W.codeHdIn K cF PF=true)(q_t:W.codeHdIn K cT PT=true)(q_r:W.codeHdIn K cR PR=true)(ndT:[PN,PF,PT,PR].Nodup)(nPt:Pt∉[PN,PF,PT,PR])(TH:W.codeHdIn K cO Pt=true):
  ∃fd:FuncData,(∀ (s:aR) (v:Value),BindsTo s fd ⟨[v],[]⟩ [("_law_script",v)])/\∀base:Heap,K.In base->base.Ns mainGlobals mg->rf mg base->bU l.prog w K mg base bo 11 fa fd ["_law_script"] (FT K Pt PN PF PT PR):=by
 obtain⟨aci,oc,od,an,sl,kV,dc,pm,cd,ct,X2,X3,X4,X5⟩:=XI;have e:=Zc.symm.trans (W.mg_of X G X2);cases e;have X6:=u8 (x:="law") (qual:="law") (st:=Eh) X3 X4 X5;obtain⟨f_i,oci,odi,ani,sli,kVi,dci,pmi,cdi,cti,a_i,i_i,l_i,d_i,k_i⟩:=Tw;have Be:=u8 (x:="__init__") (qual:="Net.__init__") (st:=Fd) l_i d_i k_i;have LN:=Be.binds (ps:=["self","many","ties"]) fun _ _ _ _ _ _=>nI fun _ _ _=>rfl;have MK:Mk K C f_i:=⟨mk,a_i,i_i,kc⟩
 have B:Bl mg:=⟨W.mg_none_of X G zk,W.mg_none_of X G XN,W.mg_none_of X G Tz,W.mg_none_of X G OH,W.mg_none_of X G TB,W.mg_none_of X G XO,W.mg_none_of X G XQ,W.mg_none_of X G XR,W.mg_none_of X G OI,W.mg_none_of X G LK,W.mg_none_of X G XS,W.mg_none_of X G XT,W.mg_none_of X G XU,W.mg_none_of X G zm,W.mg_none_of X G XV⟩
 have T:NT K mg C:=⟨⟨pg,aaP,po,sa⟩,nH,nT,nO,nD,W.mg_of X G aC⟩
 have B2:UB mg:=⟨W.mg_none_of X G XW,W.mg_none_of X G LM,W.mg_none_of X G TC,W.mg_none_of X G XX,W.mg_none_of X G TD⟩
 have hE:mg "enumerate"=none:=W.mg_none_of X G su;have RKT:Zf K mg cD:=⟨⟨XY,XZ,X0,X1⟩,abO,W.mg_of X G Bd⟩
 obtain⟨X7,oc9,od9,an9,sl9,kV9,dc9,pm9,cd9,ct9,abP,abQ,abR,abS,abT⟩:=TF;have X8:=u8 (x:="__init__") (qual:="Ranked.__init__") (st:=yY) abR abS abT;have abU:=X8.binds (ps:=["self","ranks"]) fun _ _ _ _ _ _=>ii fun _ _=>rfl;have RMK:Mk K cD X7:=⟨abK,abP,abQ,abL⟩
 refine⟨W.fnOf "law" "law" (eE Eh) (cP Eh) (aw Eh) .none kV dc pm an cd ct,fun s v=>.of_eq rfl,fun base kb nb hb=>?_⟩;have FY:d9 l.prog w K mg base bo 1 "is_whole" ["thing"] (pV K):=FD.iV X G Ow (fun _ _ _ _ _ _=>mL fun _=>rfl) fun OJ=>Km OJ B;have Bg:d9 l.prog w K mg base bo 2 "is_whole_within" ["thing","least","most"] (pW K):=FD.iV X G LJ (fun _ _ _ _ _ _=>nI fun _ _ _=>rfl) fun LP=>Hq LP FY;have FZ:d9 l.prog w K mg base bo 3 "is_house" ["many","thing"] (tZ K):=FD.iV X G Ox (fun _ _ _ _ _ _=>ii fun _ _=>rfl) fun OK=>Kp OK Bg;have X9:d9 l.prog w K mg base bo 1 "is_row" ["thing","length"] (Kq K):=FD.iV X G Xz (fun _ _ _ _ _ _=>ii fun _ _=>rfl) fun X_=>Rt X_ B;have Ya:d9 l.prog w K mg base bo 4 "are_unlike_houses" ["many","one","other"] Ku:=FD.iV X G XA (fun _ _ _ _ _ _=>nI fun _ _ _=>rfl) fun Yb=>RE Yb FZ;have Yc:d9 l.prog w K mg base bo 5 "is_tie" ["many","thing"] Kv:=FD.iV X G XB (fun _ _ _ _ _ _=>ii fun _ _=>rfl) fun Yd=>RH Yd X9 Ya;have OL:d9 l.prog w K mg base bo 6 "check_ties" ["many","ties"] mT:=FD.iV X G Oy (fun _ _ _ _ _ _=>ii fun _ _=>rfl) fun OM=>Kx OM B ⟨_,W.mg_of X G tE⟩ ⟨_,W.mg_of X G wm⟩ Bg Yc;have Ye:d9 l.prog w K mg base bo 1 "check_balance" ["many","ties"] mT:=FD.iV X G XC (fun _ _ _ _ _ _=>ii fun _ _=>rfl) fun Yf=>RI Yf B ⟨_,W.mg_of X G tG⟩;have TJ:d9 l.prog w K mg base bo 1 "houses_out" ["many","ties","house"] (yE Pt):=FC.iV X G Tg (fun _ _ _ _ _ _=>nI fun _ _ _=>rfl) fun TL=>Ny TL B kb hb TH;have TM:d9 l.prog w K mg base bo 1 "distances_from" ["out_lists","start"] yF:=FD.iV X G Th (fun _ _ _ _ _ _=>ii fun _ _=>rfl) fun TN=>Nz TN B;have ON:d9 l.prog w K mg base bo 1 "check_reached" ["distances"] yH:=FD.iV X G Oz (fun _ _ _ _ _ _=>mL fun _=>rfl) fun OO=>KD OO B;have TQ:bU l.prog w K mg base bo 7 f_i _ ["self","many","ties"] (DD C Pt):=ND Be T B OL Ye TJ TM ON;have F3:jX l.prog w K mg base bo 4 C "check_house" ["self","thing"] (pX C):=MD.iV OG (fun _ _ _ _ _ _=>ii fun _ _=>rfl) fun HW=>Hu HW T FZ;have LQ:jX l.prog w K mg base bo 5 C "far" ["self","one","other"] (oJ C):=MD.iV XJ (fun _ _ _ _ _ _=>nI fun _ _ _=>rfl) fun OP=>Np OP T F3;have Yg:jX l.prog w K mg base bo 5 C "out" ["self","house"] (Dz C):=MD.iV XM (fun _ _ _ _ _ _=>ii fun _ _=>rfl) fun OQ=>No OQ T B F3;have TR:jX l.prog w K mg base bo 6 C "good" ["self","house","home"] (yV C):=MD.iV Tx (fun _ _ _ _ _ _=>nI fun _ _ _=>rfl) fun LR=>Lp LR T LQ;have HX:d9 l.prog w K mg base bo 1 "under_way" ["stand"] DX:=FD.iV X G aaK (fun _ _ _ _ _ _=>mL fun _=>rfl) fun abV=>Xa abV (W.mg_none_of X G su);have abW:d9 l.prog w K mg base bo 1 "first_free" ["others","stand","goes","letter"] SG:=FD.iV X G aaL (fun _ _ _ _ _ _=>LH fun _ _ _ _=>rfl) fun abX=>Xb abX B;have Yh:d9 l.prog w K mg base bo 1 "_law_pot" ["_law_script","_law_k"] (KM K):=FD.iV X G XD (fun _ _ _ _ _ _=>ii fun _ _=>rfl) fun Yi=>Sa Yi B B2;have lr:d9 l.prog w K mg base bo 1 "_law_take" ["_law_pot_here","_law_many"] ip:=FD.iV X G Ti (fun _ _ _ _ _ _=>ii fun _ _=>rfl) fun TU=>NM TU B2;have TV:d9 l.prog w K mg base bo 2 "_law_beat" ["_law_pot_here"] DL:=FD.iV X G Tj (fun _ _ _ _ _ _=>mL fun _=>rfl) fun TW=>NN TW lr;have LU:d9 l.prog w K mg base bo 1 "_law_ring" ["_law_many"] yN:=FD.iV X G Tk (fun _ _ _ _ _ _=>mL fun _=>rfl) fun TX=>NR TX B;have TY:d9 l.prog w K mg base bo 2 "_law_some_pairs" ["_law_pot_here","_law_many","_law_more"] DO:=FD.iV X G Tl (fun _ _ _ _ _ _=>nI fun _ _ _=>rfl) fun TZ=>NU TZ B lr;have Yj:d9 l.prog w K mg base bo 2 "_law_box" ["_law_pot_here"] xg:=FD.iV X G XE (fun _ _ _ _ _ _=>mL fun _=>rfl) fun Yk=>Sj Yk B lr;have OR:d9 l.prog w K mg base bo 2 "_law_words" ["_law_pot_here"] xg:=FD.iV X G OA (fun _ _ _ _ _ _=>mL fun _=>rfl) fun OS=>K7 OS B lr;have Yl:d9 l.prog w K mg base bo 2 "_law_one_way" ["_law_pot_here","_law_many"] Le:=FD.iV X G XF (fun _ _ _ _ _ _=>ii fun _ _=>rfl) fun Ym=>Ss Ym B B2 lr LU;have Yn:d9 l.prog w K mg base bo 2 "_law_renamed" ["_law_pot_here","_law_many","_law_ties"] Fw:=FD.iV X G XG (fun _ _ _ _ _ _=>nI fun _ _ _=>rfl) fun Yo=>Sr Yo B lr;have Yp:d9 l.prog w K mg base bo 3 "_law_net" ["_law_pot_here"] Lj:=FD.iV X G XH (fun _ _ _ _ _ _=>mL fun _=>rfl) fun Yq=>Sz Yq B lr LU Yj OR TY Yl Yn;have OT:d9 l.prog w K mg base bo 1 "_law_outs" ["_law_many","_law_ties"] yS:=FD.iV X G OB (fun _ _ _ _ _ _=>ii fun _ _=>rfl) fun OV=>Lk OV B B2;have T4:d9 l.prog w K mg base bo 1 "_law_far" ["_law_outs_here"] DT:=FD.iV X G To (fun _ _ _ _ _ _=>mL fun _=>rfl) fun T5=>N0 T5 B;have OX:d9 l.prog w K mg base bo 2 "_law_start" ["_law_pot_here","_law_outs_here"] yT:=FD.iV X G OC (fun _ _ _ _ _ _=>ii fun _ _=>rfl) fun OY=>Lm OY B lr;have T6:d9 l.prog w K mg base bo 9 "_law_case" ["_law_pot_here"] (DY C Pt):=FD.iV X G Tp (fun _ _ _ _ _ _=>mL fun _=>rfl) fun T7=>Ob T7 T MK LN TQ Yp OT OX T4;have OZ:d9 l.prog w K mg base bo 2 "_law_ranks" ["_law_pot_here","_law_many"] zh:=FD.iV X G OE (fun _ _ _ _ _ _=>ii fun _ _=>rfl) fun O0=>Lz O0 B lr;have abY:bU l.prog w K mg base bo 2 X7 _ ["self","ranks"] (ze cD):=Ls X8 B RKT FY;have Yr:jX l.prog w K mg base bo 1 cD "check_letters" ["self","homes"] (D8 cD):=MD.iV abN (fun _ _ _ _ _ _=>ii fun _ _=>rfl) fun F=>Oe F B RKT;have RS:Xn l.prog w K mg base C fq dF cS ft dw cD PN PF PT PR:=⟨⟨⟨aaQ,aaR,aaS,aaT⟩,W.mg_of X G Ou,aaU,HU,HV,aaV,aaW⟩,⟨⟨aa1,aa2,aa3,aa4⟩,W.mg_of X G HS,aa5,HU,HV,aa6,aa7⟩,⟨⟨abc,abd,abe,abf⟩,W.mg_of X G Ei,abg,HU,HV,abh,abi⟩,⟨⟨abn,abo,abp,abq⟩,W.mg_of X G Ov,abr,HU,HV,abt,abu⟩,⟨⟨abz,abA,abB,abC⟩,W.mg_of X G LI,abD,HU,HV,abE,abF⟩,⟨⟨XY,XZ,X0,X1⟩,W.mg_of X G Bd,abH,HU,HV,abI,abJ⟩,ndT,(MD.iV aa0 (fun _ _ _ _ _ _=>nJ fun _ _ _ _ _=>rfl) fun F=>FE F HX),(MC.iV abb (fun _ _ _ _ _ _=>nJ fun _ _ _ _ _=>rfl) fun F=>Xh F B kb hb q_n T LQ HX),(MC.iV abm (fun _ _ _ _ _ _=>nJ fun _ _ _ _ _=>rfl) fun F=>Xi F B kb hb q_f T LQ HX),(MC.iV aby (fun _ _ _ _ _ _=>nJ fun _ _ _ _ _=>rfl) fun F=>Xj F B kb hb q_t HX),(MD.iV abG (fun _ _ _ _ _ _=>nJ fun _ _ _ _ _=>rfl) fun F=>FE F HX),(MC.iV abM (fun _ _ _ _ _ _=>nJ fun _ _ _ _ _=>rfl) fun F=>Xk F B kb hb q_r RKT Yr HX)⟩
 have abZ:d9 l.prog w K mg base bo 1 "hand_in_turn" ["net","homes","stand","letters","goes"] S8:=FD.iV X G aaM (fun _ _ _ _ _ _=>nJ fun _ _ _ _ _=>rfl) fun acu=>Xq;have ab0:d9 l.prog w K mg base bo 7 "hand_eagerly" ["net","homes","stand","letters","goes"] (S7 C):=FD.iV X G aaN (fun _ _ _ _ _ _=>nJ fun _ _ _ _ _=>rfl) fun ab1=>Xo ab1 T TR Yg abW;have T8:d9 l.prog w K mg base bo 10 "hand" ["rule","net","homes","stand","beat"] (Ed C fq dF cS ft dw cD PN PF PT PR):=FD.iV X G Tq (fun _ _ _ _ _ _=>nJ fun _ _ _ _ _=>rfl) fun T9=>Ol T9 B RS abZ ab0;have T_:d9 l.prog w K mg base bo 1 "_law_order" ["_law_way","_law_far_here","_law_homes","_law_stand","_law_beat_here","_law_ranks_here"] Eb:=FD.iV X G Tt (fun _ _ _ _ _ _=>Qi fun _ _ _ _ _ _=>rfl) fun Ua=>Oj Ua B hE;have Ub:d9 l.prog w K mg base bo 1 "_law_free" ["_law_house","_law_some","_law_taken"] Ef:=FD.iV X G Tu (fun _ _ _ _ _ _=>nI fun _ _ _=>rfl) fun Uc=>Op Uc;have O1:d9 l.prog w K mg base bo 1 "_law_good" ["_law_outs_here","_law_far_here","_law_house","_law_home"] zj:=FD.iV X G OF (fun _ _ _ _ _ _=>LH fun _ _ _ _=>rfl) fun O2=>LC O2;have ab2:d9 l.prog w K mg base bo 1 "_law_is_handing" ["_law_told","_law_due"] Tc:=FD.iV X G aaO (fun _ _ _ _ _ _=>ii fun _ _=>rfl) fun ab3=>Xs ab3 B;have Ud:d9 l.prog w K mg base bo 2 "_law_walk" ["_law_order_here","_law_outs_here","_law_far_here","_law_homes","_law_stand","_law_at_once"] Eg:=FD.iV X G Tv (fun _ _ _ _ _ _=>Qi fun _ _ _ _ _ _=>rfl) fun Ue=>Os Ue B Ub O1;exact Te X6 B B2 RS nPt ⟨aaX,aaZ,aaY⟩ ⟨aa8,aba,aa9⟩ ⟨abj,abl,abk⟩ ⟨abv,abx,abw⟩ RMK abU abY Yh TV T6 OZ T_ T8 Ud ab2
theorem Bh(h:((List.range 2000).any fun c=>W.codeHdIn K c Pzz)=true):∃c,W.codeHdIn K c Pzz=true:=
 let ⟨c,_,e⟩:=xF.mp h;⟨c,e⟩
theorem Uf(hO:EQ ts H)(h:a8 K H a xs):Qg K H a xs:=by
 rcases h with h|h
 .rcases h with h|⟨o,h⟩
  .rcases hO.2 a with z|⟨_,z⟩|⟨o,ys,z⟩ <;> · rw[h] at z;cases z
  .exact .inl ⟨o,h⟩
 .exact .inr fun H'=>.inr h
theorem walk{l:W.OpenLaw}{q:bL}{wI:bQ}{XP:(Str->Option Value)->Heap->Prop}{YP:IJ}{d:DefRec}{K:Params->W.Frag}{Pt PR PT PF PN:Addr}(hn:l.most=some 63)(Vv:d.params.defaults=[])(hY:∀ (w:World) (h:Heap),YP w h->(K w.params).In h)(hT:∀ (w:World) (h:Heap),YP w h->∀Pzz∈[Pt,PR,PT,PF,PN],h.get? Pzz=some (W.tabObj #[]))(ab4:∀ (w:World),((List.range 2000).any fun c=>W.codeHdIn (K w.params) c Pt)=true)(ab5:∀ (w:World),(K w.params).lookup Pt=none)(ab6:∀ (w:World),((List.range 2000).any fun c=>W.codeHdIn (K w.params) c PR)=true)(ab7:∀ (w:World),(K w.params).lookup PR=none)(ab8:∀ (w:World),((List.range 2000).any fun c=>W.codeHdIn (K w.params) c PT)=true)(ab9:∀ (w:World),(K w.params).lookup PT=none)(aca:∀ (w:World),((List.range 2000).any fun c=>W.codeHdIn (K w.params) c PF)=true)(acb:∀ (w:World),(K w.params).lookup PF=none)(acd:∀ (w:World),((List.range 2000).any fun c=>W.codeHdIn (K w.params) c PN)=true)(ace:∀ (w:World),(K w.params).lookup PN=none)(F:∀ (w:World) (mg:cr) (fa:Addr) (h:Heap),(K w.params).In h->h.Ns mainGlobals mg->mg d.name=some (.ref fa)->
   ∃fd:FuncData,(∀ (s:aR) (u:Value),BindsTo s fd ⟨[u],[]⟩ [("_law_script",u)])/\∀base:Heap,(K w.params).In base->base.Ns mainGlobals mg->rf mg base->bU l.prog w (K w.params) mg base bo 11 fa fd ["_law_script"] (FT (K w.params) Pt PN PF PT PR)):
  W.WalkO q wI XP YP l.row.toRowW d [] (fun f vs=>PySem.call f vs):=
 JG (n:=63) (k:=11) (x:="_law_script") (ts:=[Pt,PR,PT,PF,PN]) (K:=K) (CX:=fun _=>bo) (sp:=fun w=>(FT (K w.params) Pt PN PF PT PR)) hn (by decide) Vv ⟨rfl,by decide,by decide,rfl⟩ hY hT
  (fun w Pzz=>fun e=>(bq.mp e).elim (fun e=>by rw[e];exact Bh (ab4 w)) (fun e=>(bq.mp e).elim (fun e=>by rw[e];exact Bh (ab6 w)) (fun e=>(bq.mp e).elim (fun e=>by rw[e];exact Bh (ab8 w)) (fun e=>(bq.mp e).elim (fun e=>by rw[e];exact Bh (aca w)) (fun e=>by rw[dA.mp e];exact Bh (acd w)))))) (fun w Pzz=>fun e=>(bq.mp e).elim (fun e=>by rw[e];exact ab5 w) (fun e=>(bq.mp e).elim (fun e=>by rw[e];exact ab7 w) (fun e=>(bq.mp e).elim (fun e=>by rw[e];exact ab9 w) (fun e=>(bq.mp e).elim (fun e=>by rw[e];exact acb w) (fun e=>by rw[dA.mp e];exact ace w))))) F
  (fun w H a ns hl hO hS=>⟨a,ns,rfl,Uf hO hS,hl,.inl (hO.1 _ (by simp)),⟨.inl (hO.1 _ (by simp)),.inl (hO.1 _ (by simp)),.inl (hO.1 _ (by simp)),.inl (hO.1 _ (by simp))⟩,fun _=>rfl⟩) fun _ _ _ _ _ z=>z
end
end r9
open PySem PySem.W PyProof.Rows
namespace PySem.W.Fast
def tw10309746374030008851:=trivial
def tw15741424464168579829:=trivial
def tw1118746454675010356:=trivial
def tw11380569569403639325:=trivial
def tw8403759913422788779:=trivial
def tw9391981905700994197:=trivial
def tw12676850539372796822:=trivial
def tw13353348627122563740:=trivial
def tw6120739811559765576:=trivial
def tw14399901169445192790:=trivial
def tw205031894246784621:=trivial
def tw1461301911071198572:=trivial
def tw17675999323250862214:=trivial
def tw2820156063380199714:=trivial
def tw3620461910907917204:=trivial
def tw5795560593283971071:=trivial
def tw13057086984035548749:=trivial
def tw14102249028818421574:=trivial
def tw7663113712872153427:=trivial
def tw9069336261625958143:=trivial
def tw16992469194283669297:=trivial
def tw13984844944158317413:=trivial
def tw5681190994064042236:=trivial
def tw13559089441540677068:=trivial
def tw6299046712394519571:=trivial
def tw1454723322308901235:=trivial
def tw2103876720957960157:=trivial
def tw5941684228128699157:=trivial
def tw13599638550671712254:=trivial
def tw11933721309989168489:=trivial
def tw13095602388157384066:=trivial
def tw7379536252821708767:=trivial
def tw3858284210213157725:=trivial
def tw1930910457337546077:=trivial
def tw7961276058292618131:=trivial
def tw16120862208116076872:=trivial
def tw17470310870220634210:=trivial
def tw14659524080056388998:=trivial
def tw12982441851370482672:=trivial
def tw3100855028726491975:=trivial
def tw15551673490945153556:=trivial
def tw13871765973476402766:=trivial
def tw15886463962432904096:=trivial
def tw15925437650993264910:=trivial
def tw14502394384479813201:=trivial
def tw2654738652772297056:=trivial
def tw2223278543963173675:=trivial
def tw5485659302846357089:=trivial
def tw16543937980158838859:=trivial
def tw16277348588810107193:=trivial
def tw16885039068026373932:=trivial
def tw9429155974366087768:=trivial
def tw4994679032068856649:=trivial
def tw17635624230564419827:=trivial
def tw4115996093812411912:=trivial
def tw10484858546484397978:=trivial
def tw4287433518502118030:=trivial
def tw9030778514140983415:=trivial
def tw16057859251758668437:=trivial
def tw16452935473171464038:=trivial
def tw13713852622631709721:=trivial
def tw16851853705001084639:=trivial
def tw4988875679752035650:=trivial
def tw307481776522384537:=trivial
def tw6117917315311561951:=trivial
def tw15652078661257609809:=trivial
def tw10211932195265435934:=trivial
def tw8025929272927453259:=trivial
def tw7105759801478610441:=trivial
def tw14263410205035788513:=trivial
def tw10088559299770714776:=trivial
def tw16940823717614636468:=trivial
def tw4959203614087501898:=trivial
def tw18065891412787559593:=trivial
def tw17853187432814714771:=trivial
def tw8758633396043294915:=trivial
def tw12994961518776765973:=trivial
def tw13631125513360671427:=trivial
def tw8412140745270936309:=trivial
def tw948169748973377137:=trivial
def tw12486275916494270961:=trivial
def tw1222622743172244300:=trivial
def tw15383211349429854674:=trivial
def tw13777900241126207567:=trivial
def tw16867317117214694888:=trivial
def tw3990049193067412219:=trivial
def tw16360205602604855129:=trivial
def tw3643536822423062626:=trivial
def tw14213337286520670060:=trivial
def tw7946738761755180196:=trivial
def tw10839440487377661013:=trivial
def tw16762833304477095557:=trivial
def tw5981938763408826394:=trivial
def tw14100970217122432806:=trivial
def tw12311959576534576117:=trivial
def tw1978154568357369795:=trivial
def tw99039653714831489:=trivial
def tw3445121860959152511:=trivial
def tw5265657524456514191:=trivial
def tw3341486628869926097:=trivial
def tw2582172594454165579:=trivial
def tw530118706947906139:=trivial
def tw49171776238529024:=trivial
def tw5803970276413604352:=trivial
def tw506596671279708345:=trivial
def tw15156990296595646546:=trivial
def tw122357806464025996:=trivial
def tw16929841534008247401:=trivial
def tw5101919806733254421:=trivial
def tw536938586800589120:=trivial
def tw10581367612228366662:=trivial
def tw10511425715448005136:=trivial
def tw17799454247928384061:=trivial
def tw10615351580393073544:=trivial
def tw341431835050790841:=trivial
def tw8658655186904168043:=trivial
def tw8434007046738310606:=trivial
def tw12452432533139349938:=trivial
def tw15870579047868823953:=trivial
def tw15602929135138527617:=trivial
def tw9133769993918685919:=trivial
def tw14705087996850417731:=trivial
def tw16082824251525666934:=trivial
def tw5046517759279678930:=trivial
def tw9551567460187956805:=trivial
def tw5299928451412498867:=trivial
def tw1402624829159016718:=trivial
def tw4375318796878661342:=trivial
def tw3480713799795527941:=trivial
def tw13222618186218470167:=trivial
def tw1453801345048388207:=trivial
def tw3022549397699072117:=trivial
def tw65288678736274008:=trivial
def tw10007916668755888368:=trivial
def tw15379150732524366845:=trivial
def tw633044782528246747:=trivial
def tw7019017202962505162:=trivial
def tw8234394736527032797:=trivial
def tw7975359113783609705:=trivial
def tw1717240709828707288:=trivial
def tw12148763673611786998:=trivial
def tw9128978395416482694:=trivial
def tw6527312103215468846:=trivial
def tw16957968807760152034:=trivial
def tw12984352229625011964:=trivial
def tw12764137037997121979:=trivial
def tw2728681799660293356:=trivial
def tw4401152762129101060:=trivial
def tw3758890117490325710:=trivial
def tw5801061116908903447:=trivial
def tw2225945769011414677:=trivial
def tw14185514279578930485:=trivial
def tw7228592689244102853:=trivial
def tw10456755281372967639:=trivial
def tw460285493089532308:=trivial
def tw3498237769968005646:=trivial
def tw11414019011181394498:=trivial
def tw6431483713909423636:=trivial
def tw13745808202821601510:=trivial
def tw1633910236144558464:=trivial
def tw15088776938808511319:=trivial
def tw1408082687739015289:=trivial
def tw7998143595494228698:=trivial
def tw5971613658869153437:=trivial
def tw17767459493424956965:=trivial
def tw13905567235787902459:=trivial
def tw256712335210257263:=trivial
def tw12169849389681986419:=trivial
def tw7074340203726570388:=trivial
def tw6022409756923390721:=trivial
def tw14231356033395840869:=trivial
def tw9141240013610820529:=trivial
def tw956347198535004244:=trivial
def tw5605851915822372807:=trivial
def tw11125193575359149126:=trivial
def tw4649580761520963584:=trivial
def tw10089368598880653784:=trivial
def tw3256122746385776342:=trivial
def tw3009348045077593168:=trivial
def tw4647527406310323865:=trivial
def tw15168865674046764041:=trivial
def tw1498212412303758219:=trivial
def tw15756675932909212401:=trivial
def tw8715734521358445018:=trivial
def tw543358808856696309:=trivial
def tw13477392669661308859:=trivial
def tw9524318112256554839:=trivial
def tw18262285229120980485:=trivial
def tw3523684512443106468:=trivial
def tw9589357288888964473:=trivial
def tw14142728730955595171:=trivial
def tw15424346625388914465:=trivial
def tw5814392725558143321:=trivial
def tw14595182335446296585:=trivial
def tw15287705005894339340:=trivial
def tw872394750850692263:=trivial
def tw3891529644422385060:=trivial
def tw15370485526781303523:=trivial
def tw5406382391005673120:=trivial
def tw9649095967366204749:=trivial
def tw2320637265604335796:=trivial
def tw9118672224929551022:=trivial
def tw495667499716491996:=trivial
def tw402371840756558673:=trivial
def tw2101355369061262111:=trivial
def tw5069923619665919618:=trivial
def tw5218676968864818050:=trivial
def tw2669548512491293435:=trivial
def tw3948524099453145111:=trivial
def tw15262148929632917536:=trivial
def tw12419003687990261789:=trivial
def tw11095445611348816967:=trivial
def tw18376080923962334545:=trivial
def tw15019508393086172714:=trivial
def tw18096442577169999907:=trivial
def tw297922140282704557:=trivial
def tw17855678299126652128:=trivial
def tw15777687264595586942:=trivial
def tw904748368074333957:=trivial
def tw15105770241657446227:=trivial
def tw13049851308398835796:=trivial
def tw8409409265965250702:=trivial
def tw10719270887463473229:=trivial
def tw18043090201350237680:=trivial
def tw17952205105423343839:=trivial
def tw11494444289741725417:=trivial
def tw16573830387608428925:=trivial
def tw12343736167384878313:=trivial
def tw8941020286316450036:=trivial
def tw731798183315482815:=trivial
def tw3662719319274365326:=trivial
def tw18055715132643178780:=trivial
def tw13961613162932966191:=trivial
def tw10230153280157981067:=trivial
def tw18098297967980802562:=trivial
def tw4088286220739489181:=trivial
def tw15698044121403256463:=trivial
def tw11790793219069447434:=trivial
def tw17106887329342895734:=trivial
def tw8394669173529600901:=trivial
def tw2216067576542687225:=trivial
def tw2021592698839950241:=trivial
def tw16661379482266352952:=trivial
def tw12645120107536360299:=trivial
def tw7761691903941582803:=trivial
def tw17107519207334441559:=trivial
def tw16277371810908800115:=trivial
def tw1437374015617724731:=trivial
def tw5896588106920618703:=trivial
def tw18080948087860534974:=trivial
def tw12934224359946392889:=trivial
def tw1938473733013006560:=trivial
def tw18113254916088035293:=trivial
def tw2522738885089895480:=trivial
def tw13548581946248295017:=trivial
def tw2890894351833523761:=trivial
def tw8368521274409566782:=trivial
def tw16999627567668387192:=trivial
def tw8021456897447526827:=trivial
def tw14697939408004048719:=trivial
def tw11460727300592118785:=trivial
def tw18320023372678955714:=trivial
def tw3297210752854282726:=trivial
def tw7842567751051899768:=trivial
def tw8039018829479949226:=trivial
def tw10158230941757675591:=trivial
def tw9130628957986598670:=trivial
def tw6519160650384505505:=trivial
def tw17226418734103091604:=trivial
def tw18326252766800823518:=trivial
def tw15101897609883538785:=trivial
def tw4785522043814199163:=trivial
def tw17831757276717926848:=trivial
def tw2375174312353285326:=trivial
def tw3330747546182293534:=trivial
def tw16201473552748137528:=trivial
def tw7299228841406773853:=trivial
def tw15067763459337904420:=trivial
def tw1397764570549419142:=trivial
def tw6181353849652895825:=trivial
def tw8162861215372910442:=trivial
def tw11911078407743851297:=trivial
def tw1490606878118578618:=trivial
def tw8097744274548434549:=trivial
def tw9145669426049903105:=trivial
def tw16861737238861414113:=trivial
def tw12241262743080907189:=trivial
def tw7774740832857949513:=trivial
def tw7464626994986388595:=trivial
def tw10824206203162067796:=trivial
def tw2276600997621617998:=trivial
def tw60822858443507143:=trivial
def tw2719513434745027704:=trivial
def tw4434394170666205116:=trivial
def tw17668672773161251736:=trivial
def tw1367511091798020776:=trivial
def tw7532063148103734776:=trivial
def tw1974821848412743441:=trivial
def tw853354787092525527:=trivial
def tw6561452752236387584:=trivial
def tw10220045625096942694:=trivial
def tw6715550644897898973:=trivial
def tw3059090733373570496:=trivial
def tw7939673642466767976:=trivial
def tw15413412446427969142:=trivial
def tw6361822068746065409:=trivial
def tw7973585909775388257:=trivial
def tw17329031438338000788:=trivial
def tw3325690504675423490:=trivial
def tw11383953221734453955:=trivial
def tw3015549092020778514:=trivial
def tw3310879453973045005:=trivial
def tw4084698187207614333:=trivial
def tw3914230254229850970:=trivial
def tw15753997214390998734:=trivial
def tw16237534527934019600:=trivial
def tw6142358588925802441:=trivial
def tw1362991620022392411:=trivial
def tw11587162014958195036:=trivial
def tw13710390179612601914:=trivial
def tw1985746640658250859:=trivial
def tw7812008615301406763:=trivial
def tw7417788135631218097:=trivial
def tw14269659209708847656:=trivial
def tw7748046514573751206:=trivial
def tw5700434350724166632:=trivial
def tw12950334363727417328:=trivial
def tw12277754683760637312:=trivial
def tw14959307140634658827:=trivial
def tw2338337373443519484:=trivial
def tw5732541693967342861:=trivial
def tw9462691306349210580:=trivial
def tw1118210137546798686:=trivial
def tw5324631600974193316:=trivial
def tw16419900360561252587:=trivial
def tw1156718340267634429:=trivial
def tw17749758286969472861:=trivial
def tw368758301049163782:=trivial
def tw6320614062807752888:=trivial
def tw9669380209853936396:=trivial
def tw6804898167284922662:=trivial
def tw6565468319901394057:=trivial
def tw1486955274558741236:=trivial
def tw1219850262357761582:=trivial
def tw14084144333875016411:=trivial
def tw9485204836960422432:=trivial
def tw905478097625369301:=trivial
def tw17130424800011752879:=trivial
def tw12869933444102385971:=trivial
def tw5503761929336519584:=trivial
def tw1923938793066711362:=trivial
def tw13727734967864562073:=trivial
def tw5596707034866607400:=trivial
def tw14747154918386913302:=trivial
def tw3262917214153509490:=trivial
def tw612412573641184362:=trivial
def tw10023193878319272732:=trivial
def tw12433762137722753923:=trivial
def tw15502263768584941216:=trivial
def tw696095627129907530:=trivial
def tw2689485108638699988:=trivial
def tw7488995611522230728:=trivial
def tw12317271145215560365:=trivial
def tw9514151480873804375:=trivial
def tw5846615954291575134:=trivial
def tw15322113658111668221:=trivial
def tw12315434131433352043:=trivial
def tw47133536541873959:=trivial
def tw12833717746900597231:=trivial
def tw3962844100045987218:=trivial
def tw15554166261897420224:=trivial
def tw5403347700409330748:=trivial
def tw17350156276599089319:=trivial
def tw3461595682871393402:=trivial
def tw13598314399205326856:=trivial
def tw5148211459203825048:=trivial
def tw1564679860421346297:=trivial
def tw9355324936388703616:=trivial
def tw10860113311509988397:=trivial
def tw1004504703362862539:=trivial
def tw16178525527822867254:=trivial
def tw687618223203505726:=trivial
def tw14498347397028367631:=trivial
def tw925506916758081922:=trivial
def tw18311064427962474469:=trivial
def tw11267737704837225719:=trivial
def tw15340416203743960908:=trivial
def tw8790313107350044218:=trivial
def tw5106057129443141928:=trivial
def tw15163457923477431467:=trivial
def tw13449253638949519320:=trivial
def tw11653873673280183859:=trivial
def tw4721780250006508887:=trivial
def tw11843563064480752776:=trivial
def tw2852381505315040778:=trivial
def tw13954455886075545557:=trivial
def tw9509650215313078762:=trivial
def tw13867559507285745107:=trivial
def tw7282029260177231856:=trivial
def tw4263099764802656211:=trivial
def tw17297705087488696663:=trivial
def tw5092351835889471205:=trivial
def tw4354104187384500690:=trivial
def tw7533558445664512821:=trivial
def tw8059613061114447885:=trivial
def tw17236523400214926560:=trivial
def tw1698466914549399640:=trivial
def tw7532415656230643929:=trivial
def tw16141752274578155136:=trivial
def tw9197166475814379622:=trivial
def tw15540502487122144357:=trivial
def tw13395142803580251577:=trivial
def tw11540674844332198483:=trivial
def tw4365164510846013282:=trivial
def tw11246467006104478688:=trivial
def tw15240341715881232442:=trivial
def tw7744447246538984862:=trivial
def tw5751214353203825657:=trivial
def tw15221502973657197310:=trivial
def tw12600837927492481485:=trivial
def tw9424750656023109939:=trivial
def tw4333584632877499546:=trivial
def tw15205282871607590504:=trivial
def tw1869092556450376212:=trivial
def tw18029597365971204377:=trivial
def tw11891552738950910805:=trivial
def tw9702117590718791908:=trivial
def tw15429639608887685705:=trivial
def tw10160892815931497231:=trivial
def tw10104159596859525720:=trivial
def tw292401136500232004:=trivial
def tw17563088938330667029:=trivial
def tw275217915229619324:=trivial
def tw8576154880278438078:=trivial
def tw9880423961723673617:=trivial
def tw3345034371012818830:=trivial
def tw100694832548971600:=trivial
def tw6466415031469190222:=trivial
def tw7816394770071805172:=trivial
def tw300243057758344952:=trivial
def tw6456816258694981997:=trivial
def tw13887956502432331938:=trivial
def tw10306224267122295663:=trivial
def tw14561519494127116361:=trivial
def tw11743262131980359285:=trivial
def tw7888464312607860010:=trivial
def tw9747090061846062583:=trivial
def tw2010307446422873426:=trivial
def tw11397522355212397310:=trivial
def tw13120532119038852528:=trivial
def tw14721335875495288056:=trivial
def tw10380869345031970629:=trivial
def tw15146596759370923280:=trivial
def tw11314482229919514060:=trivial
def tw12631501288274545608:=trivial
def tw5294491437270281200:=trivial
def tw13436835760928363472:=trivial
def tw12276893919417858617:=trivial
def tw1542912600415592597:=trivial
def tw1282389824604865640:=trivial
def tw4526429885177803214:=trivial
def tw6326683384123602914:=trivial
def tw12508392280059576587:=trivial
def tw671859549850221206:=trivial
def tw11179522934938061703:=trivial
def tw5923104934874167702:=trivial
def tw13199902361908595410:=trivial
def tw933565388260505224:=trivial
def tw13738428533774623289:=trivial
def tw1595226219396557873:=trivial
def tw12520572754205388873:=trivial
def tw8395731893890608374:=trivial
def tw6111571576840000768:=trivial
def tw12549583557499284745:=trivial
def tw5403505551882074333:=trivial
def tw8693087581313057155:=trivial
def tw13990462684632044067:=trivial
def tw4288902883640128376:=trivial
def tw10495788010670396236:=trivial
def tw11830784208934323126:=trivial
def tw1748171846941263555:=trivial
def tw18039074071067182373:=trivial
def tw13537427104632311297:=trivial
def tw9873957874849474046:=trivial
def tw5025142510426844032:=trivial
def tw18070375841052665261:=trivial
def tw12901698922579047591:=trivial
def tw6555595027062812751:=trivial
def tw5563546384478087923:=trivial
def tw17285963892001198667:=trivial
def tw14098244925954855168:=trivial
def tw5060044425008972802:=trivial
def tw15670611652523819445:=trivial
def tw745238019553947556:=trivial
def tw16628484162911693136:=trivial
def tw924477175232567389:=trivial
def tw18185623080651606655:=trivial
def tw6113537397395014408:=trivial
def tw626495065571607264:=trivial
def tw7433051183580259911:=trivial
def tw8011940735471504927:=trivial
end PySem.W.Fast
set_option maxRecDepth 100000 in
set_option maxHeartbeats 0 in
theorem PySem.Challenge.cw_neverwait_k32_hands_by_rules_holds : PySem.Challenge.rw_neverwait_k32_hands_by_rules.Holds := by
 w_on; o_law; k_head; (case hw=>w_witness2)
 k_fill
 refine r9.walk (l:=PySem.Challenge.rw_neverwait_k32_hands_by_rules) (Pt:=_) (PR:=_) (PT:=_) (PF:=_) (PN:=_) rfl rfl (fun w h Y=>PySem.W.km_in_of Y) (fun w h Y=>PySem.W.km_tabs_of Y) ?cd0 ?kt0 ?cd1 ?kt1 ?cd2 ?kt2 ?cd3 ?kt3 ?cd4 ?kt4 ?F;case F =>
  intro w mg fa h KX G Vw;refine' r9.Tf (Pt:=_) (PR:=_) (PT:=_) (PF:=_) (PN:=_) KX G Vw ?_ ?_ ?_ ?_ ?_ ?_ ?_ ?_ ?_ ?_ ?_ ?_ ?_ ?_ ?_ ?_ ?_ ?_ ?_ ?_ ?_ ?_ ?_ ?_ ?_ ?_ ?_ ?_ ?_ ?_ ?_ ?_ ?_ ?_ ?_ ?_ ?_ ?_ ?_ ?_ ?_ ?_ ?_ ?_ ?_ ?_ ?_ ?_ ?_ ?_ ?_ ?_ ?_ ?_ ?_ ?_ ?_ ?_ ?_ ?_ ?_ ?_ ?_ ?_ ?_ ?_ ?_ ?_ ?_ ?_ ?_ ?_ ?_ ?_ ?_ ?_ ?_ ?_ ?_ ?_ ?_ ?_ ?_ ?_ ?_ ?_ ?_ ?_ ?_ ?_ ?_ ?_ ?_ ?_ ?_ ?_ ?_ ?_ ?_ ?_ ?_ ?_ ?_ ?_ ?_ ?_ ?_ ?_ ?_ ?_ ?_ ?_ ?_ ?_ ?_ ?_ ?_ ?_ ?_ ?_ ?_ ?_ ?_ ?_ ?_ ?_ ?_ ?_ ?_ ?_ ?_ ?_ ?_ ?_ ?_ ?_ ?_ ?_ ?_ ?_ ?_ ?_ ?_ ?_ ?_ ?_ ?_ ?_ ?_ ?_ ?_ ?_ ?_ ?_ ?_ ?_ ?_;all_goals first
   | (refine' r9.FD.mk ?a ?l ?d ?k; (case a=>k_is); (case l=>k_is); (case d=>k_is); (case k=>k_is))
   | (refine' r9.FC.mk ?a ?l ?d ?k; (case a=>k_is); (case l=>k_is); (case d=>k_is); (case k=>k_is))
   | (refine' r9.MD.mk ?a ?i ?l ?d ?k; (case a=>k_is); (case i=>k_is); (case l=>k_is); (case d=>k_is); (case k=>k_is))
   | (refine' r9.MC.mk ?a ?i ?l ?d ?k; (case a=>k_is); (case i=>k_is); (case l=>k_is); (case d=>k_is); (case k=>k_is))
   | k_is
   | kernel_rfl
   | decide
   | exact ⟨by kernel_rfl,by k_is,by k_is,by k_is,by k_is,by k_is,by k_is,by kernel_rfl⟩
   | skip
 case kt0=>intro w; kernel_rfl
 case cd0=>intro w; kernel_rfl
 case kt1=>intro w; kernel_rfl
 case cd1=>intro w; kernel_rfl
 case kt2=>intro w; kernel_rfl
 case cd2=>intro w; kernel_rfl
 case kt3=>intro w; kernel_rfl
 case cd3=>intro w; kernel_rfl
 case kt4=>intro w; kernel_rfl
 case cd4=>intro w; kernel_rfl
