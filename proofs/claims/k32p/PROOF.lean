import PyProof.Rows.All
import Wide.All
import OpenK.AllK
import Wide.FinOn
import Lean
import PyProof.EqAt
import PyProof.EqKinds
import PyProof.TupleCall
import PySem.Challenge.RW_neverwait_k32_hands_by_rules
set_option Elab.async false
set_option linter.all false
set_option maxRecDepth 100000
set_option maxHeartbeats 8000000
abbrev aQ:=List Nat
abbrev bA:=List (Option Nat)
abbrev dG:=List Int
abbrev i6:=Array (Nat×Nat×Nat)
abbrev lr:=Option Int
abbrev lF:=Int×Int
abbrev oW:=List (Int×Int)
abbrev rG:=Array Int
abbrev t7:=Nat->Int
abbrev t8:=Nat->Nat
abbrev we:=List (Nat×Nat)
abbrev zq:=List (List Nat)
def au:=@PySem.wpAny_bind
def aT:=@List.length_map
def cw:=@List.getD_eq_getElem?_getD
def bP:=@PySem.Heap.get?_push_of_some
def cz:=@List.getElem?_eq_getElem
def cA:=@List.getElem?_map
def dq:=@List.mem_cons_of_mem
def cK:=@List.mem_cons_self
def bf:=@Nat.ne_of_lt
def eR:=@List.getElem?_eq_some_iff
def ao:=@if_neg
def bv:=@Nat.lt_of_lt_of_le
def aB:=@PyProof.Rows.wpS_bind
def aS:=@PySem.Heap.lt_size
def ap:=@if_pos
def aP:=@Nat.le_refl
def aZ:=@Nat.le_trans
def ce:=@List.size_toArray
def cX:=@PySem.Heap.get?_push_size
def bq:=@List.mem_cons
def dz:=@List.mem_of_getElem?
def dh:=@List.length_append
def di:=@Bool.false_ne_true
def cB:=@Option.some.inj
def bY:=@List.mem_range
def aK:=@PyProof.Rows.wpS_pure
def dA:=@List.mem_singleton
def dk:=@List.length_range
def bB:=@List.mem_map
def cL:=@List.mem_append
def dH:=@Nat.lt_succ_of_lt
def dP:=@List.append_assoc
def e_:=@List.mem_append_right
def dt:=@List.map_append
def eK:=@Nat.lt_of_le_of_lt
def gy:=@PySem.F.plainAttrs_list
def f9:=@List.getElem?_eq_none
def cp:=@Nat.zero_le
def eT:=@PySem.Heap.get?_push_ne
def f_:=@List.getElem?_range
def eU:=@List.filter_cons
def eI:=@PySem.PassesOwn.never
def eV:=@PySem.Heap.size_update
def gC:=@List.mem_append_left
def fu:=@of_decide_eq_true
def gD:=@Array.toList_append
def fj:=@List.length_cons
def d7:=@Int.ofNat.inj
def dQ:=@List.map_map
def i7:=@PySem.F.type_list_append
def i8:=@PySem.F.slot_list_append
def gk:=@List.pairwise_map
def fc:=@PySem.boot_len
def jZ:=@Array.perm_iff_toList_perm
def iK:=@List.length_filter_le
def gE:=@Int.toNat_natCast
def gm:=@Bool.and_eq_true
def j3:=@List.getElem?_append_left
def gb:=@List.mem_filter
def ic:=@List.filter_append
def gW:=@List.take_add_one
def i9:=@List.length_replicate
def eL:=@getElem?_pos
def gX:=@List.lookup_cons
def gI:=@List.nodup_cons
def iL:=@Bool.false_eq_true
def ie:=@List.getElem_mem
def gY:=@decide_eq_false
def j4:=@List.perm_append_comm
def fm:=@PyProof.Rows.wpS_forRange
def gJ:=@List.map_cons
def j5:=@List.map_congr_left
def gK:=@PySem.wpAny_holding
def i_:=@List.take_length
def iM:=@List.foldl_cons
def gO:=@Nat.ne_of_gt
def lG:=@List.Perm.append_left
def gc:=@PySem.wpAny_field
def ge:=@PySem.sizeLine_eq
def rH:=@PyProof.Rows.boot_isinstance
def ja:=@List.length_set
def iN:=@decide_eq_true
def j6:=@List.nodup_append
def lH:=@PySem.mem_of_lookup
def lI:=@Array.length_toList
def oX:=@PyProof.Rows.boot_tuple
def rJ:=@List.getElem?_append_right
def lJ:=@PySem.Heap.get?_update_ne
def oY:=@PySem.wpAny_callSpecial?_slot
def jb:=@PySem.Heap.size_push
def dI:=@Ne.symm
def lK:=@List.ext_getElem?
def wf:=@PyProof.Rows.slot_tuple_getitem
def t9:=@List.nodup_iff_pairwise_ne
def oZ:=@List.mem_of_mem_take
def j7:=@Array.size_map
def lu:=@List.range_succ
def lL:=@Nat.lt_succ_self
def o0:=@beq_eq_false_iff_ne
def lM:=@PySem.wpAny_call_entry
def lN:=@List.length_singleton
def nF:=@PyProof.Rows.boot_sorted
def iD:=@List.Perm.refl
def iE:=@PySem.wpAny_seqItems
def jE:=@Nat.mod_eq_of_lt
def jF:=@List.not_mem_nil
def jG:=@List.nodup_range
def dL:=@PyProof.Rows.wpS_mono
def qf:=@PyProof.Rows.callWith_type1
def fv:=@PySem.wpAny_rule
def eG:=@if_false
def gg:=@beq_iff_eq
def jH:=@List.append_nil
def fw:=@PyProof.Rows.size_push'
def qg:=@List.pairwise_iff_getElem
def qh:=@List.drop_eq_getElem_cons
def kJ:=@PySem.wpAny_newObj_type
def nG:=@List.take_append_drop
def nI:=@PySem.Heap.get?_update_other
def nJ:=@Array.getElem?_toList
def lO:=@PySem.F.called_set
def kK:=@List.length_take
def kL:=@List.length_drop
def kM:=@List.all_eq_true
def kO:=@Array.toList_map
def jc:=@Nat.lt_irrefl
def iF:=@Int.zero_add
def nK:=@List.mem_iff_getElem
def nL:=@PySem.Heap.get?_update_self
def gh:=@PyProof.Rows.wpS_modify
def kP:=@Bool.eq_iff_iff
def nM:=@List.replicate_succ
def qj:=@PyProof.Rows.boot_list
def qk:=@List.take_of_length_le
def qm:=@List.range_succ_eq_map
def qo:=@List.getElem?_set_self
def nN:=@decide_eq_true_iff
def kQ:=@List.nodup_nil
def kR:=@PyProof.Rows.get?_update_seq
def lP:=@Nat.div_add_mod
def lQ:=@List.find?_cons
def lR:=@List.Perm.of_eq
def nQ:=@PySem.wpAny_Call_Name_kw
def jI:=@Nat.zero_add
def qp:=@List.getElem?_set_ne
def nU:=@List.flatMap_cons
def nV:=@Array.toList_push
def jJ:=@PyProof.Rows.listUpdate_at
def lS:=@PySem.codeAny_builtin
def qr:=@Int.toNat_of_nonneg
def t_:=@List.getElem?_replicate
def qt:=@PySem.Heap.get?_none_of_le
def qu:=@PySem.Around.under_plainId
def kU:=@PySem.wpAny_attempt
def kW:=@Nat.le_of_lt
def qv:=@List.mem_filterMap
def ua:=@List.length_pos_of_mem
def ub:=@List.filter_eq_nil_iff
def qw:=@PySem.Heap.SameBut.update
def nW:=@Option.map_some
def nX:=@Nat.not_lt_zero
def nY:=@List.of_mem_zip
def lT:=@List.any_cons
def lU:=@List.all_cons
def uc:=@Nat.le_of_ble_eq_true
def xi:=@Array.getD_eq_getD_getElem?
def qx:=@PySem.wpAny_setField_rec
def nZ:=@PySem.wpAny_passesOwn
def ud:=@List.replicate_succ'
def ue:=@List.mem_of_mem_drop
def kX:=@List.map_id
def qy:=@Option.getD_some
def qz:=@List.countP_cons
def qA:=@Array.toList_zip
def qB:=@PySem.wpAny_truthy_bool
def xj:=@List.getElem?_zip_eq_some
def xk:=@Classical.byContradiction
def Br:=@PyProof.Rows.F.plain_set_update_loop
def uf:=@Nat.mul_le_mul_left
def ug:=@List.getElem_of_mem
def fz:=@PyProof.Rows.wpS_get
def qC:=@PyProof.Rows.assignInOrder_cons
def jK:=@PySem.wpAny_mono
def iG:=@Prod.ext
def xm:=@Option.isSome_iff_exists
def n0:=@List.cons.inj
def qD:=@ne_of_beq_false
def qE:=@List.length_zip
def qF:=@List.forIn_cons
def qG:=@List.filter_map
def uh:=@of_decide_eq_false
def ui:=@Int.emod_lt_of_pos
def uj:=@Array.forIn_toList
def n9:=@PySem.wpAny_standAt
def uk:=@decide_eq_true_eq
def ul:=@bne_self_eq_false
def um:=@List.getElem?_set
def qH:=@List.forIn_nil
def uq:=@List.flatten_cons
def ur:=@List.any_eq_false
def xn:=@List.Perm.append_right
def xo:=@Array.toList_filterMap
def ut:=@PySem.wpAny_pyIter_tuple
def xp:=@Nat.eq_of_beq_eq_true
def xq:=@List.mem_iff_getElem?
def uv:=@decide_eq_decide
def lV:=@Nat.mod_lt
def uw:=@List.getElem_map
def ux:=@PySem.wpAny_pyIter_list
def jL:=@or_false
def n_:=@Int.le_refl
def uy:=@Int.emod_nonneg
def uz:=@Bool.or_eq_true
def xr:=@PySem.builtinLookup_eq_fast
def xt:=@List.length_take_le
def uA:=@PySem.wpAny_eqBool_int
def lW:=@PyProof.Rows.seqEpoch_at
def qI:=@Nat.lt_trans
def qJ:=@Nat.le_of_eq
def qK:=@PySem.wpAny_newList
def xu:=@PySem.codeAny_call_builtin
def xv:=@List.pairwise_cons
def uB:=@List.foldl_nil
def Bs:=@Int.fmod_eq_emod_of_nonneg
def Bt:=@Int.fdiv_eq_ediv_of_nonneg
def Bu:=@PySem.F.plain_extend_loop
def Bv:=@Array.getElem?_eq_getElem
def jM:=@if_true
def xw:=@List.take_sublist
def xx:=@List.foldl_append
def qL:=@PySem.wpAny_typeOf
def qM:=@PySem.codeAny_mono
def Bw:=@PySem.F.args_tuple_add_2
def Bx:=@List.length_erase_of_mem
def By:=@List.getElem?_take_of_lt
def uC:=@Bool.not_true
def uD:=@PySem.wpAny_newTuple
def uE:=@PySem.wpAny_bindName
def Bz:=@decide_eq_false_iff_not
def og:=@PySem.call_meets
def BA:=@PySem.F.entry_tuple_add
def BB:=@PyProof.Rows.boot_range
def xy:=@Nat.succ_le_succ
def xz:=@Nat.le_add_right
def xA:=@List.any_eq_true
def jN:=@PyProof.Rows.wpS_lift
def BC:=@PySem.F.slot_tuple_add
def uF:=@Nat.sub_zero
def uG:=@Nat.sub_self
def uH:=@Nat.min_self
def BF:=@Nat.div_div_eq_div_mul
def xB:=@PySem.wpAny_setState_of
def xC:=@Array.Perm.refl
def uI:=@PySem.plainId_quiet
def BG:=@PyProof.Rows.boot_min
def BH:=@PyProof.Rows.boot_max
def uJ:=@Nat.mul_pos
def BI:=@List.mem_erase_of_ne
def BJ:=@List.length_take_le'
def BK:=@List.Pairwise.filter
def BL:=@Array.toList_reverse
def BM:=@Array.toList_extract
def BN:=@PySem.wpAny_pyNext_list_item
def qN:=@PySem.wpAny_call
def qO:=@PySem.wpAny_Name
def Ip:=@PyProof.Rows.F.entry_set_update_loop
def BO:=@List.filter_sublist
def BP:=@List.filterMap_cons
def xD:=@PySem.wpAny_updateSeq
def xE:=@PySem.wpAny_execs_nil
def xF:=@PySem.typeLookup_type
def xG:=@List.set_comm
def BQ:=@PySem.wpAny_pyNext_list_end
def BR:=@Option.toList_some
def BS:=@List.mem_replicate
def BU:=@List.getElem_range
def BV:=@List.find?_eq_none
def BW:=@PySem.wpAny_loadName_local
def xH:=@Nat.beq_refl
def BY:=@List.reverse_perm
def xI:=@List.map_set
def BZ:=@List.filter_congr
def B0:=@Bool.eq_false_iff
def B1:=@PySem.wpAny_loadName_free
def B3:=@List.zipIdx_cons
def B4:=@List.mem_flatMap
def B5:=@List.ext_getElem
def xJ:=@Nat.mul_one
def xK:=@Nat.le_succ
def Iq:=@Int.mul_le_mul_of_nonneg_left
def B6:=@StateT.run_pure
def B7:=@Nat.min_eq_left
def B8:=@List.find?_some
def B9:=@List.filter_nil
def B_:=@List.count_cons
def Ir:=@PySem.F.typeOf_object_class
def Ca:=@PySem.wpAny_loadPart_at
def Iu:=@Nat.mul_lt_mul_of_pos_left
def Cb:=@Nat.mul_le_mul
def Cc:=@List.drop_zero
def Iv:=@Array.toList_setIfInBounds
def Iw:=@Array.getElem?_eq_some_iff
def Ix:=@PySem.F.entry_extend_loop
def Iy:=@List.mem_of_find?_eq_some
def Cd:=@PySem.wpAny_pyIter_zip
def Ce:=@PySem.wpAny_isInstance
def Cf:=@PySem.noFill_tuple_add
def Iz:=@PyProof.noPylong_of_log2
def IA:=@List.filterMap_cons_some
namespace PySem
open PySem.Spec PyProof.Rows PySem.W
abbrev aR:=Shared
abbrev a_:=W.Frag
abbrev bu:=Array Keyed
abbrev bw:=List Value
abbrev bL:=Program
abbrev bQ:=List Str
abbrev bV:=Value->Shared->Prop
abbrev cE:=List (Addr×Obj)
abbrev br:=Around
abbrev bD:=Array Value
abbrev bR:=List Addr
abbrev bZ:=SortSt
abbrev cr:=Str->Option Value
abbrev eA:=FuncData
abbrev gZ:=List Expr
abbrev iO:=List (Str×Addr)
abbrev iP:=Addr->Prop
abbrev js:=Option Addr
abbrev j8:=List Env
abbrev lX:=Arguments
abbrev lY:=Keyed->Int
abbrev m_:=Array (Option Value)
abbrev ng:=SetTable
abbrev uK:=Addr->Int×Int
abbrev wg:=List (Str×Value)
abbrev wj:=List (Str×NameKind)
abbrev wm:=Unit->SortSt->Prop
abbrev zu:=Result->Shared->Prop
abbrev zw:=Option Bool->SortSt->Prop
abbrev zx:=Option Nat->SortSt->Prop
abbrev Ee:=Str->Option NameKind
abbrev IC:=Nat->Heap->Prop
abbrev ID:=World->Heap->Prop
abbrev IE:=Option Value->Shared->Prop
abbrev IF:=Bool->Shared->Prop
abbrev IG:=Bool->SortSt->Prop
abbrev II:=Array Keyed->SortSt->Prop
end PySem
namespace L2
open PySem PySem.Spec PyProof.Rows
abbrev iV:=Sum Int Str
def wn:iV->Value->Bool
 |.inl k,v=>Value.isInt k v
 |.inr x,v=>Value.isStrOf x v
def Ze(w:World):iV->Int
 |.inl k=>hashInt k
 |.inr x=>hashStr w x
theorem eC:∀ {k:iV} {v:Value},wn k v=true->(∃i t,k=Sum.inl i/\v=Value.int i t)\/(∃x t,k=Sum.inr x/\v=Value.str x t)
 |.inl i,v,h=>by
  obtain⟨t,e⟩:=Value.isInt_shape (k:=i) (v:=v) h;exact .inl ⟨i,t,rfl,e⟩
 |.inr x,v,h=>by
  obtain⟨t,e⟩:=Value.isStrOf_shape (x:=x) (v:=v) h;exact .inr ⟨x,t,rfl,e⟩
theorem FW(i:Int)(t:Tok):wn (.inl i) (.int i t)=true:=by simp[wn,Value.isInt]
theorem FX(x:Str)(t:Tok):wn (.inr x) (.str x t)=true:=by simp[wn,Value.isStrOf]
theorem Qb(a b:Int):decide ((Sum.inl a:iV)=Sum.inl b)=(a==b):=by
 by_cases e:a=b
 .subst e;simp
 .have h:¬ (Sum.inl a:iV)=Sum.inl b:=fun q=>e (Sum.inl.inj q);rw[gY h];exact(o0.mpr e).symm
theorem Qd(a b:Str):decide ((Sum.inr a:iV)=Sum.inr b)=decide (a=b):=by
 by_cases e:a=b
 .subst e;simp
 .have h:¬ (Sum.inr a:iV)=Sum.inr b:=fun q=>e (Sum.inr.inj q);rw[gY h,gY e]
theorem Qe(a:Int)(b:Str):decide ((Sum.inl a:iV)=Sum.inr b)=false:=gY (fun q=>nomatch q)
theorem Qf(a:Str)(b:Int):decide ((Sum.inr a:iV)=Sum.inl b)=false:=gY (fun q=>nomatch q)
def cZ(prog:bL)(w:World):PySem.KeyKind prog w iV where
 is:=wn
 hash:=Ze w
 inj:=fun v a b ha hb=>by
  rcases eC ha with ⟨i,t,rfl,rfl⟩|⟨x,t,rfl,rfl⟩
  .rcases eC hb with ⟨j,u,rfl,e⟩|⟨y,u,rfl,e⟩
   .injection e with e1 _;rw[e1]
   .exact nomatch e
  .rcases eC hb with ⟨j,u,rfl,e⟩|⟨y,u,rfl,e⟩
   .exact nomatch e
   .injection e with e1 _;rw[e1]
 byValue:=fun k v h=>by
  rcases eC h with ⟨i,t,rfl,rfl⟩|⟨x,t,rfl,rfl⟩ <;> rfl
 pyHash:=fun hv h=>by
  rcases eC hv with ⟨i,t,rfl,rfl⟩|⟨x,t,rfl,rfl⟩
  .exact wpAny_pyHash_int h
  .exact wpAny_pyHash_str h
 eqBool:=fun hu hv h=>by
  rcases eC hu with ⟨i,t,rfl,rfl⟩|⟨x,t,rfl,rfl⟩
  .rcases eC hv with ⟨j,u,rfl,rfl⟩|⟨y,u,rfl,rfl⟩
   .rw[Qb] at h;exact uA h
   .rw[Qe] at h;exact SeqAt.EqAt.int_str i t y u _ _ _ _ h
  .rcases eC hv with ⟨j,u,rfl,rfl⟩|⟨y,u,rfl,rfl⟩
   .rw[Qf] at h;exact SeqAt.EqAt.str_int x t j u _ _ _ _ h
   .rw[Qd] at h;exact wpAny_eqBool_str h
 «strs»:=fun k x t v h=>by
  rcases eC h with ⟨i,u,rfl,e⟩|⟨y,u,rfl,e⟩
  .exact nomatch e
  .injection e with e1 _
   subst e1
   cases v <;> rfl
theorem zy(prog:bL)(w:World)(i:Int)(t:Tok):(cZ prog w).is (.inl i) (.int i t)=true:=FW i t
theorem zA(prog:bL)(w:World)(x:Str)(t:Tok):(cZ prog w).is (.inr x) (.str x t)=true:=FX x t
inductive V where
 |cI|bl (b:Bool)|int (i:Int)|str (x:Str)|HS (b:Array UInt8)|Qg (b:UInt64)|ref (a:Addr)|ty (n:String)
 deriving DecidableEq
abbrev rK:=List (Str×V)
abbrev bg:=List V
def bW:V->Value->Prop
 |.cI,u=>u=Value.none
 |.bl b,u=>u=Value.bool b
 |.int i,u=>∃t,u=Value.int i t
 |.str x,u=>∃t,u=Value.str x t
 |.HS b,u=>∃t,u=Value.bytes b t
 |.Qg b,u=>∃t,u=Value.float b t
 |.ref a,u=>u=Value.ref a
 |.ty n,u=>u=Value.type n
abbrev ba:List V->List Value->Prop:=Paired bW
theorem ba.length(r:ba xs us):xs.length=us.length:=Paired.length r
theorem ba.get:∀ {xs:bg} {us:bw} {i:Nat} {x:V},ba xs us->xs[i]?=some x->∃u,us[i]?=some u/\bW x u
 |_,_,_,_,.nil,e=>by simp at e
 |_,_,0,_,.cons r _,e=>by simp at e;subst e;exact⟨_,rfl,r⟩
 |_,_,i+1,x,.cons _ t,e=>by
  obtain⟨u,h1,h2⟩:=ba.get (i:=i) (x:=x) t (by simpa using e);exact⟨u,by simpa using h1,h2⟩
theorem ba.set(r:bW x u):∀ {xs:bg} {us:bw} (i:Nat),ba xs us->ba (xs.set i x) (us.set i u)
 |_,_,_,.nil=>.nil
 |_,_,0,.cons _ t=>.cons r t
 |_,_,i+1,.cons q t=>.cons q (ba.set r i t)
theorem ba.append:∀ {xs ys:bg} {us ws:bw},ba xs us->ba ys ws->ba (xs++ys) (us++ws)
 |_,_,_,_,.nil,s=>s
 |_,_,_,_,.cons r t,s=>.cons r (ba.append t s)
theorem ba.take:∀ {xs:bg} {us:bw} (n:Nat),ba xs us->ba (xs.take n) (us.take n)
 |_,_,0,_=>.nil
 |_,_,_+1,.nil=>.nil
 |_,_,n+1,.cons r t=>.cons r (ba.take n t)
theorem ba.drop:∀ {xs:bg} {us:bw} (n:Nat),ba xs us->ba (xs.drop n) (us.drop n)
 |_,_,0,r=>r
 |_,_,_+1,.nil=>.nil
 |_,_,n+1,.cons _ t=>ba.drop n t
def o4:Option V->Option Value->Prop
 |some v,some u=>bW v u
 |none,none=>True
 |_,_=>False
def KV{κ:Type}:List (κ×V)->List (κ×Value)->Prop:=Paired fun (p:κ×V) (q:κ×Value)=>p.1=q.1/\bW p.2 q.2
def kV:iV->V
 |.inl i=>.int i
 |.inr x=>.str x
inductive HO where
 |lst (xs:bg)
 |tup (xs:bg)
 |dK (dR:List (iV×V))|dT (dR:List (List iV×V))
 |set (S:Int->Bool) (n:Nat)
 |ins (C dx:Addr) (fs:rK)
 |own (x:Addr)
 |xd (fs:rK)
 |met (f x:Addr)
 |Ef (lo hi:Int)
 |zh (o:Obj) (u:HO)
 |jo (ps:bD)
 |ext (φ:Heap->Prop)
abbrev Hp:=Addr->Option HO
abbrev Eg:=Bool->Hp->Prop
abbrev zB:=List V->Hp->Prop
abbrev rL:=Hp->Prop
def upd(H:Hp)(a:Addr)(o:HO):Hp:=fun b=>if b=a then some o else H b
theorem ae:upd H a o a=some o:=by unfold upd;rw[ap rfl]
theorem aq(h:b≠a):upd H a o b=H b:=by unfold upd;rw[ao h]
theorem mK:upd (upd H a o) a u=upd H a u:=by
 funext b;unfold upd;split <;> rfl
theorem ig{H:Hp}{a b:Addr}{o u:HO}(h:H a=some o)(h':H b=some u)(d:o≠u):a≠b:=by
 intro e;subst e;rw[h] at h';exact d (cB h')
theorem am{H:Hp}{a b:Addr}{o:HO}(h:H a=some o)(h':H b=none):a≠b:=by
 intro e;subst e;rw[h] at h';cases h'
section
variable (P:bL) (w:World)
def lZ(h:Heap)(a:Addr)(items:bD):Prop:=∃o,h.get? a=some o/\o.cls=.type "tuple"/\∃n,o.data=.seq items n/\o.dict=none
theorem lZ.tup(p:lZ h a items):IsTup h a items:=let ⟨o,e,c,n,d,_⟩:=p;⟨o,e,c,n,d⟩
theorem lZ.new(h:Heap)(items:bD):lZ (h.push { cls:=.type "tuple",data:=.seq items }) h.objs.size items:=⟨_,cX _ rfl,rfl,_,rfl,rfl⟩
def dB(H:Hp)(h:Heap)(a:Addr):HO->Prop
 |.lst xs=>xs.length<=sizeLine/\∃ (its:bw) (n:Nat),ba xs its/\h.get? a=some { cls:=.type "list",data:=.seq its.toArray n }
 |.tup xs=>xs.length<=sizeLine/\∃its:List Value,ba xs its/\lZ h a its.toArray
 |.dK dR=>dR.length<=sizeLine/\(a==sysModules)=false/\∃vs,KV dR vs/\h.DictOf (cZ P w) a vs
 |.dT dR=>dR.length<=sizeLine/\(a==sysModules)=false/\∃xs:List (List iV×Addr×Value),
   Paired (fun (p:List iV×V) (q:List iV×Addr×Value)=>p.1=q.1/\H q.2.1=some (.tup (p.1.map kV))/\bW p.2 q.2.2) dR xs/\
   ∃o es ep,h.get? a=some o/\o.ExactDict/\o.data=.dict es ep/\es.toList=xs.map (entryOfKey (tupleKind (cZ P w)))/\(xs.map (·.1)).Nodup
 |.set S n=>h.SetOf (intKind P w) a S n
 |.ins C dx fs=>H dx=some (.own a)/\fs.length<=1000/\dx≠a/\h.get? a=some (W.instObj C dx)/\
   ∃mA,h.Ns1 dx mA/\(∀f,o4 (fs.lookup f) (mA f))/\PySem.Within mA (fs.map (·.1))
 |.own _=>∃o,h.get? a=some o
 |.xd fs=>∃mA,h.Ns1 a mA/\∀f,o4 (fs.lookup f) (mA f)
 |.Ef lo hi=>∃t u v,h.get? a=some { cls:=.type "range",data:=.fields #[.int lo t,.int hi u,.int 1 v] }
 |.zh o u=>h.get? a=some o/\dB H h a u
 |.jo ps=>h.get? a=some { cls:=.none,data:=.fields ps }
 |.met f x=>h.get? a=some (W.methodObj (.ref f) (.ref x))
 |.ext φ=>φ h/\(∃o,h.get? a=some o)/\∀h1 h2:Heap,φ h1->(∀o,h1.get? a=some o->h2.get? a=some o)->φ h2
def oh(H:Hp)(h:Heap):Prop:=∀a o,H a=some o->dB P w H h a o
end
section
variable {P:bL} {w:World} {H H':Hp} {h h':Heap} {a:Addr} {o:HO}
theorem dB.lt(x:dB P w H h a o):a<h.objs.size:=by
 cases o with
 |lst xs=>obtain⟨_,_,_,_,e⟩:=x;exact aS e
 |tup xs=>obtain⟨_,_,_,p⟩:=x;exact p.tup.lt
 |dK dR=>obtain⟨_,_,_,_,o,_,_,e,_⟩:=x;exact aS e
 |dT dR=>obtain⟨_,_,_,_,o,_,_,e,_⟩:=x;exact aS e
 |set S n=>obtain⟨o,_,_,_,e,_⟩:=x;exact aS e
 |ins C dx fs=>obtain⟨_,_,_,e,_⟩:=x;exact aS e
 |own y=>obtain⟨_,e⟩:=x;exact aS e
 |xd fs=>obtain⟨_,⟨_,_,_,e,_⟩,_⟩:=x;exact aS e
 |Ef lo hi=>obtain⟨_,_,_,e⟩:=x;exact aS e
 |zh ob u=>obtain⟨e,_⟩:=x;exact aS e
 |jo ps=>exact aS (show h.get? a=some _ from x)
 |met f y=>exact aS (show h.get? a=some _ from x)
 |ext φ=>obtain⟨_,⟨_,e⟩,_⟩:=x;exact aS e
theorem Paired.Qh:∀ {l₁:List α} {l₂:List β},Paired F l₁ l₂->(∀a b,F a b->G a b)->Paired G l₁ l₂
 |_,_,.nil,_=>.nil
 |_,_,.cons r t,f=>.cons (f _ _ r) (Paired.Qh t f)
theorem dB.jO(x:dB P w H h a o)(k:∀b u,(b=a\/H b=some (.own a))->h.get? b=some u->h'.get? b=some u)(ho:∀b,H b=some (.own a)->H' b=some (.own a))(ht:∀b xs,H b=some (.tup xs)->H' b=some (.tup xs)):dB P w H' h' a o:=by
 induction o with
 |lst xs=>obtain⟨z,its,n,r,e⟩:=x;exact⟨z,its,n,r,k _ _ (.inl rfl) e⟩
 |tup xs=>obtain⟨z,its,r,ob,e,c⟩:=x;exact⟨z,its,r,ob,k _ _ (.inl rfl) e,c⟩
 |dK dR=>obtain⟨z,y,vs,r,ob,es,ep,e,c⟩:=x;exact⟨z,y,vs,r,ob,es,ep,k _ _ (.inl rfl) e,c⟩
 |dT dR=>
  obtain⟨z,y,xs,r,ob,es,ep,e,c⟩:=x;exact⟨z,y,xs,Paired.Qh r fun p q z=>⟨z.1,ht _ _ z.2.1,z.2.2⟩,ob,es,ep,k _ _ (.inl rfl) e,c⟩
 |set S n=>obtain⟨ob,es,ep,t,e,c⟩:=x;exact⟨ob,es,ep,t,k _ _ (.inl rfl) e,c⟩
 |ins C dx fs=>
  obtain⟨d,z,ne,e,mA,⟨od,es,ep,e2,c⟩,r⟩:=x;exact⟨ho _ d,z,ne,k _ _ (.inl rfl) e,mA,⟨od,es,ep,k _ _ (.inr d) e2,c⟩,r⟩
 |own y=>obtain⟨ob,e⟩:=x;exact⟨ob,k _ _ (.inl rfl) e⟩
 |xd fs=>obtain⟨mA,⟨od,es,ep,e,c⟩,r⟩:=x;exact⟨mA,⟨od,es,ep,k _ _ (.inl rfl) e,c⟩,r⟩
 |Ef lo hi=>obtain⟨t,u,v,e⟩:=x;exact⟨t,u,v,k _ _ (.inl rfl) e⟩
 |zh ob u ih=>obtain⟨e,q⟩:=x;exact⟨k _ _ (.inl rfl) e,ih q⟩
 |jo ps=>
  have e:h.get? a=some { cls:=.none,data:=.fields ps }:=x;show h'.get? a=some { cls:=.none,data:=.fields ps };exact k a _ (.inl rfl) e
 |met f y=>
  have e:h.get? a=some (W.methodObj (.ref f) (.ref y)):=x;show h'.get? a=some (W.methodObj (.ref f) (.ref y));exact k a _ (.inl rfl) e
 |ext φ=>obtain⟨p,⟨o,e⟩,st⟩:=x;exact⟨st _ _ p fun o q=>k _ _ (.inl rfl) q,⟨o,k _ _ (.inl rfl) e⟩,st⟩
theorem oh.lt(x:oh P w H h)(e:H a=some o):a<h.objs.size:=(x a o e).lt
theorem oh.fresh(x:oh P w H h)(e:h.objs.size<=a):H a=none:=by
 cases q:H a with
 |none=>rfl
 |some u=>exact absurd (bv (x.lt q) e) (jc _)
theorem oh.kept(x:oh P w H h)(k:∀b u,h.get? b=some u->h'.get? b=some u):oh P w H h':=fun a o e=>
 (x a o e).jO (fun b u _ q=>k b u q) (fun _ q=>q) fun _ _ q=>q
theorem oh.laid(x:oh P w H h)(k:∀b u,h.get? b=some u->h'.get? b=some u)(hp:h.objs.size<=a)(new:dB P w (upd H a o) h' a o):oh P w (upd H a o) h':=fun b u e=>by
 have hn:=x.fresh hp;by_cases hb:b=a
 .subst hb;rw[ae] at e;cases e;exact new
 .rw[aq hb] at e;exact(x b u e).jO (fun c v _ q=>k c v q) (fun c q=>by rw[aq (am q hn)];exact q) fun c xs q=>by rw[aq (am q hn)];exact q
end
def Rd(H:Hp)(a:Addr)(u:HO):Prop:=H a=some u\/∃o,H a=some (.zh o u)
theorem Rd.ok(r:Rd H a u)(x:oh P w H h):dB P w H h a u:=by
 rcases r with r|⟨o,r⟩
 .exact x a u r
 .obtain⟨_,q⟩:=x a _ r;exact q
def Yl:Option HO->Prop
 |some (.lst _)=>True
 |some (.dK _)=>True
 |some (.dT _)=>True
 |some (.set _ _)=>True
 |some (.ins _ _ _)=>True
 |some (.ext _)=>True
 |_=>False
section
variable {P:bL} {w:World} {H:Hp} {h h':Heap} {x e:Addr} {o':HO}
theorem oh.write(ok:oh P w H h)(mu:Yl (H x))(he:e=x\/H e=some (.own x))(k:∀b u,b≠e->h.get? b=some u->h'.get? b=some u)(T_:∃u,h'.get? e=some u)(new:dB P w (upd H x o') h' x o'):oh P w (upd H x o') h':=fun b u q=>by
 have UN:∀c y,H c=some (.own y)->c≠x:=fun c y r z=>by subst z;rw[r] at mu;exact mu
 have Zf:∀c xs,H c=some (.tup xs)->c≠x:=fun c xs r z=>by subst z;rw[r] at mu;exact mu
 by_cases hb:b=x
 .subst hb;rw[ae] at q;cases q;exact new
 .rw[aq hb] at q;by_cases LM:b=e
  .have q':H b=some (.own x):=by
    rcases he with z|z
    .exact absurd (LM.trans z) hb
    .rw[LM];exact z
   rw[q] at q';cases q';obtain⟨v,hv⟩:=T_;exact⟨v,by rw[LM];exact hv⟩
  .refine(ok b u q).jO (fun c v hc r=>k c v ?_ r) (fun c r=>by rw[aq (UN c b r)];exact r) fun c xs r=>by rw[aq (Zf c xs r)];exact r
   rcases hc with rfl|hc
   .exact LM
   .rintro rfl;rcases he with z|z
    .exact UN c b hc z
    .rw[hc] at z;cases z;exact hb rfl
end
structure Un(fs ex:bR)(H H':Hp)(h h':Heap):Prop where
 keep:∀b o,h.get? b=some o->H b=none->b∉fs->b∉ex->h'.get? b=some o
 slot:∀b o,h.get? b=some o->H b=none->b∈fs->b∉ex->∃sl,h'.get? b=some { o with slots:=sl }
 free:∀b o,h.get? b=some o->H b=none->b∉ex->H' b=none
 there:∀b o,h.get? b=some o->b∉ex->∃o',h'.get? b=some o'
 o5:∀b xs,H b=some (.tup xs)->H' b=some (.tup xs)
 xL:∀b o u,H b=some (.zh o u)->H' b=some (.zh o u)
 xM:∀b ps,H b=some (.jo ps)->∃more,H' b=some (.jo (ps++more))
section
variable {fs fs' ex ex':bR} {H H1 H2:Hp} {h h1 h2 h':Heap} {a x e:Addr} {o:HO}
theorem Un.any(u:Un fs ex H H1 h h1)(q:h.get? b=some ob)(n:H b=none)(hx:b∉ex):∃sl,h1.get? b=some { ob with slots:=sl }:=by
 by_cases hb:b∈fs
 .exact u.slot b ob q n hb hx
 .exact⟨ob.slots,u.keep b ob q n hb hx⟩
theorem Un.kept(k:∀b u,h.get? b=some u->h'.get? b=some u):Un fs ex H H h h':=
 ⟨fun b ob q _ _ _=>k b ob q,fun b ob q _ _ _=>⟨ob.slots,k b ob q⟩,fun _ _ _ n _=>n,fun b ob q _=>⟨ob,k b ob q⟩,fun _ _ q=>q,fun _ _ _ q=>q,fun _ ps q=>⟨#[],by rw[q];simp⟩⟩
theorem Un.refl:Un fs ex H H h h:=Un.kept fun _ _ q=>q
theorem Un.laid(k:∀b u,h.get? b=some u->h'.get? b=some u)(hp:h.objs.size<=a)(hn:H a=none):Un fs ex H (upd H a o) h h' where
 keep:=fun b u q _ _ _=>k b u q
 slot:=fun b u q _ _ _=>⟨u.slots,k b u q⟩
 free:=fun b u q n _=>by rw[aq (bf (bv (aS q) hp))];exact n
 there:=fun b u q _=>⟨u,k b u q⟩
 o5:=fun b xs q=>by rw[aq (am q hn)];exact q
 xL:=fun b u xs q=>by rw[aq (am q hn)];exact q
 xM:=fun b ps q=>⟨#[],by rw[aq (am q hn),q];simp⟩
theorem Un.write(mu:Yl (H x))(he:e=x\/H e=some (.own x))(k:∀b u,b≠e->h.get? b=some u->h'.get? b=some u)(T_:∃u,h'.get? e=some u):Un fs ex H (upd H x o) h h':=by
 have hx:∀b,H b=none->b≠x:=fun b n z=>by subst z;rw[n] at mu;exact mu
 have hb:∀b,H b=none->b≠e:=fun b n z=>by
  subst z;rcases he with r|r
  .exact hx b n r
  .rw[n] at r;cases r
 have hm:∀b u,H b=some u->¬ Yl (some u)->b≠x:=fun b u q nm z=>by subst z;rw[q] at mu;exact nm mu
 refine⟨fun b u q n _ _=>k b u (hb b n) q,fun b u q n _ _=>⟨u.slots,k b u (hb b n) q⟩,fun b u q n _=>by rw[aq (hx b n)];exact n,fun b u q _=>?_,
  fun b xs q=>by rw[aq (hm b _ q fun z=>z)];exact q,fun b u xs q=>by rw[aq (hm b _ q fun z=>z)];exact q,fun b ps q=>⟨#[],by rw[aq (hm b _ q fun z=>z),q];simp⟩⟩
 by_cases LM:b=e
 .subst LM;exact T_
 .exact⟨u,k b u LM q⟩
end
def Ym(h:Heap)(H:Hp):List Addr:=(List.range h.objs.size).filter fun a=>(H a).isSome
def vM(h:Heap)(H:Hp):Heap:=W.hideAll h (Ym h H)
theorem FY(h:Heap)(H:Hp):(vM h H).objs.size=h.objs.size:=W.hideAll_size _ _
theorem IJ(e:h.get? b=some o)(n:H b=none):(vM h H).get? b=some o:=
 W.hideAll_get _ e fun hm=>by
  have q:(H b).isSome=true:=(gb.mp hm).2;rw[n] at q;simp at q
theorem Md(e:(vM h H).get? b=some o):h.get? b=some o/\H b=none:=by
 have e':h.get? b=some o:=W.of_hideAll (Ym h H) e;refine⟨e',?_⟩;cases q:H b with
 |none=>rfl
 |some x=>
  have hm:b∈Ym h H:=gb.mpr ⟨bY.mpr (aS e'),by simp[q]⟩;have z:(vM h H).get? b=none:=W.hideAll_none (Ym h H) hm;rw[z] at e;cases e
def kY(g h:Heap)(L:Addr):List (Addr×Obj):=(List.range h.objs.size).filterMap fun a=>if a=L\/(g.get? a).isSome=true then none else (h.get? a).map fun o=>(a,o)
theorem l0(h1:a≠L)(h2:g.get? a=none)(h3:h.get? a=some o):(a,o)∈kY g h L:=
 qv.mpr ⟨a,bY.mpr (aS h3),by simp[h1,h2,h3]⟩
theorem uL(hp:p∈kY g h L):p.1≠L/\g.get? p.1=none/\h.get? p.1=some p.2:=by
 obtain⟨b,_,e⟩:=qv.mp hp;split at e
 .cases e
 .rename_i hn;cases q:h.get? b with
  |none=>rw[q] at e;simp at e
  |some u=>
   rw[q] at e;simp only[nW,Option.some.injEq] at e;subst e;refine⟨fun z=>hn (.inl z),?_,q⟩;show g.get? b=none;cases r:g.get? b with
   |none=>rfl
   |some v=>exact(hn (.inr (by simp[r]))).elim
theorem IK:News g L h (kY g h L):=fun p hp=>let ⟨a,b,c⟩:=uL hp;⟨c,a,b⟩
structure Mod(K:a_)(mg:cr)(base:Heap):Prop where
 UO:K.In base
 glob:base.Ns mainGlobals mg
 blt:∃mb,base.Ns builtinsNs mb/\∀x:Str,x≠"__name__"->mb x=bootBuiltins x
 nolimit:base.NoLimit
structure Cx where
 prog:Program
 w:World
 K:W.Frag
 mg:Str->Option Value
 base:Heap
 A:Around
 N:List Str
 s₀:Shared
 H₀:Hp
 env:Env
 outer:List Env
 stack:List Env
 ex:List Addr
 fn:Str->Bool
 calm:Bool
 pn:List (Addr×Obj)
 xe:Value->Shared->Prop
def HU(l:j8):List Addr:=l.filterMap (·.frame)
abbrev Cx.fs(X:Cx):List Addr:=HU X.outer
def Ua(sc:Scope)(x:Str):Prop:=sc.names.lookup x=some .local\/sc.names.lookup x=some .cell\/sc.names.lookup x=some .free
def UP(sc:Scope)(x:Str):Prop:=sc.names.lookup x=some .local\/sc.names.lookup x=some .cell
def Zg(env:Env)(h:Heap)(m:cr)(x:Str)(u:Value):Prop:=
 (env.kindOf x=some .local/\m x=some u)\/((env.kindOf x=some .cell\/env.kindOf x=some .free)/\∃c,env.cells.lookup x=some c/\h.IsCell c (some u))
structure Cx.Ok(X:Cx):Prop where
 mod:Mod X.K X.mg X.base
 kind:X.env.scope.kind=.function
 glob:X.env.globals=mainGlobals
 blt:X.env.builtins=builtinsNs
 above:X.s₀.heap.objs.size<=X.env.locals
 inj:∀x y c,X.env.cells.lookup x=some c->X.env.cells.lookup y=some c->x=y
 has:∀x,(X.env.kindOf x=some .cell\/X.env.kindOf x=some .free)->∃c,X.env.cells.lookup x=some c
 UQ:∀x c,X.fn x=true->X.env.cells.lookup x=some c->X.s₀.heap.objs.size<=c
 hd:X.calm=true->X.A.handled=none
 frames:X.A.frames=some X.stack
 Ub:X.stack=X.outer\/(X.stack=X.env::X.outer/\X.env.frame=some X.env.locals)
 Zh:∀b∈X.ex,b≠X.env.locals/\∀x c,X.env.cells.lookup x=some c->c≠b
 bs:∀b o,X.base.get? b=some o->X.s₀.heap.get? b=some o/\X.H₀ b=none
 IL:X.base.objs.size<=X.s₀.heap.objs.size
 IM:∀b o,X.base.get? b=some o->b∉X.ex
 Me:∀b∈X.ex,b∉X.fs
 sg:X.s₀.heap.FunFrames X.base X.outer
 Qi:∀b∈X.fs,X.H₀ b=none
structure aU(X:Cx)(af:cE)(σ:List (Option V))(H:Hp)(s:aR):Prop where
 ok:X.Ok
 os:s.os=X.s₀.os
 bare:AllBare s.gens
 base:Un X.fs X.ex X.H₀ H X.s₀.heap s.heap
 loc:∃m,s.heap.Ns X.env.locals m/\∀ (i:Nat) (x:Str) (v:V),X.N[i]?=some x->σ[i]?=some (some v)->Ua X.env.scope x->∃u,bW v u/\Zg X.env s.heap m x u
 cell:∀x c,X.env.cells.lookup x=some c->∃v,s.heap.IsCell c v
 free:H X.env.locals=none
 l3:∀x c,X.env.cells.lookup x=some c->H c=none
 pin:∀p∈X.pn++af,s.heap.get? p.1=some p.2/\H p.1=none/\p.1≠X.env.locals/\p.1∉X.fs/\∀v,p.2.data≠.cell v
 cY:oh X.prog X.w H s.heap
 len:σ.length=X.N.length
section
variable {X:Cx} {af:cE} {σ:List (Option V)} {H H':Hp} {s:aR} {h':Heap}
theorem Cx.Ok.Zi(ok:X.Ok)(e:X.base.get? b=some o):b∉X.fs:=fun hb=>by
 have:=(ok.sg.mem hb).1;rw[e] at this;cases this
theorem aU.bs(I:aU X af σ H s):∀b o,X.base.get? b=some o->s.heap.get? b=some o/\H b=none:=fun b o e=>
 ⟨I.base.keep b o (I.ok.bs b o e).1 (I.ok.bs b o e).2 (I.ok.Zi e) (I.ok.IM b o e),I.base.free b o (I.ok.bs b o e).1 (I.ok.bs b o e).2 (I.ok.IM b o e)⟩
theorem aU.bk(I:aU X af σ H s):∀b o,X.base.get? b=some o->s.heap.get? b=some o:=fun b o e=>(I.bs b o e).1
theorem aU.mod(I:aU X af σ H s):Mod X.K X.mg X.base:=I.ok.mod
theorem aU.o_(I:aU X af σ H s):X.K.In s.heap:=I.ok.mod.UO.keeps I.bk
theorem aU.nolimit(I:aU X af σ H s):s.heap.NoLimit:=I.ok.mod.nolimit.keeps I.bk
theorem aU.fr(I:aU X af σ H s):∃m,Fr X.base X.env.locals s.heap m:=
 let ⟨m,hn,_⟩:=I.loc
 ⟨m,hn,I.bk,aZ I.ok.IL I.ok.above⟩
theorem aU.lt(I:aU X af σ H s):X.env.locals<s.heap.objs.size:=let ⟨_,hn,_⟩:=I.loc;hn.lt
theorem aU.sz(I:aU X af σ H s):X.s₀.heap.objs.size<=s.heap.objs.size:=aZ I.ok.above (kW I.lt)
theorem aU.Zj(I:aU X af σ H s)(h:s.heap.objs.size<=a):a∉X.fs:=fun hb=>by
 obtain⟨_,o,ho,_⟩:=I.ok.sg.mem hb;exact absurd (bv (aS ho) (aZ I.sz h)) (jc _)
theorem aU.Qj(I:aU X af σ H s):∀x c,X.env.cells.lookup x=some c->c≠X.env.locals:=fun x c e z=>by
 obtain⟨v,o,ho,hd⟩:=I.cell x c e;obtain⟨m,⟨o',es,ep,Mf,Mg,_⟩,_⟩:=I.loc;rw[z,Mf] at ho;cases ho;rw[Mg] at hd;cases hd
theorem aU.sg(I:aU X af σ H s):s.heap.FunFrames X.base X.outer:=by
 have all:∀ (l:j8),(∀b∈HU l,b∈X.fs)->X.s₀.heap.FunFrames X.base l->s.heap.FunFrames X.base l:=by
  intro l;induction l with
  |nil=>intro _ _;trivial
  |cons env r ih=>
   intro hs hl;obtain⟨hk,⟨L,o,hf,hn,ho,hd⟩,hr⟩:=hl;have hL:L∈X.fs:=hs L (by unfold HU;rw[BP,hf];exact cK);obtain⟨sl,e⟩:=I.base.slot L o ho (I.ok.Qi L hL) hL fun z=>I.ok.Me L z hL;exact⟨hk,⟨L,_,hf,hn,e,hd⟩,ih (fun b hb=>hs b (by unfold HU;rw[BP,hf];exact dq _ hb)) hr⟩
 exact all X.outer (fun _ hb=>hb) I.ok.sg
theorem aU.stack(I:aU X af σ H s):s.heap.FunFrames X.base X.stack:=by
 rcases I.ok.Ub with e|⟨e,hf⟩
 .rw[e];exact I.sg
 .rw[e];obtain⟨m,hn,_⟩:=I.loc;refine .cons (by rw[I.ok.kind];decide) hf hn ?_ I.sg;exact qt (aZ I.ok.IL I.ok.above)
theorem aU.xN(I:aU X af σ H s):∀b∈HU X.stack,b∈X.env.locals::X.fs:=fun b hb=>by
 rcases I.ok.Ub with e|⟨e,hf⟩
 .rw[e] at hb;exact dq _ hb
 .rw[e] at hb;unfold HU at hb;rw[BP,hf] at hb;exact hb
theorem aU.xO(I:aU X af σ H s):∀b∈HU X.stack,H b=none:=fun b hb=>by
 rcases bq.mp (I.xN b hb) with e|hb
 .rw[e];exact I.free
 .obtain⟨_,o,ho,_⟩:=I.ok.sg.mem hb;exact I.base.free b o ho (I.ok.Qi b hb) fun z=>I.ok.Me b z hb
theorem aU.step{g':Array GenState}{t':Nat}{d':Drawn}{ch:bR}(I:aU X af σ H s)(LN:∀b∈ch,(b∈X.ex\/X.s₀.heap.objs.size<=b)/\b≠X.env.locals/\(∀x c,X.env.cells.lookup x=some c->c≠b)/\∀p∈X.pn++af,p.1≠b)(keep:∀b o,b≠X.env.locals->b∉X.fs->b∉ch->s.heap.get? b=some o->H b=none->h'.get? b=some o)(slot:∀b o,b≠X.env.locals->b∈X.fs->b∉ch->s.heap.get? b=some o->H b=none->∃sl,h'.get? b=some { o with slots:=sl })(free:∀b o,b∉ch->s.heap.get? b=some o->H b=none->H' b=none)(there:∀b o,b∉ch->s.heap.get? b=some o->∃o',h'.get? b=some o')(o5:∀b xs,H b=some (.tup xs)->H' b=some (.tup xs))(xL:∀b o u,H b=some (.zh o u)->H' b=some (.zh o u))(xM:∀b ps,H b=some (.jo ps)->∃more,H' b=some (.jo (ps++more)))(ns:∀m,s.heap.Ns X.env.locals m->h'.Ns X.env.locals m)(cY:oh X.prog X.w H' h')(hg:AllBare g'):
  aU X af σ H' { s with heap:=h',gens:=g',drawn:=d',toks:=t' }:=by
 have neL:∀b o,X.s₀.heap.get? b=some o->b≠X.env.locals:=fun b o e=>bf (bv (aS e) I.ok.above);have Yn:∀b o,X.s₀.heap.get? b=some o->b∉X.ex->b∉ch:=fun b o e hx hb=>by
  rcases(LN b hb).1 with z|z
  .exact hx z
  .exact absurd (bv (aS e) z) (jc _)
 have OX:∀x c,X.env.cells.lookup x=some c->∀v,s.heap.IsCell c v->h'.IsCell c v:=fun x c e v ⟨o,ho,hd⟩=>by
  have UR:c∉ch:=fun z=>(LN c z).2.2.1 x c e rfl;by_cases hc:c∈X.fs
  .obtain⟨sl,q⟩:=slot c o (I.Qj x c e) hc UR ho (I.l3 x c e);exact⟨_,q,hd⟩
  .exact⟨o,keep c o (I.Qj x c e) hc UR ho (I.l3 x c e),hd⟩
 refine⟨I.ok,I.os,hg,⟨fun b o e n hb hx=>?_,fun b o e n hb hx=>?_,fun b o e n hx=>?_,fun b o e hx=>?_,fun b xs e=>o5 b xs (I.base.o5 b xs e),fun b o xs e=>xL b o xs (I.base.xL b o xs e),fun b ps e=>?_⟩,?_,fun x c e=>?_,?_,fun x c e=>?_,fun p hp=>?_,cY,I.len⟩
 .exact keep b o (neL b o e) hb (Yn b o e hx) (I.base.keep b o e n hb hx) (I.base.free b o e n hx)
 .obtain⟨sl,e1⟩:=I.base.slot b o e n hb hx;obtain⟨Zk,e2⟩:=slot b _ (neL b o e) hb (Yn b o e hx) e1 (I.base.free b o e n hx);exact⟨Zk,e2⟩
 .obtain⟨o',e1⟩:=I.base.there b o e hx;exact free b o' (Yn b o e hx) e1 (I.base.free b o e n hx)
 .obtain⟨o',e1⟩:=I.base.there b o e hx;exact there b o' (Yn b o e hx) e1
 .obtain⟨m1,e1⟩:=I.base.xM b ps e;obtain⟨m2,e2⟩:=xM b _ e1;exact⟨m1++m2,by rw[e2,Array.append_assoc]⟩
 .obtain⟨m,hn,hl⟩:=I.loc;refine⟨m,ns m hn,fun i x v e1 e2 e3=>?_⟩;obtain⟨u,r,l⟩:=hl i x v e1 e2 e3;refine⟨u,r,?_⟩;rcases l with l|⟨k,c,e,z⟩
  .exact .inl l
  .exact .inr ⟨k,c,e,OX x c e _ z⟩
 .obtain⟨v,z⟩:=I.cell x c e;exact⟨v,OX x c e v z⟩
 .obtain⟨m,⟨o,_,_,ho,_⟩,_⟩:=I.loc;exact free _ o (fun z=>(LN _ z).2.1 rfl) ho I.free
 .obtain⟨v,o,ho,hd⟩:=I.cell x c e;exact free c o (fun z=>(LN c z).2.2.1 x c e rfl) ho (I.l3 x c e)
 .obtain⟨e,n,ne,nf,d⟩:=I.pin p hp;have UR:p.1∉ch:=fun z=>(LN p.1 z).2.2.2 p hp rfl;exact⟨keep p.1 p.2 ne nf UR e n,free p.1 p.2 UR e n,ne,nf,d⟩
theorem aU.un{t':Nat}(I:aU X af σ H s)(u:Un X.fs [] H H' s.heap h')(cY:oh X.prog X.w H' h'):aU X af σ H' { s with heap:=h',toks:=t' }:=by
 obtain⟨m,⟨o,es,ep,ho,r⟩,_⟩:=id I.loc;obtain⟨sl,hL⟩:=u.any ho I.free (by simp);exact I.step (g':=s.gens) (d':=s.drawn) (ch:=[]) (fun _ z=>nomatch z) (fun b o _ hb _ e n=>u.keep b o e n hb (by simp)) (fun b o _ hb _ e n=>u.slot b o e n hb (by simp)) (fun b o _ e n=>u.free b o e n (by simp)) (fun b o _ e=>u.there b o e (by simp)) u.o5 u.xL u.xM (fun m' hm=>by
  obtain⟨o',Bc,US,Mf,r'⟩:=hm;rw[ho] at Mf;cases Mf;exact⟨_,Bc,US,hL,r'⟩) cY I.bare
theorem aU.call{g':Array GenState}{t':Nat}{d':Drawn}{ch:bR}(I:aU X af σ H s)(u:Un (HU X.stack) ch H H' s.heap h')(cY:oh X.prog X.w H' h')(hg:AllBare g')(LN:∀b∈ch,(b∈X.ex\/X.s₀.heap.objs.size<=b)/\b≠X.env.locals/\(∀x c,X.env.cells.lookup x=some c->c≠b)/\∀p∈X.pn++af,p.1≠b):
  aU X af σ H' { s with heap:=h',gens:=g',drawn:=d',toks:=t' }:=by
 obtain⟨m,⟨o,es,ep,ho,r⟩,_⟩:=id I.loc;obtain⟨sl,hL⟩:=u.any ho I.free fun z=>(LN _ z).2.1 rfl;exact I.step (ch:=ch) LN (fun b o hL hb hc e n=>u.keep b o e n (fun z=>(bq.mp (I.xN b z)).elim hL hb) hc) (fun b o _ _ hc e n=>u.any e n hc) (fun b o hc e n=>u.free b o e n hc) (fun b o hc e=>u.there b o e hc) u.o5 u.xL u.xM (fun m' hm=>by
  obtain⟨o',Bc,US,Mf,r'⟩:=hm;rw[ho] at Mf;cases Mf;exact⟨_,Bc,US,hL,r'⟩) cY hg
theorem aU.turned{t':Nat}{it:Addr}(I:aU X af σ H s)(k:∀b o,b≠it->s.heap.get? b=some o->h'.get? b=some o)(hn:H it=none)(hL:it≠X.env.locals)(h1:it∈X.ex\/X.s₀.heap.objs.size<=it)(h2:∀x c,X.env.cells.lookup x=some c->c≠it)(h3:∀p∈X.pn++af,p.1≠it):aU X af σ H { s with heap:=h',toks:=t' }:=by
 have OY:∀b u,H b=some u->b≠it:=fun b u e z=>by rw[z,hn] at e;cases e
 refine I.step (g':=s.gens) (d':=s.drawn) (ch:=[it]) (fun b hb=>?_) (fun b o _ _ hc e _=>k b o (fun z=>hc (by simp[z])) e) (fun b o _ _ hc e _=>⟨o.slots,k b o (fun z=>hc (by simp[z])) e⟩) (fun _ _ _ _ n=>n)
  (fun b o hc e=>⟨o,k b o (fun z=>hc (by simp[z])) e⟩) (fun _ _ e=>e) (fun _ _ _ e=>e) (fun b ps e=>⟨#[],by rw[e];simp⟩) (fun m hm=>?_) (fun b u e=>?_) I.bare
 .have e:b=it:=by simpa using hb
  subst e;exact⟨h1,hL,h2,h3⟩
 .obtain⟨o,es,ep,ho,r⟩:=hm;exact⟨o,es,ep,k _ o (dI hL) ho,r⟩
 .refine(I.cY b u e).jO (fun c v hc q=>k c v ?_ q) (fun _ q=>q) fun _ _ q=>q;rcases hc with z|z
  .rw[z];exact OY b u e
  .exact OY c _ z
theorem aU.tok(I:aU X af σ H s)(t:Nat):aU X af σ H { s with toks:=t }:=I.un (h':=s.heap) (t':=t) Un.refl I.cY
theorem aU.kept(I:aU X af σ H s)(k:∀b u,s.heap.get? b=some u->h'.get? b=some u):aU X af σ H { s with heap:=h',toks:=t' }:=I.un (Un.kept k) (I.cY.kept k)
theorem aU.laid(I:aU X af σ H s)(k:∀b u,s.heap.get? b=some u->h'.get? b=some u)(hp:s.heap.objs.size<=a)(new:dB X.prog X.w (upd H a o) h' a o):
  aU X af σ (upd H a o) { s with heap:=h',toks:=t' }:=I.un (Un.laid k hp (I.cY.fresh hp)) (I.cY.laid k hp new)
theorem aU.write(I:aU X af σ H s)(mu:Yl (H x))(he:e=x\/H e=some (.own x))(k:∀b u,b≠e->s.heap.get? b=some u->h'.get? b=some u)(T_:∃u,h'.get? e=some u)(new:dB X.prog X.w (upd H x o) h' x o):aU X af σ (upd H x o) { s with heap:=h',toks:=t' }:=I.un (Un.write mu he k T_) (I.cY.write mu he k T_ new)
theorem aU.pb(I:aU X af σ H s)(h:∀p∈pins',s.heap.get? p.1=some p.2/\H p.1=none/\p.1≠X.env.locals/\p.1∉X.fs/\∀v,p.2.data≠.cell v):aU X pins' σ H s:=
 ⟨I.ok,I.os,I.bare,I.base,I.loc,I.cell,I.free,I.l3,fun p hp=>(cL.mp hp).elim (fun z=>I.pin p (gC _ z)) (h p),I.cY,I.len⟩
theorem zC{N:bQ}(hN:N.Nodup){i j:Nat}{x:Str}(a:N[i]?=some x)(b:N[j]?=some x):i=j:=by
 obtain⟨h1,e1⟩:=eR.mp a;obtain⟨h2,e2⟩:=eR.mp b;exact(List.getElem_inj hN).mp (e1.trans e2.symm)
theorem wo{M:Model}{A:br}{E:bV}{i:Nat}{x:Str}{v:V}{u:Value}{Q:Unit->Shared->Prop}(I:aU X af σ H s)(hN:X.N.Nodup)(hi:X.N[i]?=some x)(hx:UP X.env.scope x)(r:bW v u)(h:∀s',aU X af (σ.set i (some v)) H s'->(∃a,Heap.SameBut a s.heap s'.heap/\(a=X.env.locals\/X.env.cells.lookup x=some a))->Q () s')(hf:X.fn x=true\/X.env.scope.names.lookup x=some .local:=by first|exact .inl rfl|exact .inr rfl|assumption):wpAny M A (storeName X.env x u) Q E s:=by
 obtain⟨m,hn,hl⟩:=id I.loc;have Zl:(X.env.scope.kind==.class||(X.env.scope.kind==.module&&X.env.locals != X.env.globals))=false:=by rw[I.ok.kind];rfl
 have hiσ:i<σ.length:=by rw[I.len];exact(eR.mp hi).1
 have Qj:=I.Qj;have Eh:∀ {a:Addr} {h':Heap},(∃o,s.heap.get? a=some o/\H a=none)->Heap.SameBut a s.heap h'->oh X.prog X.w H h':=fun {a h'} ha hs b ob e=>by
  obtain⟨_,_,OZ⟩:=ha;refine(I.cY b ob e).jO (fun c w' hc q=>(hs.2 c ?_).trans q) (fun _ q=>q) fun _ _ q=>q;rintro rfl;rcases hc with rfl|hc
  .rw[OZ] at e;cases e
  .rw[OZ] at hc;cases hc
 rcases hx with hk|hk
 .refine wpAny_storeName_local hk hn (fun h' UT hs=>?_) Zl;obtain⟨oL,_,_,wq,_⟩:=id hn;refine h _ ⟨I.ok,I.os,I.bare,⟨fun b o e n hb hx=>?_,fun b o e n hb hx=>?_,I.base.free,fun b o e hx=>?_,I.base.o5,I.base.xL,I.base.xM⟩,⟨_,UT,fun j y v' e1 e2 e3=>?_⟩,fun y c e=>?_,I.free,I.l3,fun p hp=>?_,Eh ⟨oL,wq,I.free⟩ hs,by simpa using I.len⟩ ⟨_,hs,.inl rfl⟩
  .exact(hs.2 b (bf (bv (aS e) I.ok.above))).trans (I.base.keep b o e n hb hx)
  .obtain⟨sl,e1⟩:=I.base.slot b o e n hb hx;exact⟨sl,(hs.2 b (bf (bv (aS e) I.ok.above))).trans e1⟩
  .obtain⟨o',e1⟩:=I.base.there b o e hx;exact⟨o',(hs.2 b (bf (bv (aS e) I.ok.above))).trans e1⟩
  .by_cases hj:j=i
   .subst hj;rw[hi] at e1;cases e1;rw[qo hiσ] at e2;cases e2;exact⟨u,r,.inl ⟨hk,by simp⟩⟩
   .rw[qp (dI hj)] at e2;obtain⟨u',r',q⟩:=hl j y v' e1 e2 e3;refine⟨u',r',?_⟩;rcases q with ⟨k,e⟩|⟨k,c,e,z⟩
    .refine .inl ⟨k,?_⟩;have:y≠x:=fun e=>hj (zC hN e1 (e ▸ hi));simp[this,e]
    .exact .inr ⟨k,c,e,z.sameBut hs (Qj y c e)⟩
  .obtain⟨w',z⟩:=I.cell y c e;exact⟨w',z.sameBut hs (Qj y c e)⟩
  .obtain⟨e,n,ne,nf,d⟩:=I.pin p hp;exact⟨(hs.2 p.1 ne).trans e,n,ne,nf,d⟩
 .have Zm:X.fn x=true:=by
   rcases hf with z|z
   .exact z
   .rw[z] at hk;cases hk
  obtain⟨c,hc⟩:=I.ok.has x (.inl hk);obtain⟨w',z⟩:=I.cell x c hc;refine wpAny_storeName_cell I.ok.kind hk hc z (fun h' zD hs=>?_);obtain⟨oc,Yo,Zn⟩:=id z;refine h { s with heap:=h' } ⟨I.ok,I.os,I.bare,⟨fun b o e n hb hx=>?_,fun b o e n hb hx=>?_,I.base.free,fun b o e hx=>?_,I.base.o5,I.base.xL,I.base.xM⟩,⟨m,hn.sameBut hs (dI (Qj x c hc)),fun j y v' e1 e2 e3=>?_⟩,fun y c' e=>?_,I.free,I.l3,fun p hp=>?_,Eh ⟨oc,Yo,I.l3 x c hc⟩ hs,by simpa using I.len⟩ ⟨c,hs,.inr hc⟩
  .exact(hs.2 b (bf (bv (aS e) (I.ok.UQ x c Zm hc)))).trans (I.base.keep b o e n hb hx)
  .obtain⟨sl,e1⟩:=I.base.slot b o e n hb hx;exact⟨sl,(hs.2 b (bf (bv (aS e) (I.ok.UQ x c Zm hc)))).trans e1⟩
  .obtain⟨o',e1⟩:=I.base.there b o e hx;exact⟨o',(hs.2 b (bf (bv (aS e) (I.ok.UQ x c Zm hc)))).trans e1⟩
  .by_cases hj:j=i
   .subst hj;rw[hi] at e1;cases e1;rw[qo hiσ] at e2;cases e2;exact⟨u,r,.inr ⟨.inl hk,c,hc,zD⟩⟩
   .rw[qp (dI hj)] at e2;obtain⟨u',r',q⟩:=hl j y v' e1 e2 e3;refine⟨u',r',?_⟩;rcases q with q|⟨k,c',e,z'⟩
    .exact .inl q
    .refine .inr ⟨k,c',e,z'.sameBut hs ?_⟩;rintro rfl;exact hj (zC hN e1 (I.ok.inj _ _ _ e hc ▸ hi))
  .by_cases hcc:c'=c
   .subst hcc;exact⟨_,zD⟩
   .obtain⟨w2,z2⟩:=I.cell y c' e;exact⟨w2,z2.sameBut hs hcc⟩
  .obtain⟨e,n,ne,nf,d⟩:=I.pin p hp;refine⟨(hs.2 p.1 ?_).trans e,n,ne,nf,d⟩;intro q;rw[q,Yo] at e;have q':oc=p.2:=cB e;exact d w' (by rw[<-q'];exact Zn)
theorem iq(I:aU X af σ H s)(hN:X.N.Nodup)(hi:X.N[i]?=some x)(hx:UP X.env.scope x)(r:bW v u)(h:∀s',aU X af (σ.set i (some v)) H s'->Q () s')(hf:X.fn x=true\/X.env.scope.names.lookup x=some .local:=by first|exact .inl rfl|exact .inr rfl|assumption):wpAny M A (storeName X.env x u) Q E s:=
 wo I hN hi hx r (fun s' I' _=>h s' I') hf
theorem aU.O0(I:aU X af σ H s)(ho:s'.os=s.os)(u:Un (HU X.stack) ch H H' s.heap s'.heap)(cY:oh X.prog X.w H' s'.heap)(hg:AllBare s'.gens)(LN:∀b∈ch,(b∈X.ex\/X.s₀.heap.objs.size<=b)/\b≠X.env.locals/\(∀x c,X.env.cells.lookup x=some c->c≠b)/\∀p∈X.pn++af,p.1≠b):aU X af σ H' s':=by
 obtain⟨h',g',d',t',o'⟩:=s';have e:o'=s.os:=ho;subst e;exact I.call (g':=g') (t':=t') (d':=d') u cY hg LN
end
abbrev XK:=Value->Option Addr->Hp->Prop
abbrev St:=List (Option V)
abbrev IN:=Nat->St->Hp->Prop
abbrev zE:=Nat->List V->St->Hp->Prop
abbrev rM:=St->Prop
abbrev j9:=V->St->Hp->Prop
abbrev ir:=St->Hp->Prop
abbrev VK:=V->Hp->Prop
abbrev TE:=St->Hp->VK->Prop
abbrev TT:=St->Hp->(Bool->Hp->Prop)->Prop
abbrev TA:=St->Hp->(List V->Hp->Prop)->Prop
structure Cg where
 nx:St->Hp->Prop
 rt:VK
 bk:St->Hp->Prop:=fun _ _=>False
 ct:St->Hp->Prop:=fun _ _=>False
abbrev TS:=Cg->St->Hp->Prop
def EP(X:Cx)(af:cE)(σ:St)(Q:VK)(u:Value)(s':aR):Prop:=∃v H',aU X af σ H' s'/\bW v u/\Q v H'
def TP(X:Cx)(af:cE)(σ:St)(Q:Eg)(b:Bool)(s':aR):Prop:=∃H',aU X af σ H' s'/\Q b H'
def AP(X:Cx)(af:cE)(σ:St)(Q:zB)(us:bw)(s':aR):Prop:=∃vs H',aU X af σ H' s'/\ba vs us/\Q vs H'
def SP(X:Cx)(af:cE)(D:Cg)(f:Flow)(s':aR):Prop:=
 match f with
 |.next=>∃σ' H',aU X af σ' H' s'/\D.nx σ' H'
 |.brk=>∃σ' H',aU X af σ' H' s'/\D.bk σ' H'
 |.cont=>∃σ' H',aU X af σ' H' s'/\D.ct σ' H'
 |.ret u=>∃v σ' H',aU X af σ' H' s'/\bW v u/\D.rt v H'
def PE(X:Cx)(e:Expr)(t:TE):Prop:=
 ∀ (af:cE) (s:aR) (σ:St) (H:Hp) (Q:VK),aU X af σ H s->t σ H Q->wpAny (model X.prog X.w) X.A (eval e X.env) (EP X af σ Q) X.xe s
def PT(X:Cx)(e:Expr)(t:TT):Prop:=
 ∀ (af:cE) (s:aR) (σ:St) (H:Hp) (Q:Eg),aU X af σ H s->t σ H Q->wpAny (model X.prog X.w) X.A (isTrue e X.env (eval e X.env)) (TP X af σ Q) X.xe s
def PW(X:Cx)(e:Expr)(t:TT):Prop:=
 ∀ (Ei:Sem Value) (af:cE) (s:aR) (σ:St) (H:Hp) (Q:Eg),aU X af σ H s->t σ H Q->wpAny (model X.prog X.w) X.A (isTrue e X.env Ei) (TP X af σ Q) X.xe s
theorem PW.pt(h:PW X e t):PT X e t:=h _
def PA(X:Cx)(es:gZ)(t:TA):Prop:=
 ∀ (pos:Pos) (af:cE) (s:aR) (σ:St) (H:Hp) (Q:zB),aU X af σ H s->t σ H Q->wpAny (model X.prog X.w) X.A (spliced (backTo pos (starEach es X.env))) (AP X af σ Q) X.xe s
def PS(X:Cx)(st:Stmt)(t:TS):Prop:=
 ∀ (af:cE) (s:aR) (σ:St) (H:Hp) (D:Cg),aU X af σ H s->t D σ H->wpAny (model X.prog X.w) X.A (exec st X.env) (SP X af D) X.xe s
def Ch(X:Cx)(st:List Stmt)(t:TS):Prop:=
 ∀ (af:cE) (s:aR) (σ:St) (H:Hp) (D:Cg),aU X af σ H s->t D σ H->wpAny (model X.prog X.w) X.A (execs st X.env) (SP X af D) X.xe s
theorem eD(h:wpAny M A t Q E s)(hQ:∀a s,Q a s->Q' a s):wpAny M A t Q' E s:=jK h hQ fun _ _ x=>x
section
variable {X:Cx}
def bb(i:Nat):TE:=fun σ H Q=>∃v,σ[i]?=some (some v)/\Q v H
def tC(v:V):TE:=fun _ H Q=>Q v H
theorem Qk(hN:X.N[i]?=some x)(hv:Ua X.env.scope x)(hd:(x==("__debug__":Str))=false:=by decide)(wr:(x==("__classdict__":Str))=false:=by decide):PE X (.Name x pos) (bb i):=by
 intro af s σ H Q I h;obtain⟨v,e,h⟩:=h;obtain⟨m,hn,hl⟩:=I.loc;obtain⟨u,r,l⟩:=hl i x v hN e hv;have d_:EP X af σ Q u s:=⟨v,H,I,r,h⟩
 rcases l with ⟨hk,hm⟩|⟨hk,c,hc,Ej⟩
 .exact qO (BW I.ok.kind hk hn hm d_) hd
 .rcases hk with hk|hk
  .exact qO (wpAny_loadName_cell I.ok.kind hk hc Ej d_) hd
  .exact qO (B1 I.ok.kind hk hc Ej d_ wr) hd
theorem az{i j pos}:PE X (.Constant (.int i) j pos) (tC (.int i)):=fun _ _ _ H _ I h=>wpAny_Constant_int ⟨.int i,H,I.tok _,⟨_,rfl⟩,h⟩
theorem Ek{b j pos}:PE X (.Constant (.bool b) j pos) (tC (.bl b)):=fun _ _ _ H _ I h=>Constant_bool ⟨.bl b,H,I,rfl,h⟩
theorem ii{j pos}:PE X (.Constant .none j pos) (tC .cI):=fun _ _ _ H _ I h=>Constant_none ⟨.cI,H,I,rfl,h⟩
def Gl(X:Cx)(x:Str):Prop:=X.env.kindOf x=some .globalImplicit
theorem tw (I : aU X af σ H s) (hg : Gl X x) (hm : X.mg x = some u) (h : Q u s)
  (hd : (x == ("__debug__" : Str)) = false:=by decide) : wpAny (model X.prog X.w) X.A (eval (.Name x pos) X.env) Q E s :=
 Calls.Name_function_global I.ok.kind hg (Calls.loadGlobal_global (by rw [I.ok.glob]; exact I.mod.glob.keeps I.bk) hm h) hd
theorem jP(I:aU X af σ H s)(hg:Gl X x)(hm:X.mg x=none)(hv:bootBuiltins x=some u)(h:Q u s)(hn:x≠"__name__":=by decide)(hd:(x==("__debug__":Str))=false:=by decide):wpAny (model X.prog X.w) X.A (eval (.Name x pos) X.env) Q E s:=by
 obtain⟨mb,h1,h2⟩:=I.mod.blt;exact Calls.Name_function_global I.ok.kind hg (Calls.loadGlobal_builtin (by rw[I.ok.glob];exact I.mod.glob.keeps I.bk) hm (by rw[I.ok.blt];exact h1.keeps I.bk) ((h2 x hn).trans hv) h) hd
theorem tD(hg:Gl X x)(hm:X.mg x=some u)(r:bW v u)(hd:(x==("__debug__":Str))=false:=by decide):PE X (.Name x pos) (tC v):=
 fun _ _ _ H _ I h=>tw I hg hm ⟨v,H,I,r,h⟩ hd
theorem kZ(hg:Gl X x)(hm:X.mg x=none)(hv:bootBuiltins x=some u)(r:bW v u)(hn:x≠"__name__":=by decide)(hd:(x==("__debug__":Str))=false:=by decide):PE X (.Name x pos) (tC v):=
 fun _ _ _ H _ I h=>jP I hg hm hv ⟨v,H,I,r,h⟩ hn hd
variable {a b:Expr} {ta tb:TE} {pos:Pos}
def PC(X:Cx)(op:CmpOp)(a b:Expr)(t:TE):Prop:=
 ∀ (af:cE) (s:aR) (σ:St) (H:Hp) (Q:VK),aU X af σ H s->t σ H Q->
  wpAny (model X.prog X.w) X.A (eval a X.env) (fun v s₁=>wpAny (model X.prog X.w) X.A (eval b X.env) (fun u s₂=>wpAny (model X.prog X.w) X.A (compareOp op v u) (EP X af σ Q) X.xe s₂) X.xe s₁) X.xe s
def tB(t:TE):TT:=fun σ H Q=>t σ H fun x H1=>∃c,x=.bl c/\Q c H1
theorem Ql(h:PC X op a b t)(h1:behindInMarks op b=false:=by first|exact UU _ (by decide) (by decide)|rfl):PT X (.Compare a [op] [b] pos) (tB t):=by
 intro af s σ H Q I hw;refine wpAny_isTrue_Compare1 (eD (h af s σ H _ I hw) fun v s1 h1=>eD h1 fun u s2 h2=>eD h2 fun c s3 ⟨x,H1,I1,r1,q1⟩=>?_) h1;obtain⟨d,rfl,q⟩:=q1;cases r1;exact qB ⟨H1,I1,q⟩
theorem jQ(h:PE X e t)(he:∀Ei,isTrue e X.env Ei=(do let v <- Ei;standAt e.pos;holding [v] (truthy v)):=by intro _;rfl):PT X e (tB t):=by
 intro af s σ H Q I hw;refine isTrue_plain (eD (h af s σ H _ I hw) fun v s1 ⟨x,H1,I1,r1,q1⟩=>?_) (he _);obtain⟨d,rfl,q⟩:=q1;cases r1;exact qB ⟨H1,I1,q⟩
variable {tA Yp:TT} {rest:gZ}
def Zo(t u:TT):TT:=fun σ H Q=>t σ H fun c H1=>if c=true then u σ H1 Q else Q false H1
def tOr(t u:TT):TT:=fun σ H Q=>t σ H fun c H1=>if c=true then Q true H1 else u σ H1 Q
def Zp(t:TT):TT:=fun σ H Q=>t σ H fun c H1=>Q (!c) H1
theorem tE(ha:PT X a tA):PW X (.BoolOp .And [a] pos) tA:=by
 intro wh af s σ H Q I h;refine isTrue_and (eD (ha af s σ H Q I h) fun c s1 e=>?_);cases c with
 |true=>exact isTrue_and_nil e
 |false=>exact e
theorem Cj(ha:PT X a tA):PW X (.BoolOp .Or [a] pos) tA:=by
 intro wh af s σ H Q I h;refine isTrue_or (eD (ha af s σ H Q I h) fun c s1 e=>?_);cases c with
 |false=>exact isTrue_or_nil e
 |true=>exact e
theorem xP(ha:PT X a tA)(hb:PW X (.BoolOp .And (b::rest) pos) Yp):PW X (.BoolOp .And (a::b::rest) pos) (Zo tA Yp):=by
 intro wh af s σ H Q I h;refine isTrue_and (eD (ha af s σ H _ I h) fun c s1 ⟨H1,I1,q1⟩=>?_);cases c with
 |true=>exact hb wh af s1 σ H1 Q I1 q1
 |false=>exact⟨H1,I1,q1⟩
theorem El(ha:PT X a tA)(hb:PW X (.BoolOp .Or (b::rest) pos) Yp):PW X (.BoolOp .Or (a::b::rest) pos) (tOr tA Yp):=by
 intro wh af s σ H Q I h;refine isTrue_or (eD (ha af s σ H _ I h) fun c s1 ⟨H1,I1,q1⟩=>?_);cases c with
 |true=>exact⟨H1,I1,q1⟩
 |false=>exact hb wh af s1 σ H1 Q I1 q1
theorem oj(ha:PT X a tA):PT X (.UnaryOp .Not a pos) (Zp tA):=by
 intro af s σ H Q I h;exact isTrue_not (ha af s σ H (fun c H1=>Q (!c) H1) I h)
def UV(ta tb:TE):TE:=fun σ H Q=>ta σ H fun x H1=>∃c,x=.bl c/\if c=true then tb σ H1 Q else Q (.bl false) H1
def UX(ta:TE):TE:=fun σ H Q=>ta σ H fun x H1=>∃c,x=.bl c/\Q (.bl (!c)) H1
theorem qP{op}(h:PE X a t):PE X (.BoolOp op [a] pos) t:=fun af s σ H Q I hw=>BoolOp_one (h af s σ H Q I hw)
theorem l4(ha:PE X a ta)(hb:PE X (.BoolOp .And (b::rest) pos) tb):PE X (.BoolOp .And (a::b::rest) pos) (UV ta tb):=by
 intro af s σ H Q I h;refine BoolOp_and (eD (ha af s σ H _ I h) fun v s1 ⟨x,H1,I1,r1,q1⟩=>?_);obtain⟨c,rfl,q1⟩:=q1;cases r1;refine qB ?_;cases c with
 |true=>exact hb af s1 σ H1 Q I1 q1
 |false=>exact⟨.bl false,H1,I1,rfl,q1⟩
theorem IP(ha:PE X a ta):PE X (.UnaryOp .Not a pos) (UX ta):=by
 intro af s σ H Q I h;refine UnaryOp_ (eD (ha af s σ H _ I h) fun v s1 ⟨x,H1,I1,r1,q1⟩=>?_);obtain⟨c,rfl,q1⟩:=q1;cases r1;exact not_of (qB ⟨.bl (!c),H1,I1,rfl,q1⟩)
def tIf(t:TT)(ta tb:TE):TE:=fun σ H Q=>t σ H fun c H1=>if c=true then ta σ H1 Q else tb σ H1 Q
theorem zF(hc:PT X c tA)(ha:PE X a ta)(hb:PE X b tb):PE X (.IfExp c a b pos) (tIf tA ta tb):=by
 intro af s σ H Q I h;refine wpAny_IfExp (eD (hc af s σ H _ I h) fun d s1 ⟨H1,I1,q1⟩=>?_);cases d with
 |true=>exact ha af s1 σ H1 Q I1 q1
 |false=>exact hb af s1 σ H1 Q I1 q1
end
def a8(K:a_)(H:Hp)(a:Addr)(xs:bg):Prop:=
 Rd H a (.lst xs)\/
  ∃ (o:Obj) (its:bD) (n:Nat),K.lookup a=some o/\o.cls=.type "list"/\o.dict=none/\o.data=.seq its n/\its.size<=sizeLine/\ba xs its.toList
def cu(K:a_)(H:Hp)(a:Addr)(xs:bg):Prop:=
 Rd H a (.tup xs)\/
  ∃ (o:Obj) (its:bD) (n:Nat),K.lookup a=some o/\o.cls=.type "tuple"/\o.data=.seq its n/\its.size<=sizeLine/\ba xs its.toList
def Zq:Value->Option V
 |.none=>some .cI
 |.bool b=>some (.bl b)
 |.int i _=>some (.int i)
 |.str x _=>some (.str x)
 |.bytes b _=>some (.HS b)
 |.float b _=>some (.Qg b)
 |.ref a=>some (.ref a)
 |.type n=>some (.ty n)
 |_=>none
theorem bW.abs(r:bW x u):Zq u=some x:=by
 cases x with
 |cI=>cases r;rfl
 |bl _=>cases r;rfl
 |int _=>obtain⟨t,rfl⟩:=r;rfl
 |str _=>obtain⟨t,rfl⟩:=r;rfl
 |HS _=>obtain⟨t,rfl⟩:=r;rfl
 |Qg _=>obtain⟨t,rfl⟩:=r;rfl
 |ref _=>cases r;rfl
 |ty _=>cases r;rfl
theorem bW.inj(r:bW x u)(q:bW y u):x=y:=cB (r.abs.symm.trans q.abs)
theorem ba.inj:∀ {xs ys:bg} {us:bw},ba xs us->ba ys us->xs=ys
 |_,_,_,.nil,.nil=>rfl
 |_,_,_,.cons r t,.cons r' t'=>by rw[r.inj r',ba.inj t t']
section
variable {X:Cx} {af:cE} {σ:St} {H:Hp} {s:aR} {a:Addr} {xs ys:bg}
theorem a8.of{K:a_}(h:H a=some (.lst xs)):a8 K H a xs:=.inl (.inl h)
theorem cu.of{K:a_}(h:H a=some (.tup xs)):cu K H a xs:=.inl (.inl h)
theorem aU.list(I:aU X af σ H s)(h:a8 X.K H a xs):∃its:List Value,ba xs its/\PlainL s.heap a its.toArray/\xs.length<=sizeLine:=by
 rcases h with h|⟨o,its,n,hk,hc,hd,hs,hz,r⟩
 .obtain⟨z,its,n,r,e⟩:=h.ok I.cY;exact⟨its,r,⟨_,n,e,rfl,rfl,rfl⟩,z⟩
 .refine⟨its.toList,r,⟨o,n,I.o_ a o hk,hc,hd,by simpa using hs⟩,?_⟩;have e:=r.length;simp only[lI] at e;lia
theorem aU.tuple(I:aU X af σ H s)(h:cu X.K H a xs):∃its:List Value,ba xs its/\IsTup s.heap a its.toArray/\xs.length<=sizeLine:=by
 rcases h with h|⟨o,its,n,hk,hc,hs,hz,r⟩
 .obtain⟨z,its,r,p⟩:=h.ok I.cY;exact⟨its,r,p.tup,z⟩
 .refine⟨its.toList,r,⟨o,I.o_ a o hk,hc,n,by simpa using hs⟩,?_⟩;have e:=r.length;simp only[lI] at e;lia
theorem aU.IQ(I:aU X af σ H s)(h:a8 X.K H a xs)(h':a8 X.K H a ys):xs=ys:=by
 obtain⟨its,r,⟨o,n,e,_,_,d⟩,_⟩:=I.list h;obtain⟨its',r',⟨o',n',e',_,_,d'⟩,_⟩:=I.list h';rw[e] at e';cases e';rw[d] at d';injection d' with d1 _;have:its=its':=by simpa using congrArg Array.toList d1
 subst this;exact r.inj r'
theorem aU.ij(I:aU X af σ H s)(h:cu X.K H a xs)(h':cu X.K H a ys):xs=ys:=by
 obtain⟨its,r,⟨o,e,_,n,d⟩,_⟩:=I.tuple h;obtain⟨its',r',⟨o',e',_,n',d'⟩,_⟩:=I.tuple h';rw[e] at e';cases e';rw[d] at d';injection d' with d1 _;have:its=its':=by simpa using congrArg Array.toList d1
 subst this;exact r.inj r'
end
abbrev Cx.vN(X:Cx)(E:bV):Cx:={ X with xe:=E }
abbrev Cx.Bd(X:Cx):Cx:=X.vN fun _ _=>False
theorem Cx.Ok.vN{X:Cx}(ok:X.Ok)(E:bV):(X.vN E).Ok:=
 ⟨ok.mod,ok.kind,ok.glob,ok.blt,ok.above,ok.inj,ok.has,ok.UQ,ok.hd,ok.frames,ok.Ub,ok.Zh,ok.bs,ok.IL,ok.IM,ok.Me,ok.sg,ok.Qi⟩
theorem Cx.Ok.l6{X:Cx}{E:bV}(ok:(X.vN E).Ok):X.Ok:=
 ⟨ok.mod,ok.kind,ok.glob,ok.blt,ok.above,ok.inj,ok.has,ok.UQ,ok.hd,ok.frames,ok.Ub,ok.Zh,ok.bs,ok.IL,ok.IM,ok.Me,ok.sg,ok.Qi⟩
section
variable {X:Cx} {af:cE} {σ:St} {H:Hp} {s:aR} {E:bV}
theorem aU.vN(I:aU X af σ H s)(E:bV):aU (X.vN E) af σ H s:=⟨I.ok.vN E,I.os,I.bare,I.base,I.loc,I.cell,I.free,I.l3,I.pin,I.cY,I.len⟩
theorem aU.l6(I:aU (X.vN E) af σ H s):aU X af σ H s:=⟨I.ok.l6,I.os,I.bare,I.base,I.loc,I.cell,I.free,I.l3,I.pin,I.cY,I.len⟩
theorem SP.l6(h:SP (X.vN E) af D f s'):SP X af D f s':=by
 cases f with
 |next=>obtain⟨σ',H',I,q⟩:=h;exact⟨σ',H',I.l6,q⟩
 |brk=>obtain⟨σ',H',I,q⟩:=h;exact⟨σ',H',I.l6,q⟩
 |cont=>obtain⟨σ',H',I,q⟩:=h;exact⟨σ',H',I.l6,q⟩
 |ret u=>obtain⟨v,σ',H',I,r,q⟩:=h;exact⟨v,σ',H',I.l6,r,q⟩
theorem Ch.Bd{st:List Stmt}{t:TS}(h:Ch X.Bd st t):Ch X st t:=fun af s σ H D I hw=>
 jK (h af s σ H D (I.vN _) hw) (fun _ _ q=>q.l6) fun _ _ z=>False.elim z
end
section
variable {X:Cx} {st:Stmt} {rest:List Stmt} {t u:TS} {e:Expr} {te:TE} {pos:Pos}
def O1:TS:=fun D σ H=>D.nx σ H
def UY(t u:TS):TS:=fun D σ H=>t { D with nx:=u D } σ H
theorem b8:Ch X [] O1:=fun _ _ σ H _ I h=>xE ⟨σ,H,I,h⟩
theorem ak(h1:PS X st t)(h2:Ch X rest u):Ch X (st::rest) (UY t u):=by
 intro af s σ H D I h;refine wpAny_execs_cons (eD (h1 af s σ H { D with nx:=u D } I h) fun f s1 q=>?_);cases f with
 |next=>
  obtain⟨σ',H',I',q⟩:=q;exact h2 af s1 σ' H' D I' q
 |ret v=>exact q
 |brk=>exact q
 |cont=>exact q
theorem av(h1:PS X st t):Ch X [st] t:=by
 intro af s σ H D I h;refine wpAny_execs_cons (eD (h1 af s σ H D I h) fun f s1 q=>?_);cases f with
 |next=>exact xE q
 |ret v=>exact q
 |brk=>exact q
 |cont=>exact q
theorem aU.quiet(I:aU X af σ H s):interactive X.env=false:=by simp[interactive,I.ok.kind]
def UZ(te:TE):TS:=fun D σ H=>te σ H fun _ H1=>D.nx σ H1
theorem cG(he:PE X e te)(hs:swapsWith e none pos.line X.env=pure false:=by rfl):PS X (.Expr e pos) (UZ te):=by
 intro af s σ H D I h;exact wpAny_Expr_any (eD (he af s σ H _ I h) fun v s1 ⟨x,H1,I1,r1,q1⟩=>⟨σ,H1,I1,q1⟩) I.quiet hs
def U0(te:TE):TS:=fun D σ H=>te σ H D.rt
theorem bh(he:PE X e te):PS X (.Return (some e) pos) (U0 te):=by
 intro af s σ H D I h;exact wpAny_Return_some (eD (he af s σ H _ I h) fun v s1 ⟨x,H1,I1,r1,q1⟩=>⟨x,σ,H1,I1,r1,q1⟩)
def U1(c:TT)(t u:TS):TS:=fun D σ H=>c σ H fun b H1=>if b=true then t D σ H1 else u D σ H1
theorem dS(hc:PT X c tc)(ha:Ch X a t)(hb:Ch X b u):PS X (.If c a b pos) (U1 tc t u):=by
 intro af s σ H D I h;refine wpAny_If (eD (hc af s σ H _ I h) fun d s1 ⟨H1,I1,q1⟩=>?_);cases d with
 |true=>exact ha af s1 σ H1 D I1 q1
 |false=>exact hb af s1 σ H1 D I1 q1
def Qm:TS:=fun _ _ _=>False
theorem ff:Ch X sts Qm:=fun _ _ _ _ _ _ h=>h.elim
end
abbrev TG:=V->St->Hp->(St->Hp->Prop)->Prop
abbrev U2:=List V->St->Hp->(St->Hp->Prop)->Prop
def PG(X:Cx)(Qn:Expr)(t:TG):Prop:=
 ∀ (af:cE) (s:aR) (σ:St) (H:Hp) (v:V) (u:Value) (Q:ir),aU X af σ H s->bW v u->t v σ H Q->
  wpAny (model X.prog X.w) X.A (assign Qn X.env u) (fun _ s'=>∃σ' H',aU X af σ' H' s'/\Q σ' H') X.xe s
def Yq(X:Cx)(ts:gZ)(t:U2):Prop:=
 ∀ (af:cE) (s:aR) (σ:St) (H:Hp) (vs:bg) (us:bw) (Q:ir),aU X af σ H s->ba vs us->t vs σ H Q->
  wpAny (model X.prog X.w) X.A (assignInOrder ((assignEach ts X.env).map (·.2)) us) (fun _ s'=>∃σ' H',aU X af σ' H' s'/\Q σ' H') X.xe s
abbrev U3:=V->V->V->Hp->(Hp->Prop)->Prop
def U4(X:Cx)(t:U3):Prop:=
 ∀ (af:cE) (s:aR) (σ:St) (H:Hp) (o i v:V) (ov iv u:Value) (Q:rL),aU X af σ H s->bW o ov->bW i iv->bW v u->t o i v H Q->
  wpAny (model X.prog X.w) X.A (setItem ov iv u) (fun _ s'=>∃H',aU X af σ H' s'/\Q H') X.xe s
abbrev Zr:=V->V->Hp->VK->Prop
def PIp(X:Cx)(op:Operator)(t:Zr):Prop:=
 ∀ (af:cE) (s:aR) (σ:St) (H:Hp) (x y:V) (v u:Value) (Q:VK),aU X af σ H s->bW x v->bW y u->t x y H Q->
  wpAny (model X.prog X.w) X.A (inplaceOp op v u) (EP X af σ Q) X.xe s
section
variable {X:Cx} {pos:Pos}
def bH(i:Nat):TG:=fun v σ H Q=>Q (σ.set i (some v)) H
theorem aA(hN:X.N.Nodup)(hi:X.N[i]?=some x)(hx:UP X.env.scope x)(hf:X.fn x=true\/X.env.scope.names.lookup x=some .local:=by first|exact .inl rfl|exact .inr rfl|assumption):PG X (.Name x pos) (bH i):=by
 intro af s σ H v u Q I r h;exact wpAny_assign_Name (iq I hN hi hx r (fun s' I'=>⟨_,H,I',h⟩) hf)
def uM:U2:=fun vs σ H Q=>vs=[]/\Q σ H
def gn(t:TG)(u:U2):U2:=fun vs σ H Q=>∃v r,vs=v::r/\t v σ H fun σ' H'=>u r σ' H' Q
theorem cM:Yq X [] uM:=by
 intro af s σ H vs us Q I r h;obtain⟨e,h⟩:=h;subst e;cases r;exact assignInOrder_nil ⟨σ,H,I,h⟩
theorem aE(h1:PG X e t)(h2:Yq X es u)(hs:(assignEach (e::es) X.env).map (·.2)=assign e X.env::(assignEach es X.env).map (·.2):=by rfl):Yq X (e::es) (gn t u):=by
 intro af s σ H vs us Q I r h;obtain⟨v,vr,e1,h⟩:=h;subst e1;cases r with
 |cons r rr=>
  rw[hs];refine qC (eD (h1 af s σ H _ _ _ I r h) fun _ s1 ⟨σ1,H1,I1,q1⟩=>?_);exact h2 af s1 σ1 H1 _ _ Q I1 rr q1
def uN(K:a_)(n:Nat)(t:U2):TG:=fun v σ H Q=>∃a xs,v=.ref a/\cu K H a xs/\xs.length=n/\t xs σ H Q
theorem dX(hc:X.calm=true)(h:Yq X es t)(hn:(assignEach es X.env).length=n:=by rfl)(qc:(assignEach es X.env).findIdx? (·.1)=none:=by rfl):PG X (.Tuple es k pos) (uN X.K n t):=by
 intro af s σ H v u Q I r hw;obtain⟨a,xs,e1,hq,hl,hw⟩:=hw;subst e1;cases r;obtain⟨its,rv,ht,hz⟩:=I.tuple hq;refine assign_Tuple_tuple (I.ok.hd hc) ht (by simp[hn,<-hl,rv.length]) qc fun h' hx=>?_;have I1:aU X af σ H { s with heap:=h' }:=I.kept (t':=s.toks) fun b o e=>hx b o (bf (aS e)) e;exact h af _ σ H xs _ Q I1 (by simpa using rv) hw
def Zt(to ti:TE)(t:U3):TG:=fun v σ H Q=>to σ H fun o H1=>ti σ H1 fun i H2=>t o i v H2 fun H3=>Q σ H3
theorem gx(ho:PE X o to)(hi:PE X i ti)(hs:U4 X t)(ha:∀v,assign (.Subscript o i pos) X.env v=(do
   let ov <- holding [v] (eval o X.env)
   let iv <- holding [v,ov] (eval i X.env)
   standAt pos
   holding [v,ov,iv] (setItem ov iv v)
   release [v,ov,iv] []):=by intro _;rfl):PG X (.Subscript o i pos) (Zt to ti t):=by
 intro af s σ H v u Q I r h;rw[ha];refine au (gK (eD (ho af s σ H _ I h) fun ov s1 ⟨x,H1,I1,r1,q1⟩=>?_));refine au (gK (eD (hi af s1 σ H1 _ I1 q1) fun iv s2 ⟨y,H2,I2,r2,q2⟩=>?_));refine au (n9 (au (gK (eD (hs af s2 σ H2 x y v ov iv u _ I2 r1 r2 r q2) fun _ s3 ⟨H3,I3,q3⟩=>?_))));exact wpAny_release ⟨σ,H3,I3,q3⟩
def Qo(te:TE)(g:TG):TS:=fun D σ H=>te σ H fun x H1=>g x σ H1 D.nx
theorem d8(he:PE X e te)(hg:PG X tg g)(hs:swapsWithSole [tg] e pos.line X.env=pure false:=by rfl)(hw:swappedStores [tg] e X.env=pure none:=by rfl)(h1:(assignEach [tg] X.env).map (·.2)=[assign tg X.env]:=by rfl):PS X (.Assign [tg] e pos) (Qo te g):=by
 intro af s σ H D I h;refine wpAny_Assign_stores (eD (he af s σ H _ I h) fun v s1 ⟨x,H1,I1,r1,q1⟩=>?_) hs hw;rw[h1];exact eD (hg af s1 σ H1 x v _ I1 r1 q1) fun _ s2 q=>q
theorem aW(hN:X.N.Nodup)(hi:X.N[i]?=some x)(hx:UP X.env.scope x)(he:PE X e te)(hs:swapsWith e (some (.Name x FZ)) pos.line X.env=pure false:=by rfl)(hf:X.fn x=true\/X.env.scope.names.lookup x=some .local:=by first|exact .inl rfl|exact .inr rfl|assumption):
  PS X (.Assign [.Name x FZ] e pos) (Qo te (bH i)):=by
 intro af s σ H D I h;refine wpAny_Assign_Name (eD (he af s σ H _ I h) fun v s1 ⟨y,H1,I1,r1,q1⟩=>?_) hs;exact iq I1 hN hi hx r1 (fun s2 I2=>⟨_,H1,I2,q1⟩) hf
def Zu(i j:Nat)(ta:TA):TS:=fun D σ H=>ta σ H fun vs H1=>∃v w,vs=[v,w]/\D.nx ((σ.set i (some v)).set j (some w)) H1
theorem Ck{kt k2 Em}(hc:X.calm=true)(hN:X.N.Nodup)(hi:X.N[i]?=some x)(hj:X.N[j]?=some y)(zG:i≠j)(hx:X.env.scope.names.lookup x=some .local)(hy:X.env.scope.names.lookup y=some .local)(ha:PA X [a,b] ta)(hw:swappedStores [.Tuple [.Name x px,.Name y py] kt pt] (.Tuple [a,b] k2 Em) X.env=pure (some [x,y]))(hs:swapsWithSole [.Tuple [.Name x px,.Name y py] kt pt] (.Tuple [a,b] k2 Em) pos.line X.env=pure false:=by rfl):
  PS X (.Assign [.Tuple [.Name x px,.Name y py] kt pt] (.Tuple [a,b] k2 Em) pos) (Zu i j ta):=by
 intro af s σ H D I h;rw[exec_Assign_arm];refine au (n9 ?_);rw[hs];refine au (wpAny_pure ?_);rw[ao (by decide)];refine au (Tuple_ (eD (ha _ af s σ H _ I h) fun us s1 ⟨vs,H1,I1,r1,q1⟩=>?_));obtain⟨v,w,e1,q1⟩:=q1;subst e1;obtain⟨u1,u2,rfl,rv,vO⟩:∃u1 u2,us=[u1,u2]/\bW v u1/\bW w u2:=by
  cases r1 with
  |cons p q=>
   cases q with
   |cons p' q'=>
    cases q';exact⟨_,_,rfl,p,p'⟩
 refine kJ ?_ (by show 2<=sizeLine;decide);have I2:aU X af σ H1 { s1 with heap:=s1.heap.push { cls:=.type "tuple",data:=.seq [u1,u2].toArray } }:=I1.kept (t':=s1.toks) fun b o e=>bP _ e;rw[hw];refine au (wpAny_pure ?_);show wpAny (model X.prog X.w) X.A (do rule "assign.swapped-stores";let items <- unpackItems (.ref s1.heap.objs.size) 2 none;assignInOrder [fun v=>bindName X.env y v,fun v=>bindName X.env x v] items.reverse;pure Flow.next) _ _ _;refine au (fv (au (unpackItems_tuple (items:=#[u1,u2]) (I.ok.hd hc) (IsTup.new s1.heap _) fun h' qQ=>?_)));have I3:=I2.kept (h':=h') (t':=s1.toks) fun b o e=>qQ b o (bf (aS e)) e;show wpAny _ _ (assignInOrder [fun v=>bindName X.env y v,fun v=>bindName X.env x v] [u2,u1] >>= fun _=>pure Flow.next) _ _ _;refine au (qC (uE (iq I3 hN hj (.inl hy) vO (fun s2 I4=>?_) (.inr hy))));refine qC (uE (iq I4 hN hi (.inl hx) rv (fun s3 I5=>assignInOrder_nil (wpAny_pure ?_)) (.inr hx)));rw[xG _ _ (dI zG)] at I5;exact⟨_,H1,I5,q1⟩
def Zv(i:Nat)(te:TE)(ti:Zr):TS:=fun D σ H=>∃x,σ[i]?=some (some x)/\te σ H fun y H1=>ti x y H1 fun z H2=>D.nx (σ.set i (some z)) H2
theorem Qp(hN:X.N.Nodup)(hi:X.N[i]?=some x)(hx:UP X.env.scope x)(he:PE X e te)(ho:PIp X op ti)(hf:X.fn x=true\/X.env.scope.names.lookup x=some .local:=by first|exact .inl rfl|exact .inr rfl|assumption):
  PS X (.AugAssign (.Name x FZ) op e pos) (Zv i te ti):=by
 intro af s σ H D I h;obtain⟨v,e1,h⟩:=h;obtain⟨m,hn,hl⟩:=I.loc;have U5:Ua X.env.scope x:=by rcases hx with k|k;exact .inl k;exact .inr (.inl k)
 obtain⟨u,r,l⟩:=hl i x v hi e1 U5;refine wpAny_AugAssign_Name ?_;have go:wpAny (model X.prog X.w) X.A (eval e X.env) (fun w s₂=>wpAny (model X.prog X.w) X.A (inplaceOp op u w) (fun r s₃=>wpAny (model X.prog X.w) X.A (storeName X.env x r) (fun _=>SP X af D .next) X.xe s₃) X.xe s₂) X.xe s:=by
  refine eD (he af s σ H _ I h) fun w s1 ⟨y,H1,I1,r1,q1⟩=>?_;refine eD (ho af s1 σ H1 v y u w _ I1 r r1 q1) fun z s2 ⟨zv,H2,I2,r2,q2⟩=>?_;exact iq I2 hN hi hx r2 (fun s3 I3=>⟨_,H2,I3,q2⟩) hf
 rcases l with ⟨hk,hm⟩|⟨hk,c,hc,Ej⟩
 .exact BW I.ok.kind hk hn hm go
 .rcases hk with hk|hk
  .exact wpAny_loadName_cell I.ok.kind hk hc Ej go
  .rcases hx with k|k
   .have:X.env.scope.names.lookup x=some .free:=hk;rw[k] at this;cases this
   .have:X.env.scope.names.lookup x=some .free:=hk;rw[k] at this;cases this
def ipI(f:Int->Int->Int):Zr:=fun x y H Q=>∃i j,x=.int i/\y=.int j/\Q (.int (f i j)) H
theorem Qq:PIp X .Add (ipI fun i j=>i+j):=by
 intro af s σ H x y v u Q I r1 r2 h;obtain⟨i,j,e1,e2,q⟩:=h;subst e1;subst e2;obtain⟨t,rfl⟩:=r1;obtain⟨t',rfl⟩:=r2;exact iadd_int ⟨.int _,H,I.tok _,⟨_,rfl⟩,q⟩
def IR(c:TT)(tb:TS):TS:=fun D σ H=>∃W:Nat->St->Hp->Prop,(∃m,W m σ H)/\∀m σ H,W m σ H->
 c σ H fun b H1=>if b=true then ∃N:St->Hp->Prop,(∀σ' H',N σ' H'->∃m',m'<m/\W m' σ' H')/\tb { D with nx:=N,ct:=N,bk:=D.nx } σ H1 else D.nx σ H1
theorem zH(hp:PassesOwn (model X.prog X.w) X.A X.env X.xe)(hc:PT X c tc)(hb:Ch X body tb):PS X (.While c body [] pos) (IR tc tb):=by
 intro af s σ H D I h;obtain⟨W,⟨m0,w0⟩,IS⟩:=h;refine wpAny_While (codeAny_whileLoop (fun n s'=>∃σ' H',aU X af σ' H' s'/\W n σ' H') ?_ m0 ⟨σ,H,I,w0⟩);rintro n s1 ⟨σ1,H1,I1,w1⟩;refine nZ hp (eD (hc af s1 σ1 H1 _ I1 (IS n σ1 H1 w1)) fun b s2 ⟨H2,I2,q2⟩=>?_);cases b with
 |true=>
  obtain⟨N,hN,q2⟩:=q2;rw[ap rfl];refine nZ hp (eD (hb af s2 σ1 H2 _ I2 q2) fun f s3 q3=>?_);cases f with
  |next=>
   obtain⟨σ3,H3,I3,n3⟩:=q3;obtain⟨m',hm,w3⟩:=hN σ3 H3 n3;exact⟨m',hm,σ3,H3,I3,w3⟩
  |cont=>
   obtain⟨σ3,H3,I3,n3⟩:=q3;obtain⟨m',hm,w3⟩:=hN σ3 H3 n3;exact⟨m',hm,σ3,H3,I3,w3⟩
  |brk=>exact q3
  |ret v=>exact q3
 |false=>
  rw[ao di];exact xE ⟨σ1,H2,I2,q2⟩
end
structure It where
 go:Nat->Hp->Prop
 Uc:Nat->Hp->V->Hp->Prop
 stop:Nat->Hp->Prop
def hZ(X:Cx)(af:cE)(H:Hp)(b:Addr):Prop:=
 H b=none/\b≠X.env.locals/\b∉X.fs/\(b∈X.ex\/X.s₀.heap.objs.size<=b)/\(∀x c,X.env.cells.lookup x=some c->c≠b)/\∀p∈X.pn++af,p.1≠b
theorem aU.zI(I:aU X af σ H s)(hb:s.heap.objs.size<=b)(hn:H' b=none):hZ X af H' b:=by
 refine⟨hn,gO (bv I.lt hb),I.Zj hb,.inr (aZ I.sz hb),fun x c e z=>?_,fun p hp z=>?_⟩
 .obtain⟨v,q⟩:=I.cell x c e;exact absurd (bv q.lt (by rw[z];exact hb)) (jc _)
 .exact absurd (bv (aS (I.pin p hp).1) (by rw[z];exact hb)) (jc _)
structure zJ(P:bL)(w:World)(K:a_)(tg:Expr)(J:It)(fp:bR)(it:Addr)(tn:IC):Prop where
 mem:it∈fp
 obj:∀i h,tn i h->∀b∈fp,∃o,h.get? b=some o/\∀v,o.data≠.cell v
 keep:∀i h h',tn i h->(∀b∈fp,∀o,h.get? b=some o->h'.get? b=some o)->tn i h'
 item:∀ (X:Cx),X.prog=P->X.w=w->X.K=K->X.calm=true->∀ (i:Nat) (af:cE) (s:aR) (σ:St) (H:Hp) (E:bV),aU X af σ H s->(∀b∈fp,hZ X af H b)->tn i s.heap->J.go i H->
  wpAny (model P w) X.A (pyNext (.ref it)) (fun r s1=>∃u,r=some u/\
   wpAny (model P w) X.A (letOwnedTupleGo tg (.ref it) u) (fun _ s2=>∃x H',aU X af σ H' s2/\bW x u/\J.Uc i H x H'/\tn (i+1) s2.heap/\∀b∈fp,H' b=none) E s1) E s
 done:∀ (X:Cx),X.prog=P->X.w=w->X.K=K->X.calm=true->∀ (i:Nat) (af:cE) (s:aR) (σ:St) (H:Hp) (E:bV),aU X af σ H s->(∀b∈fp,hZ X af H b)->tn i s.heap->J.stop i H->
  wpAny (model P w) X.A (pyNext (.ref it)) (fun r s1=>r=none/\aU X af σ H s1) E s
 self:∀ (A:br) (i:Nat) (s:aR) (Q:bV) (E:bV),tn i s.heap->Q (.ref it) s->wpAny (model P w) A (pyIter (.ref it)) Q E s
abbrev TI:=St->Hp->(It->Hp->Prop)->Prop
def PIE(X:Cx)(af:cE)(σ:St)(tg:Expr)(R:It->Hp->Prop)(Yr:Value)(s2:aR):Prop:=
 ∃ (it:Addr) (fp:bR) (tn:IC) (J:It) (H':Hp),Yr=.ref it/\aU X af σ H' s2/\zJ X.prog X.w X.K tg J fp it tn/\tn 0 s2.heap/\(∀b∈fp,hZ X af H' b)/\R J H'
def PI(X:Cx)(tg lB:Expr)(wi:TI):Prop:=
 ∀ (af:cE) (s:aR) (σ:St) (H:Hp) (R:It->Hp->Prop),aU X af σ H s->wi σ H R->
  wpAny (model X.prog X.w) X.A (eval lB X.env) (fun v s1=>wpAny (model X.prog X.w) X.A (pyIter v) (PIE X af σ tg R) X.xe s1) X.xe s
theorem IT(ho:s.heap.get? it=some o)(hc:o.cls=.type n)(hd:o.data=.fields vs)(hn:["enumerate","zip","dict_itemiterator","dict_reverseitemiterator","odict_iterator","itertools.zip_longest","itertools.pairwise"].contains n=false)(hQ:Q () s):wpAny M A (letOwnedTupleGo tg (.ref it) u) Q E s:=by
 unfold letOwnedTupleGo;cases tg <;> first
  |exact wpAny_pure hQ
  |(cases u <;> first
    |exact wpAny_pure hQ
    |(refine au (wpAny_load ho ?_);rw[hc,hd];show wpAny M A (if (["enumerate","zip","dict_itemiterator","dict_reverseitemiterator","odict_iterator","itertools.zip_longest","itertools.pairwise"].contains n&&vs[0]?==some (rawInt _))=true then _ else _) Q E s;rw[ao (by intro h;rw[hn,Bool.false_and] at h;cases h)];exact wpAny_pure hQ))
def IU(K:a_)(a:Addr):It:=
 ⟨fun i H=>∃xs x,a8 K H a xs/\xs[i]?=some x,fun i H x H'=>H'=H/\∀xs,a8 K H a xs->xs[i]?=some x,fun i H=>∃xs,a8 K H a xs/\xs.length<=i⟩
def Zw(K:a_)(a:Addr):It:=
 ⟨fun i H=>∃xs x,cu K H a xs/\xs[i]?=some x,fun i H x H'=>H'=H/\∀xs,cu K H a xs->xs[i]?=some x,fun i H=>∃xs,cu K H a xs/\xs.length<=i⟩
def HV(lo:Int)(n:Nat):It:=⟨fun i _=>i<n,fun i H x H'=>H'=H/\x=.int (lo+i),fun i _=>n<=i⟩
theorem F3{P:bL}{w:World}{K:a_}{tg:Expr}(a it:Addr):zJ P w K tg (IU K a) [it] it (fun i h=>h.IsListIter it a i) where
 mem:=by simp
 obj:=fun i h st b hb=>by
  have e:b=it:=by simpa using hb
  subst e;obtain⟨o,e,c,d⟩:=st;exact⟨o,e,fun v z=>by rw[d] at z;cases z⟩
 keep:=fun i h h' st k=>st.at fun o e=>k it (by simp) o e
 item:=by
  intro X hP hw hK hc i af s σ H E I hf st hg;subst hP hw hK;obtain⟨xs,x,hq,hx⟩:=hg;obtain⟨its,rv,p,hz⟩:=I.list hq;obtain⟨u,hu,ru⟩:=rv.get hx;obtain⟨f0,f1,f2,f3,f4,f5⟩:=hf it (by simp);refine BN st p.isList (x:=u) (by simpa using hu) fun h' aF sb=>?_;have I1:aU X af σ H { s with heap:=h' }:=I.turned (t':=s.toks) (fun b o hb e=>(sb.2 b hb).trans e) f0 f1 f3 f4 f5;obtain⟨o,e,c,d⟩:=id aF;exact⟨u,rfl,IT (s:={ s with heap:=h' }) e c d (by decide) ⟨x,H,I1,ru,⟨rfl,fun ys hy=>by rw[I.IQ hy hq];exact hx⟩,aF,fun b hb=>(hf b hb).1⟩⟩
 done:=by
  intro X hP hw hK hc i af s σ H E I hf st hg;subst hP hw hK;obtain⟨xs,hq,hx⟩:=hg;obtain⟨its,rv,p,hz⟩:=I.list hq;obtain⟨f0,f1,f2,f3,f4,f5⟩:=hf it (by simp);have hl:=rv.length;exact BQ (I.ok.hd hc) st p.isList (by simp;lia) fun h' eb=>⟨rfl,I.turned (t':=s.toks) (fun b o hb e=>eb b o hb e) f0 f1 f3 f4 f5⟩
 self:=fun _ _ _ _ _ st h=>wpAny_pyIter_listiter st h
theorem Cm{P:bL}{w:World}{K:a_}{tg:Expr}(a it:Addr):zJ P w K tg (Zw K a) [it] it (fun i h=>h.IsTupleIter it a i) where
 mem:=by simp
 obj:=fun i h st b hb=>by
  have e:b=it:=by simpa using hb
  subst e;obtain⟨o,e,c,d⟩:=st;exact⟨o,e,fun v z=>by rw[d] at z;cases z⟩
 keep:=fun i h h' st k=>st.at fun o e=>k it (by simp) o e
 item:=by
  intro X hP hw hK hc i af s σ H E I hf st hg;subst hP hw hK;obtain⟨xs,x,hq,hx⟩:=hg;obtain⟨its,rv,p,hz⟩:=I.tuple hq;obtain⟨u,hu,ru⟩:=rv.get hx;obtain⟨f0,f1,f2,f3,f4,f5⟩:=hf it (by simp);refine wpAny_pyNext_tuple_item st (show s.heap.IsTuple a its.toArray from p) (x:=u) (by simpa using hu) fun h' aF sb=>?_;have I1:aU X af σ H { s with heap:=h' }:=I.turned (t':=s.toks) (fun b o hb e=>(sb.2 b hb).trans e) f0 f1 f3 f4 f5;obtain⟨o,e,c,d⟩:=id aF;exact⟨u,rfl,IT (s:={ s with heap:=h' }) e c d (by decide) ⟨x,H,I1,ru,⟨rfl,fun ys hy=>by rw[I.ij hy hq];exact hx⟩,aF,fun b hb=>(hf b hb).1⟩⟩
 done:=by
  intro X hP hw hK hc i af s σ H E I hf st hg;subst hP hw hK;obtain⟨xs,hq,hx⟩:=hg;obtain⟨its,rv,p,hz⟩:=I.tuple hq;obtain⟨f0,f1,f2,f3,f4,f5⟩:=hf it (by simp);have hl:=rv.length;exact wpAny_pyNext_tuple_end (I.ok.hd hc) st (show s.heap.IsTuple a its.toArray from p) (by simp;lia) fun h' eb=>⟨rfl,I.turned (t':=s.toks) (fun b o hb e=>eb b o hb e) f0 f1 f3 f4 f5⟩
 self:=fun _ _ _ _ _ st h=>wpAny_pyIter_tupleiter st h
theorem Cn{P:bL}{w:World}{K:a_}{tg:Expr}(it:Addr)(lo:Int)(n:Nat):zJ P w K tg (HV lo n) [it] it (fun i h=>IsRangeIter h it (lo+(i:Nat)*1) ((n:Int)-(i:Nat)) 1) where
 mem:=by simp
 obj:=fun i h st b hb=>by
  have e:b=it:=by simpa using hb
  subst e;exact⟨_,st,fun v z=>by
   have z':Data.fields _=Data.cell v:=z;cases z'⟩
 keep:=fun i h h' st k=>k it (by simp) _ st
 item:=by
  intro X hP hw hK hc i af s σ H E I hf st hg;subst hP hw hK;obtain⟨f0,f1,f2,f3,f4,f5⟩:=hf it (by simp);have W:=Walks.range (prog:=X.prog) (w:=X.w) (I.ok.hd hc) it lo 1 n;refine W.item i s _ _ hg st fun v h' tk hv aF kk=>?_;obtain⟨t,rfl⟩:=hv;have I1:aU X af σ H { s with heap:=h',toks:=tk }:=I.turned (fun b o hb e=>kk b o (by simpa using hb) e) f0 f1 f3 f4 f5;refine⟨_,rfl,IT (s:={ s with heap:=h',toks:=tk }) (n:="range_iterator") aF rfl rfl (by decide) ⟨.int (lo+i),H,I1,⟨t,?_⟩,⟨rfl,rfl⟩,aF,fun b hb=>(hf b hb).1⟩⟩;rw[Int.mul_one]
 done:=by
  intro X hP hw hK hc i af s σ H E I hf st hg;subst hP hw hK;obtain⟨f0,f1,f2,f3,f4,f5⟩:=hf it (by simp);exact wpAny_pyNext_range_end (I.ok.hd hc) st (by have:n<=i:=hg;lia) fun h' eb=>⟨rfl,I.turned (t':=s.toks) (fun b o hb e=>eb b o hb e) f0 f1 f3 f4 f5⟩
 self:=fun _ _ _ _ _ st h=>wpAny_pyIter_rangeiter st h
section
variable {X:Cx} {tg:Expr}
def O2(K:a_)(tl:TE):TI:=fun σ H R=>tl σ H fun x H1=>∃a,x=.ref a/\(∃xs,a8 K H1 a xs)/\R (IU K a) H1
def Zx(K:a_)(tl:TE):TI:=fun σ H R=>tl σ H fun x H1=>∃a,x=.ref a/\(∃xs,cu K H1 a xs)/\R (Zw K a) H1
theorem bN{l:Expr}{tl:TE}(hl:PE X l tl):PI X tg l (O2 X.K tl):=by
 intro af s σ H R I h;refine eD (hl af s σ H _ I h) fun v s1 ⟨x,H1,I1,r1,q1⟩=>?_;obtain⟨a,e,⟨xs,hq⟩,q⟩:=q1;subst e;cases r1;obtain⟨its,rv,p,hz⟩:=I1.list hq;refine ux p.isList ?_;refine⟨s1.heap.objs.size,[s1.heap.objs.size],_,_,H1,rfl,I1.kept (t':=s1.toks) fun b o e=>bP _ e,F3 a _,⟨_,cX _ rfl,rfl,rfl⟩,fun b hb=>?_,q⟩;have e:b=s1.heap.objs.size:=by simpa using hb
 subst e;exact I1.zI (aP _) (I1.cY.fresh (aP _))
theorem Co{l:Expr}{tl:TE}(hl:PE X l tl):PI X tg l (Zx X.K tl):=by
 intro af s σ H R I h;refine eD (hl af s σ H _ I h) fun v s1 ⟨x,H1,I1,r1,q1⟩=>?_;obtain⟨a,e,⟨xs,hq⟩,q⟩:=q1;subst e;cases r1;obtain⟨its,rv,p,hz⟩:=I1.tuple hq;refine ut (show s1.heap.IsTuple a its.toArray from p) ?_;refine⟨s1.heap.objs.size,[s1.heap.objs.size],_,_,H1,rfl,I1.kept (t':=s1.toks) fun b o e=>bP _ e,Cm a _,⟨_,cX _ rfl,rfl,rfl⟩,fun b hb=>?_,q⟩;have e:b=s1.heap.objs.size:=by simpa using hb
 subst e;exact I1.zI (aP _) (I1.cY.fresh (aP _))
theorem zK{af:cE}{σ:St}{H:Hp}{s:aR}{R:It->Hp->Prop}{E:bV}{lo hi:Int}{t u v:Tok}{tk:Nat}(I:aU X af σ H s)(h1:-(2 ^ 62)<=lo)(h2:lo<2 ^ 62)(h3:-(2 ^ 62)<=hi)(h4:hi<2 ^ 62)(q:R (HV lo (hi-lo).toNat) H):wpAny (model X.prog X.w) X.A (pyIter (.ref s.heap.objs.size)) (PIE X af σ tg R) E { s with heap:=s.heap.push { cls:=.type "range",data:=.fields #[.int lo t,.int hi u,.int 1 v] },toks:=tk }:=by
 refine wpAny_pyIter_range (IsRange.new ..) (small_one h1 h2 h3 h4) ?_;have I1:aU X af σ H { s with heap:=s.heap.push { cls:=.type "range",data:=.fields #[.int lo t,.int hi u,.int 1 v] },toks:=tk }:=I.kept fun b o e=>bP _ e;refine⟨(s.heap.push { cls:=.type "range",data:=.fields #[.int lo t,.int hi u,.int 1 v] }).objs.size,[(s.heap.push { cls:=.type "range",data:=.fields #[.int lo t,.int hi u,.int 1 v] }).objs.size],_,_,H,rfl,
  I1.kept (t':=tk) fun b o e=>bP _ e,Cn _ lo (hi-lo).toNat,?_,fun b hb=>?_,q⟩
 .have e1:lo+((0:Nat):Int)*1=lo:=by simp
  have e2:(((hi-lo).toNat:Nat):Int)-((0:Nat):Int)=Builtin.Range.rangeSize lo hi 1:=by rw[rangeSize_one];split <;> lia
  show IsRangeIter _ _ (lo+((0:Nat):Int)*1) ((((hi-lo).toNat:Nat):Int)-((0:Nat):Int)) 1;rw[e1,e2];exact cX _ rfl
 .have e:b=(s.heap.push { cls:=.type "range",data:=.fields #[.int lo t,.int hi u,.int 1 v] }).objs.size:=by simpa using hb
  subst e;exact I1.zI (aP _) (I1.cY.fresh (aP _))
def U6(ta:TA):TI:=fun σ H R=>ta σ H fun vs H1=>∃j:Int,vs=[.int j]/\-(2 ^ 62)<=j/\j<2 ^ 62/\R (HV 0 j.toNat) H1
def U7(ta:TA):TI:=fun σ H R=>ta σ H fun vs H1=>∃i j:Int,vs=[.int i,.int j]/\(-(2 ^ 62)<=i/\i<2 ^ 62/\-(2 ^ 62)<=j/\j<2 ^ 62)/\R (HV i (j-i).toNat) H1
theorem b9{a:Expr}{ta:TA}{p pos:Pos}(hg:Gl X "range")(hm:X.mg "range"=none)(ha:PA X [a] ta)(hs:starEach [a] X.env=[(false,eval a X.env)]:=by rfl):PI X tg (.Call (.Name "range" p) [a] [] pos) (U6 ta):=by
 intro af s σ H R I h;refine Call_ (jP I hg hm boot_range (qf (eD (ha pos af s σ H _ I h) fun us s1 ⟨vs,H1,I1,r1,q1⟩=>?_) hs rfl));obtain⟨j,e,q1,q2,q⟩:=q1;subst e;cases r1 with
 |cons r rr=>
  cases rr;obtain⟨t,rfl⟩:=r;exact call_range_1 (zK I1 (by lia) (by lia) q1 q2 (by simpa using q))
theorem qR(hg:Gl X "range")(hm:X.mg "range"=none)(ha:PA X [a,b] ta)(hs:starEach [a,b] X.env=[(false,eval a X.env),(false,eval b X.env)]:=by rfl)(oP:starEach [b] X.env=[(false,eval b X.env)]:=by rfl):
  PI X tg (.Call (.Name "range" p) [a,b] [] pos) (U7 ta):=by
 intro af s σ H R I h;refine Call_ (jP I hg hm boot_range (qf (eD (ha pos af s σ H _ I h) fun us s1 ⟨vs,H1,I1,r1,q1⟩=>?_) (by rw[hs,oP]) (by rw[oP];rfl)));obtain⟨i,j,e,⟨q1,q2,q3,q4⟩,q⟩:=q1;subst e;cases r1 with
 |cons r rr=>
  cases rr with
  |cons r' rr=>
   cases rr;obtain⟨t,rfl⟩:=r;obtain⟨t',rfl⟩:=r';exact call_range_2 (zK I1 q1 q2 q3 q4 q)
def Zy(wi:TI)(g:TG)(tb:TS):TS:=fun D σ H=>wi σ H fun J H1=>∃W:Nat->Nat->St->Hp->Prop,(∃m,W 0 m σ H1)/\∀i m σ H,W i m σ H->
 (J.stop i H/\D.nx σ H)\/(J.go i H/\∃N:St->Hp->Prop,(∀σ' H',N σ' H'->∃m',m'<m/\W (i+1) m' σ' H')/\∀x H',J.Uc i H x H'->g x σ H' fun σ2 H2=>tb { D with nx:=N,ct:=N,bk:=D.nx } σ2 H2)
def uO(fp:bR)(h:Heap):List (Addr×Obj):=fp.filterMap fun b=>(h.get? b).map fun o=>(b,o)
theorem k4(hb:b∈fp)(e:h.get? b=some o):(b,o)∈uO fp h:=qv.mpr ⟨b,hb,by rw[e];rfl⟩
theorem F5(hp:p∈uO fp h):p.1∈fp/\h.get? p.1=some p.2:=by
 obtain⟨b,hb,e⟩:=qv.mp hp;cases q:h.get? b with
 |none=>rw[q] at e;cases e
 |some o=>
  rw[q] at e;have e':(b,o)=p:=cB e;subst e';exact⟨hb,q⟩
theorem aU.pinned(I:aU X af σ H s)(hf:∀b∈fp,hZ X af H b)(ho:∀b∈fp,∃o,s.heap.get? b=some o/\∀v,o.data≠.cell v):aU X (af++uO fp s.heap) σ H s:=
 I.pb fun p hp=>(cL.mp hp).elim (fun z=>I.pin p (e_ _ z)) fun z=>by
  obtain⟨hb,e⟩:=F5 z;obtain⟨f0,f1,f2,_⟩:=hf p.1 hb;obtain⟨o,e',d⟩:=ho p.1 hb;rw[e] at e';cases e';exact⟨e,f0,f1,f2,d⟩
theorem aU.pc(I:aU X (af++pl) σ H s):aU X af σ H s:=I.pb fun p hp=>I.pin p (e_ _ (gC _ hp))
theorem du(hp:PassesOwn (model X.prog X.w) X.A X.env X.xe)(hc:X.calm=true)(hi:PI X tg lB wi)(hg:PG X tg g)(hb:Ch X body tb)(hs:∀x,foldedSetIterable lB X.env x=pure x:=by intro _;rfl):PS X (.For tg lB body [] pos) (Zy wi g tb):=by
 intro af s σ H D I h;refine wpAny_For (eD (hi af s σ H _ I h) fun v s1 h1=>eD h1 fun Yr s2 h2=>?_) hs;obtain⟨it,fp,tn,J,H2,e,I2,T,lC,f2,W,⟨m0,w0⟩,IS⟩:=h2;subst e;have Cp:∀ {H':Hp},(∀b∈fp,H' b=none)->∀b∈fp,hZ X af H' b:=fun hn b hb=>⟨hn b hb,(f2 b hb).2⟩
 refine codeAny_forLoop_any (fun n s'=>∃i σ' H',aU X af σ' H' s'/\tn i s'.heap/\(∀b∈fp,H' b=none)/\W i n σ' H') ?_ m0 ⟨0,σ,H2,I2,lC,fun b hb=>(f2 b hb).1,w0⟩;rintro n s3 ⟨i,σ3,H3,I3,jp,LP,w3⟩;rcases IS i n σ3 H3 w3 with ⟨stop,qn⟩|⟨go,N,hN,step⟩
 .refine nZ hp (eD (T.done X rfl rfl rfl hc i af s3 σ3 H3 X.xe I3 (Cp LP) jp stop) fun r s4 ⟨hr,I4⟩=>?_);subst hr;exact xE ⟨σ3,H3,I4,qn⟩
 .refine nZ hp (eD (T.item X rfl rfl rfl hc i af s3 σ3 H3 X.xe I3 (Cp LP) jp go) fun r s4 ⟨u,hr,h4⟩=>?_);subst hr;refine nZ hp (eD h4 fun _ s5 ⟨x,H5,I5,r5,y5,zi,Qr⟩=>?_);have Zz:=I5.pinned (Cp Qr) (T.obj _ _ zi);refine nZ hp (eD (hg _ s5 σ3 H5 x u _ Zz r5 (step x H5 y5)) fun _ s6 ⟨σ6,H6,I6,q6⟩=>?_);refine nZ hp (eD (hb _ s6 σ6 H6 _ I6 q6) fun f s7 q7=>?_);have again:∀ {σ7:St} {H7:Hp},aU X (af++uO fp s5.heap) σ7 H7 s7->N σ7 H7->∃m,m<n/\∃i σ' H',aU X af σ' H' s7/\tn i s7.heap/\(∀b∈fp,H' b=none)/\W i m σ' H':=fun {σ7 H7} I7 n7=>by
   obtain⟨m',hm,w7⟩:=hN σ7 H7 n7;refine⟨m',hm,i+1,σ7,H7,I7.pc,T.keep _ _ _ zi fun b hb o e=>(I7.pin (b,o) (e_ _ (e_ _ (k4 hb e)))).1,fun b hb=>?_,w7⟩;obtain⟨o,e,d⟩:=T.obj _ _ zi b hb;exact(I7.pin (b,o) (e_ _ (e_ _ (k4 hb e)))).2.1
  cases f with
  |next=>obtain⟨σ7,H7,I7,n7⟩:=q7;exact again I7 n7
  |cont=>obtain⟨σ7,H7,I7,n7⟩:=q7;exact again I7 n7
  |brk=>obtain⟨σ7,H7,I7,q7⟩:=q7;exact⟨σ7,H7,I7.pc,q7⟩
  |ret v=>obtain⟨x7,σ7,H7,I7,r7,q7⟩:=q7;exact⟨x7,σ7,H7,I7.pc,r7,q7⟩
end
theorem eM{K:a_}{a:Addr}{xs:bg}{g:TG}{tb:TS}{D:Cg}{σ:St}{H:Hp}(Pv:IN)(h0:Pv 0 σ H)(hl:∀i σ H,i<=xs.length->Pv i σ H->a8 K H a xs)(hs:∀i x σ H,xs[i]?=some x->Pv i σ H->g x σ H fun σ2 H2=>tb { D with nx:=Pv (i+1),ct:=Pv (i+1),bk:=D.nx } σ2 H2)(hd:∀σ H,Pv xs.length σ H->D.nx σ H):
  ∃W:Nat->Nat->St->Hp->Prop,(∃m,W 0 m σ H)/\∀i m σ H,W i m σ H->
   ((IU K a).stop i H/\D.nx σ H)\/((IU K a).go i H/\∃N:St->Hp->Prop,(∀σ' H',N σ' H'->∃m',m'<m/\W (i+1) m' σ' H')/\∀x H',(IU K a).Uc i H x H'->g x σ H' fun σ2 H2=>tb { D with nx:=N,ct:=N,bk:=D.nx } σ2 H2):=by
 refine⟨fun i m σ H=>m=xs.length-i/\i<=xs.length/\Pv i σ H,⟨xs.length,by simp,cp _,h0⟩,?_⟩;rintro i m σ H ⟨rfl,hi,p⟩;have q:=hl i σ H hi p;by_cases eX:i<xs.length
 .refine .inr ⟨⟨xs,xs[i],q,by simp[eX]⟩,Pv (i+1),fun σ' H' p'=>⟨xs.length-(i+1),by lia,rfl,eX,p'⟩,fun x H' y=>?_⟩;obtain⟨e,y⟩:=y;subst e;exact hs i x σ _ (y xs q) p
 .have e:i=xs.length:=by lia
  subst e;exact .inl ⟨⟨xs,q,aP _⟩,hd σ H p⟩
theorem eh{lo:Int}{n:Nat}{g:TG}{tb:TS}{D:Cg}{σ:St}{H:Hp}(Pv:IN)(h0:Pv 0 σ H)(hs:∀i σ H,i<n->Pv i σ H->g (.int (lo+i)) σ H fun σ2 H2=>tb { D with nx:=Pv (i+1),ct:=Pv (i+1),bk:=D.nx } σ2 H2)(hd:∀σ H,Pv n σ H->D.nx σ H):
  ∃W:Nat->Nat->St->Hp->Prop,(∃m,W 0 m σ H)/\∀i m σ H,W i m σ H->
   ((HV lo n).stop i H/\D.nx σ H)\/((HV lo n).go i H/\∃N:St->Hp->Prop,(∀σ' H',N σ' H'->∃m',m'<m/\W (i+1) m' σ' H')/\∀x H',(HV lo n).Uc i H x H'->g x σ H' fun σ2 H2=>tb { D with nx:=N,ct:=N,bk:=D.nx } σ2 H2):=by
 refine⟨fun i m σ H=>m=n-i/\i<=n/\Pv i σ H,⟨n,by simp,cp _,h0⟩,?_⟩;rintro i m σ H ⟨rfl,hi,p⟩;by_cases eX:i<n
 .refine .inr ⟨eX,Pv (i+1),fun σ' H' p'=>⟨n-(i+1),by lia,rfl,eX,p'⟩,fun x H' y=>?_⟩;obtain⟨e,y⟩:=y;subst e y;exact hs i σ _ eX p
 .have e:i=n:=by lia
  subst e;exact .inl ⟨aP _,hd σ H p⟩
theorem zL(Pv:ir)(μ:St->Hp->Nat)(h0:Pv σ H)(hs:∀σ H,Pv σ H->c σ H fun b H1=>if b=true then tb { D with nx:=fun σ' H'=>Pv σ' H'/\μ σ' H'<μ σ H,ct:=fun σ' H'=>Pv σ' H'/\μ σ' H'<μ σ H,bk:=D.nx } σ H1 else D.nx σ H1)(mono:∀σ H Q Q',(∀b H1,Q b H1->Q' b H1)->c σ H Q->c σ H Q'):IR c tb D σ H:=by
 refine⟨fun m σ H=>m=μ σ H/\Pv σ H,⟨_,rfl,h0⟩,?_⟩;rintro m σ H ⟨rfl,p⟩;refine mono σ H _ _ (fun b H1 q=>?_) (hs σ H p);cases b with
 |true=>exact⟨_,fun σ' H' ⟨p',l⟩=>⟨_,l,rfl,p'⟩,q⟩
 |false=>exact q
abbrev R2:=V->V->Hp->VK->Prop
def nh(X:Cx)(f:Value->Value->Sem Value)(r:R2):Prop:=
 ∀ (af:cE) (s:aR) (σ:St) (H:Hp) (x y:V) (v u:Value) (Q:VK),aU X af σ H s->bW x v->bW y u->r x y H Q->
  wpAny (model X.prog X.w) X.A (f v u) (EP X af σ Q) X.xe s
def ZA(X:Cx)(f:Value->Sem Value)(r:V->Hp->VK->Prop):Prop:=
 ∀ (af:cE) (s:aR) (σ:St) (H:Hp) (x:V) (v:Value) (Q:VK),aU X af σ H s->bW x v->r x H Q->
  wpAny (model X.prog X.w) X.A (f v) (EP X af σ Q) X.xe s
def gf(X:Cx)(f:Value)(r:List V->Hp->VK->Prop):Prop:=
 ∀ (af:cE) (s:aR) (σ:St) (H:Hp) (xs:bg) (us:bw) (Q:VK),aU X af σ H s->ba xs us->r xs H Q->
  wpAny (model X.prog X.w) X.A (call f us) (EP X af σ Q) X.xe s
def jR(r:R2)(ta tb:TE):TE:=fun σ H Q=>ta σ H fun x H1=>tb σ H1 fun y H2=>r x y H2 Q
def tUn(r:V->Hp->VK->Prop)(ta:TE):TE:=fun σ H Q=>ta σ H fun x H1=>r x H1 Q
def rI(C:Int->Int->Prop)(g:Int->Int->V):R2:=fun x y H Q=>∃i j,x=.int i/\y=.int j/\C i j/\Q (g i j) H
def zM(g:Int->Int->V):R2:=fun x y H Q=>∃i j,x=.int i/\y=.int j/\Q (g i j) H
def rU(g:Int->V):V->Hp->VK->Prop:=fun x H Q=>∃i,x=.int i/\Q (g i) H
section
variable {X:Cx} {a b c:Expr} {ta tb tc:TE} {pos:Pos}
theorem Qs(ha:PE X a ta)(hb:PE X b tb){af:cE}{s:aR}{σ:St}{H:Hp}{R:V->V->Hp->Prop}(I:aU X af σ H s)(h:ta σ H fun x H1=>tb σ H1 fun y H2=>R x y H2){Q:bV}{f:Value->Value->Sem Value}(hf:∀v u s2 x y H2,aU X af σ H2 s2->bW x v->bW y u->R x y H2->wpAny (model X.prog X.w) X.A (f v u) Q X.xe s2):
  wpAny (model X.prog X.w) X.A (eval a X.env) (fun v s₁=>wpAny (model X.prog X.w) X.A (eval b X.env) (fun u s₂=>wpAny (model X.prog X.w) X.A (f v u) Q X.xe s₂) X.xe s₁) X.xe s:=by
 refine eD (ha af s σ H _ I h) fun v s1 ⟨x,H1,I1,r1,q1⟩=>?_;refine eD (hb af s1 σ H1 _ I1 q1) fun u s2 ⟨y,H2,I2,r2,q2⟩=>?_;exact hf v u s2 x y H2 I2 r1 r2 q2
theorem a9{op:Operator}{r:R2}(ho:nh X (binaryOp op) r)(ha:PE X a ta)(hb:PE X b tb):PE X (.BinOp a op b pos) (jR r ta tb):=by
 intro af s σ H Q I h;exact wpAny_BinOp (Qs ha hb I h fun v u s2 x y H2 I2 rx ry q=>ho af s2 σ H2 x y v u Q I2 rx ry q)
theorem zN(ho:ZA X (unaryOp op) r)(ha:PE X a ta):PE X (.UnaryOp op a pos) (tUn r ta):=by
 intro af s σ H Q I h;exact UnaryOp_ (eD (ha af s σ H _ I h) fun v s1 ⟨x,H1,I1,r1,q1⟩=>ho af s1 σ H1 x v Q I1 r1 q1)
theorem U8{f:Value->Value->Sem Value}{C:Int->Int->Prop}{g:Int->Int->Int}(rule:∀ (i j:Int) (t u:Tok) (s:aR) (Q:bV) (E:bV),C i j->Q (.int (g i j) s.toks) { s with toks:=s.toks+1 }->wpAny (model X.prog X.w) X.A (f (.int i t) (.int j u)) Q E s):
  nh X f (rI C fun i j=>.int (g i j)):=by
 intro af s σ H x y v u Q I rx ry h;obtain⟨i,j,rfl,rfl,hc,q⟩:=h;obtain⟨t,rfl⟩:=rx;obtain⟨t',rfl⟩:=ry;exact rule i j t t' s _ _ hc ⟨.int (g i j),H,I.tok _,⟨_,rfl⟩,q⟩
theorem U9{f:Value->Value->Sem Value}{g:Int->Int->Int}(rule:∀ (i j:Int) (t u:Tok) (s:aR) (Q:bV) (E:bV),Q (.int (g i j) s.toks) { s with toks:=s.toks+1 }->wpAny (model X.prog X.w) X.A (f (.int i t) (.int j u)) Q E s):
  nh X f (zM fun i j=>.int (g i j)):=by
 intro af s σ H x y v u Q I rx ry h;obtain⟨i,j,rfl,rfl,q⟩:=h;obtain⟨t,rfl⟩:=rx;obtain⟨t',rfl⟩:=ry;exact rule i j t t' s _ _ ⟨.int (g i j),H,I.tok _,⟨_,rfl⟩,q⟩
theorem Mh{f:Value->Value->Sem Value}{g:Int->Int->Bool}(rule:∀ (i j:Int) (t u:Tok) (s:aR) (Q:bV) (E:bV),Q (.bool (g i j)) s->wpAny (model X.prog X.w) X.A (f (.int i t) (.int j u)) Q E s):
  nh X f (zM fun i j=>.bl (g i j)):=by
 intro af s σ H x y v u Q I rx ry h;obtain⟨i,j,rfl,rfl,q⟩:=h;obtain⟨t,rfl⟩:=rx;obtain⟨t',rfl⟩:=ry;exact rule i j t t' s _ _ ⟨.bl (g i j),H,I,rfl,q⟩
def U_(i j:Int):Prop:=0<j/\j<1073741824
def ZB(i j:Int):Prop:=0<=j/\j<=1000000/\i.natAbs<2 ^ 64
def Mi(i j:Int):Prop:=(-(2 ^ 64)<i/\i<2 ^ 64)\/(-(2 ^ 64)<j/\j<2 ^ 64)
theorem Mi.ok(h:Mi i j):IntMulOk i j:=by
 rcases h with ⟨h1,h2⟩|⟨h1,h2⟩
 .exact .of_left (intBits_le_64 h1 h2)
 .exact .of_right (intBits_le_64 h1 h2)
theorem dM:nh X (binaryOp .Add) (zM fun i j=>.int (i+j)):=U9 fun _ _ _ _ _ _ _ q=>add_int q
theorem k6:nh X (binaryOp .Sub) (zM fun i j=>.int (i-j)):=U9 fun _ _ _ _ _ _ _ q=>sub_int q
theorem l7:nh X (binaryOp .Mult) (rI Mi fun i j=>.int (i*j)):=U8 fun _ _ _ _ _ _ _ hc q=>mul_int q hc.ok
theorem tG:nh X (binaryOp .FloorDiv) (rI U_ fun i j=>.int (i / j)):=U8 fun i j _ _ _ _ _ hc q=>by
 have h1:(0:Int)<j:=hc.1;have h2:j<1073741824:=hc.2;exact floordiv_int (by lia) (by rw[Bt i (by lia)];exact q) (.inl (PyProof.noPylong_small (by lia)))
theorem jd:nh X (binaryOp .Mod) (rI (fun _ j=>0<j) fun i j=>.int (i % j)):=U8 fun i j _ _ _ _ _ hc q=>by
 have h1:(0:Int)<j:=hc;exact mod_int' (by lia) (by rw[Bs i (by lia)];exact q)
theorem Cq:nh X (binaryOp .Pow) (rI ZB fun i j=>.int (i ^ j.toNat)):=U8 fun _ _ _ _ _ _ _ hc q=>pow_int_small hc.1 hc.2.1 hc.2.2 q
theorem unI{f:Value->Sem Value}{g:Int->Int}(rule:∀ (i:Int) (t:Tok) (s:aR) (Q:bV) (E:bV),Q (.int (g i) s.toks) { s with toks:=s.toks+1 }->wpAny (model X.prog X.w) X.A (f (.int i t)) Q E s):
  ZA X f (rU fun i=>.int (g i)):=by
 intro af s σ H x v Q I rx h;obtain⟨i,rfl,q⟩:=h;obtain⟨t,rfl⟩:=rx;exact rule i t s _ _ ⟨.int (g i),H,I.tok _,⟨_,rfl⟩,q⟩
theorem uP:ZA X (unaryOp .USub) (rU fun i=>.int (-i)):=unI fun _ _ _ _ _ q=>neg_int q
end
def Mj:V->V->Bool
 |.cI,.cI=>true|.cI,.int _=>true|.int _,.cI=>true|.cI,.bl _=>true|.bl _,.cI=>true|.cI,.str _=>true|.str _,.cI=>true
 |.int _,.int _=>true|.bl _,.bl _=>true|.str _,.str _=>true|.HS _,.HS _=>true
 |.int _,.str _=>true|.str _,.int _=>true|.bl _,.str _=>true|.str _,.bl _=>true
 |_,_=>false
def ZC:R2:=fun x y H Q=>Mj x y=true/\Q (.bl (decide (x=y))) H
def rNe:R2:=fun x y H Q=>Mj x y=true/\Q (.bl (!decide (x=y))) H
theorem En:decide (V.int i=V.int j)=(i==j):=by
 rw[kP];simp
theorem IW:decide (V.bl i=V.bl j)=(i==j):=by
 rw[kP];simp
theorem Eo:decide (V.str i=V.str j)=(i==j):=by
 rw[kP];simp
theorem Ep:decide (V.HS i=V.HS j)=(i.toList==j.toList):=by
 rw[kP];cases i;cases j;simp
section
variable {X:Cx} {a b c:Expr} {ta tb tc:TE} {pos:Pos}
theorem cC(I:aU X af σ H s)(q:Q (.bl k) H)(e:k=k'):EP X af σ Q (.bool k') s:=by
 subst e;exact⟨.bl k,H,I,rfl,q⟩
theorem iQ:nh X (compareOp .Eq) ZC:=by
 intro af s σ H x y v u Q I rx ry h;obtain⟨hs,q⟩:=h;cases x with
 |cI=>
  cases rx;cases y with
  |cI=>cases ry;exact PySem.EqNone.eq_none_none (cC I q (by simp))
  |bl j=>cases ry;exact PySem.EqNone.eq_none_bool (cC I q (by simp))
  |int j=>obtain⟨t',rfl⟩:=ry;exact PySem.EqNone.eq_none_int (cC I q (by simp))
  |str j=>obtain⟨t',rfl⟩:=ry;exact PySem.EqNone.eq_none_str (cC I q (by simp))
  |_=>exact absurd (show false=true from hs) di
 |bl i=>
  cases rx;cases y with
  |cI=>cases ry;exact PySem.EqNone.eq_bool_none (cC I q (by simp))
  |bl j=>cases ry;exact eq_bool (cC I q IW)
  |str j=>obtain⟨t',rfl⟩:=ry;exact PySem.EqMixed.eq_bool_str (cC I q (by simp))
  |_=>exact absurd (show false=true from hs) di
 |int i=>
  obtain⟨t,rfl⟩:=rx;cases y with
  |cI=>cases ry;exact PySem.EqNone.eq_int_none (cC I q (by simp))
  |int j=>obtain⟨t',rfl⟩:=ry;exact eq_int (cC I q En)
  |str j=>obtain⟨t',rfl⟩:=ry;exact PySem.EqMixed.eq_int_str (cC I q (by simp))
  |_=>exact absurd (show false=true from hs) di
 |str i=>
  obtain⟨t,rfl⟩:=rx;cases y with
  |cI=>cases ry;exact PySem.EqNone.eq_str_none (cC I q (by simp))
  |bl j=>cases ry;exact PySem.EqMixed.eq_str_bool (cC I q (by simp))
  |int j=>obtain⟨t',rfl⟩:=ry;exact PySem.EqMixed.eq_str_int (cC I q (by simp))
  |str j=>obtain⟨t',rfl⟩:=ry;exact eq_str (cC I q Eo)
  |_=>exact absurd (show false=true from hs) di
 |HS i=>
  obtain⟨t,rfl⟩:=rx;cases y with
  |HS j=>obtain⟨t',rfl⟩:=ry;exact W.eq_bytes (cC I q Ep)
  |_=>exact absurd (show false=true from hs) di
 |_=>cases y <;> exact absurd (show false=true from hs) di
theorem zO:nh X (compareOp .NotEq) rNe:=by
 intro af s σ H x y v u Q I rx ry h;obtain⟨hs,q⟩:=h;cases x with
 |cI=>
  cases rx;cases y with
  |cI=>cases ry;exact PySem.EqNone.ne_none_none (cC I q (by simp))
  |bl j=>cases ry;exact PySem.EqNone.ne_none_bool (cC I q (by simp))
  |int j=>obtain⟨t',rfl⟩:=ry;exact PySem.EqNone.ne_none_int (cC I q (by simp))
  |str j=>obtain⟨t',rfl⟩:=ry;exact PySem.EqNone.ne_none_str (cC I q (by simp))
  |_=>exact absurd (show false=true from hs) di
 |bl i=>
  cases rx;cases y with
  |cI=>cases ry;exact PySem.EqNone.ne_bool_none (cC I q (by simp))
  |bl j=>cases ry;exact ne_bool (cC I q (congrArg not IW))
  |str j=>obtain⟨t',rfl⟩:=ry;exact PySem.EqMixed.ne_bool_str (cC I q (by simp))
  |_=>exact absurd (show false=true from hs) di
 |int i=>
  obtain⟨t,rfl⟩:=rx;cases y with
  |cI=>cases ry;exact PySem.EqNone.ne_int_none (cC I q (by simp))
  |int j=>obtain⟨t',rfl⟩:=ry;exact ne_int (cC I q (congrArg not En))
  |str j=>obtain⟨t',rfl⟩:=ry;exact PySem.EqMixed.ne_int_str (cC I q (by simp))
  |_=>exact absurd (show false=true from hs) di
 |str i=>
  obtain⟨t,rfl⟩:=rx;cases y with
  |cI=>cases ry;exact PySem.EqNone.ne_str_none (cC I q (by simp))
  |bl j=>cases ry;exact PySem.EqMixed.ne_str_bool (cC I q (by simp))
  |int j=>obtain⟨t',rfl⟩:=ry;exact PySem.EqMixed.ne_str_int (cC I q (by simp))
  |str j=>obtain⟨t',rfl⟩:=ry;exact ne_str (cC I q (congrArg not Eo))
  |_=>exact absurd (show false=true from hs) di
 |HS i=>
  obtain⟨t,rfl⟩:=rx;cases y with
  |HS j=>obtain⟨t',rfl⟩:=ry;exact W.ne_bytes (cC I q (congrArg not Ep))
  |_=>exact absurd (show false=true from hs) di
 |_=>cases y <;> exact absurd (show false=true from hs) di
theorem ni:nh X (compareOp .Lt) (zM fun i j=>.bl (decide (i<j))):=Mh fun _ _ _ _ _ _ _ q=>lt_int q
theorem O4:nh X (compareOp .LtE) (zM fun i j=>.bl (decide (i<=j))):=Mh fun _ _ _ _ _ _ _ q=>le_int q
theorem O5:nh X (compareOp .Gt) (zM fun i j=>.bl (decide (j<i))):=Mh fun _ _ _ _ _ _ _ q=>gt_int q
theorem O6:nh X (compareOp .GtE) (zM fun i j=>.bl (decide (j<=i))):=Mh fun _ _ _ _ _ _ _ q=>ge_int q
theorem Cr:nh X (compareOp .Is) (fun x y H Q=>y=.cI/\Q (.bl (decide (x=.cI))) H):=by
 intro af s σ H x y v u Q I rx ry h;obtain⟨rfl,q⟩:=h;cases ry;refine is_none_gen (cC I q ?_);cases x <;> first
  |(cases rx;rfl)
  |(obtain⟨t,rfl⟩:=rx;rfl)
theorem Er:nh X (compareOp .IsNot) (fun x y H Q=>y=.cI/\Q (.bl (!decide (x=.cI))) H):=by
 intro af s σ H x y v u Q I rx ry h;obtain⟨rfl,q⟩:=h;cases ry;refine isnot_none_gen (cC I q ?_);cases x <;> first
  |(cases rx;rfl)
  |(obtain⟨t,rfl⟩:=rx;rfl)
theorem bp(b:Expr)(h:op≠.In:=by decide)(h2:op≠.NotIn:=by decide):behindInMarks op b=false:=by
 have e1:(op==CmpOp.In)=false:=by cases op <;> first|rfl|exact absurd rfl h
 have e2:(op==CmpOp.NotIn)=false:=by cases op <;> first|rfl|exact absurd rfl h2
 cases b <;> simp[behindInMarks,e1,e2]
theorem pe(ho:nh X (compareOp op) r)(ha:PE X a ta)(hb:PE X b tb)(hm:behindInMarks op b=false):PE X (.Compare a [op] [b] pos) (jR r ta tb):=by
 intro af s σ H Q I h;exact wpAny_Compare1 (Qs ha hb I h fun v u s2 x y H2 I2 rx ry q=>ho af s2 σ H2 x y v u Q I2 rx ry q) hm
def pf(t:TE):TT:=fun σ H Q=>t σ H fun x H'=>∃k,x=.bl k/\Q k H'
theorem aY(ho:nh X (compareOp op) r)(ha:PE X a ta)(hb:PE X b tb)(hm:behindInMarks op b=false):PT X (.Compare a [op] [b] pos) (pf (jR r ta tb)):=by
 intro af s σ H Q I h;refine wpAny_isTrue_Compare1 (eD (ha af s σ H _ I h) fun v s1 ⟨x,H1,I1,r1,q1⟩=>eD (hb af s1 σ H1 _ I1 q1) fun u s2 ⟨y,H2,I2,r2,q2⟩=>
  eD (ho af s2 σ H2 x y v u _ I2 r1 r2 q2) fun c s3 ⟨z,H3,I3,r3,k,e,q3⟩=>?_) hm
 subst e;cases r3;exact qB ⟨H3,I3,q3⟩
def Qt(r r':R2)(ta tb tc:TE):TE:=fun σ H Q=>ta σ H fun x H1=>tb σ H1 fun y H2=>r x y H2 fun z H3=>∃k,z=.bl k/\
 (if k=true then tc σ H3 fun w' H4=>r' y w' H4 Q else Q (.bl false) H3)
theorem IX(ho:nh X (compareOp op) r)(Mf:nh X (compareOp Va) r')(ha:PE X a ta)(hb:PE X b tb)(hc:PE X c tc)(hm:lastMarks [op,Va] [b,c]=false:=by with_unfolding_all rfl):PE X (.Compare a [op,Va] [b,c] pos) (Qt r r' ta tb tc):=by
 intro af s σ H Q I h;refine Compare_chain (eD (ha af s σ H _ I h) fun v s1 ⟨x,H1,I1,r1,q1⟩=>chain_link (eD (hb af s1 σ H1 _ I1 q1) fun u s2 ⟨y,H2,I2,r2,q2⟩=>
  eD (ho af s2 σ H2 x y v u _ I2 r1 r2 q2) fun d s3 ⟨z,H3,I3,r3,k,e,q3⟩=>?_)) hm
 subst e;cases r3;refine qB ?_;cases k with
 |false=>exact ite_ff ⟨.bl false,H3,I3,rfl,q3⟩
 |true=>exact ite_tt (chain_last (eD (hc af s3 σ H3 _ I3 q3) fun w' s4 ⟨z',H4,I4,r4,q4⟩=>Mf af s4 σ H4 y z' u w' Q I4 r2 r4 q4))
theorem xQ:(sizeLine:Nat)<2 ^ 63:=by rw[ge];decide
theorem Es(r:ba [x] us):∃u,us=[u]/\bW x u:=by
 cases r with
 |cons r1 r2=>cases r2;exact⟨_,rfl,r1⟩
theorem IY(r:ba [x,y] us):∃u w',us=[u,w']/\bW x u/\bW y w':=by
 cases r with
 |cons r1 r2=>
  cases r2 with
  |cons r3 r4=>cases r4;exact⟨_,_,rfl,r1,r3⟩
theorem zP:gf X (.builtin "abs") (fun xs H Q=>∃i,xs=[.int i]/\Q (.int (if i<0 then -i else i)) H):=by
 intro af s σ H xs us Q I r h;obtain⟨i,rfl,q⟩:=h;obtain⟨u,rfl,t,rfl⟩:=Es r;exact call_abs_int fun u tk=>⟨.int (if i<0 then -i else i),H,I.tok _,⟨_,rfl⟩,q⟩
theorem wu(hc:X.calm=true):gf X (.builtin "max") (fun xs H Q=>∃i j,xs=[.int i,.int j]/\Q (.int (if j > i then j else i)) H):=by
 intro af s σ H xs us Q I r h;obtain⟨i,j,rfl,q⟩:=h;obtain⟨u,w',rfl,⟨t,rfl⟩,⟨t',rfl⟩⟩:=IY r;refine max_two_ints (I.ok.hd hc) fun h' tk k=>⟨_,H,I.kept k,?_,q⟩
 by_cases hj:j > i
 .rw[ap hj,ap hj];exact⟨_,rfl⟩
 .rw[ao hj,ao hj];exact⟨_,rfl⟩
theorem qS(hc:X.calm=true):gf X (.builtin "min") (fun xs H Q=>∃i j,xs=[.int i,.int j]/\Q (.int (if j<i then j else i)) H):=by
 intro af s σ H xs us Q I r h;obtain⟨i,j,rfl,q⟩:=h;obtain⟨u,w',rfl,⟨t,rfl⟩,⟨t',rfl⟩⟩:=IY r;refine min_two_ints (I.ok.hd hc) fun h' tk k=>⟨_,H,I.kept k,?_,q⟩
 by_cases hj:j<i
 .rw[ap hj,ap hj];exact⟨_,rfl⟩
 .rw[ao hj,ao hj];exact⟨_,rfl⟩
end
structure Cs(h:Heap)(x dx C:Addr)(mA:cr):Prop where
 obj:h.get? x=some (W.instObj C dx)
 ns:h.Ns1 dx mA
 ne:dx≠x
theorem F7{h:Heap}{dx:Addr}{mA:cr}(n:h.Ns1 dx mA):∃od,h.get? dx=some od/\∀name,W.lookIn name od=some (mA name):=by
 obtain⟨o,es,ep,ho,hd,hk,_,hm⟩:=n;refine⟨o,ho,fun name=>?_⟩;have e:=hm name;unfold nsFind findBy at e;rw[<-Array.find?_toList] at e;unfold W.lookIn;rw[hd];dsimp only;split
 .rename_i y q;rw[q] at e;exact congrArg some e
 .rename_i q;rw[q] at e;have a:es.toList.any (·.refKey)=false:=by
   rw[ur];intro y hy;obtain⟨z,t,vP⟩:=hk y (Array.mem_toList_iff.mp hy);simp[DictEntry.refKey,vP]
  have a':¬ es.toList.any (·.refKey)=true:=by rw[a];exact di
  rw[ao a'];exact congrArg some e
theorem Cs.look(I:Cs h x dx C mA):∃od,W.InstAt h x (W.instObj C dx) C (some od)/\∀name,W.lookIn name od=some (mA name):=
 let ⟨od,ho,hl⟩:=F7 I.ns
 ⟨od,⟨I.obj,rfl,rfl,ho⟩,hl⟩
section
variable {prog:bL} {w:World} {A:br} {E:bV} {s:aR} {K:a_} {x dx C f:Addr} {mA:cr} {name:Str} {v:Value}
theorem Ml(X:K.In s.heap)(I:Cs s.heap x dx C mA)(hg:W.plainGet K C name=true)(hh:W.hasDictIn K C=true)(ha:W.findIn K (.ref C) name=some none)(hv:mA name=some v)(F8:W.handedIn v=true)(h:Q v { s with toks:=s.toks+1 }):
  wpAny (model prog w) A (getAttr (.ref x) name Mm) Q E s:=by
 obtain⟨od,J,hl⟩:=I.look;exact W.get_value X J (W.plainGet_of hg).1 (W.findObj_own hh ha rfl (by rw[hl,hv])) F8 h
theorem IZ(X:K.In s.heap)(I:Cs s.heap x dx C mA)(hg:W.plainGet K C name=true)(hf:W.findIn K (.ref C) name=some (some (.ref f)))(ht:W.isFn K (.ref f)=true)(hv:mA name=none)(h:Q (.ref f,[.ref x]) s):
  wpAny (model prog w) A (getMethod (.ref x) name pl) Q E s:=by
 obtain⟨od,J,hl⟩:=I.look;exact W.method_fn X J (W.plainGet_of hg).1 (W.plainGet_of hg).2 hf (gg.mp ht) (by show (W.lookIn name od).map (·.isSome)=some false;rw[hl,hv];rfl) h
theorem Mn(X:K.In s.heap)(I:Cs s.heap x dx C mA)(hs:W.findIn K (.ref C) "__setattr__"=some (some (.builtin "object.__setattr__")))(hp:W.plainOver K C=true)(ht:W.takerIn K C name=some none)(hh:W.hasDictIn K C=true)(hw:PySem.Within mA ns)(iC:ns.length<=sizeLine)(h:∀h',Cs h' x dx C (fun y=>if y=name then some v else mA y)->Heap.SameBut dx s.heap h'->Q () { s with heap:=h',toks:=s.toks+2 }):
  wpAny (model prog w) A (setAttr (.ref x) name v) Q E s:=by
 obtain⟨od,J,hl⟩:=I.look;refine W.set_plain X J hs (W.osa_open (s:={ s with toks:=s.toks+1 }) (r:=none) X J hp ht fun b=>?_);obtain⟨cd,hc,Mg⟩:=W.any_some hh;have hx:s.heap.get? x=some ⟨.ref C,some dx,.plain,#[]⟩:=I.obj;refine au (wpAny_pure (au (au (wpAny_loadPart hx (au (W.Looks.here (s:={ s with toks:=s.toks+1 }) (W.looks_clsIn X hc) ?_))))));rw[Mg];refine wpAny_pure (a:=some dx) (au (wpAny_pure (au ?_)));refine wpAny_nsSet1 (s:={ s with toks:=s.toks+1 }) I.ns fun h' Ud oP=>?_;obtain⟨oD,esD,epD,hoD,Vb,Mo⟩:=Ud.count (PySem.Within.cons name v hw);refine au (wpAny_lookBehind hoD (by rw[Vb];exact pastItsLine_dict (aZ Mo (by rw[fj];lia))) ?_);exact wpAny_pure (h _ ⟨(oP.2 _ (dI I.ne)).trans I.obj,Ud,I.ne⟩ oP)
theorem I0(X:K.In s.heap)(hm:W.makesIn K C=true)(hi:W.findIn K (.ref C) "__init__"=some (some (.ref f)))(hf:W.typeIn K (.ref f)=some (.type "function"))(h:codeAny (model prog w) (A.under (.builtin "type.__call__" ⟨.ref C::vs,kw⟩)) (.call (.ref f) ⟨.ref (s.heap.objs.size+1)::vs,kw⟩) (W.InitBack (s.heap.objs.size+1) R)
   { s with heap:=(s.heap.push W.emptyDict).push (W.instObj C s.heap.objs.size) }):
  codeAny (model prog w) A (.call (.ref C) ⟨vs,kw⟩) R s:=by
 obtain⟨hh,g,d,t,os⟩:=s;exact W.make_core (W.makes_of X hm) (W.looks_findIn X hi) (fun self=>W.bind_fn X self hf) (.inl rfl) h
theorem F9(X:K.In s.heap)(hm:W.makesIn K C=true)(hi:W.findIn K (.ref C) "__init__"=some (some (.builtin "object.__init__")))(hb:∀self,W.Looks (model prog w) s.heap (bindSpecial (.builtin "object.__init__") self) (.builtin "object.__init__",[self]))(h:codeAny (model prog w) (A.under (.builtin "type.__call__" ⟨[.ref C],[]⟩)) (.call (.builtin "object.__init__") ⟨[.ref (s.heap.objs.size+1)],[]⟩) (W.InitBack (s.heap.objs.size+1) R)
   { s with heap:=(s.heap.push W.emptyDict).push (W.instObj C s.heap.objs.size) }):
  codeAny (model prog w) A (.call (.ref C) ⟨[],[]⟩) R s:=by
 obtain⟨hh,g,d,t,os⟩:=s;exact W.make_core (W.makes_of X hm) (W.looks_findIn X hi) hb (.inr ⟨rfl,rfl⟩) h
end
def eY(f:Str)(v:V):List (Str×V)->List (Str×V)
 |[]=>[(f,v)]
 |(g,x)::r=>if g=f then (g,v)::r else (g,x)::eY f v r
theorem bS(f g:Str)(v:V):∀fs:List (Str×V),(eY f v fs).lookup g=if g=f then some v else fs.lookup g
 |[]=>by
  show List.lookup g [(f,v)]=_;by_cases h:g=f
  .have hb:(g==f)=true:=gg.mpr h;simp only[List.lookup,hb,ap h]
  .have hb:(g==f)=false:=o0.mpr h;simp only[List.lookup,hb,ao h]
 |(k,x)::r=>by
  have ih:=bS f g v r;rw[show eY f v ((k,x)::r)=(if k=f then (k,v)::r else (k,x)::eY f v r) from rfl];by_cases hk:k=f
  .rw[ap hk];by_cases h:g=k
   .have hb:(g==k)=true:=gg.mpr h;simp only[List.lookup,hb,ap (h.trans hk)]
   .have hb:(g==k)=false:=o0.mpr h;simp only[List.lookup,hb,ao (fun e:g=f=>h (e.trans hk.symm))]
  .rw[ao hk];by_cases h:g=k
   .have hb:(g==k)=true:=gg.mpr h;simp only[List.lookup,hb,ao (fun e:g=f=>hk (h.symm.trans e))]
   .have hb:(g==k)=false:=o0.mpr h;simp only[List.lookup,hb];exact ih
theorem qT(f:Str)(v:V):∀fs:List (Str×V),f∈(eY f v fs).map (·.1)/\∀g,g∈fs.map (·.1)->g∈(eY f v fs).map (·.1)
 |[]=>⟨by simp[eY],fun g h=>by simp at h⟩
 |(k,x)::r=>by
  obtain⟨i1,i2⟩:=qT f v r;rw[show eY f v ((k,x)::r)=(if k=f then (k,v)::r else (k,x)::eY f v r) from rfl];by_cases hk:k=f
  .rw[ap hk];subst hk;exact⟨by simp,fun g h=>by simpa using h⟩
  .rw[ao hk];refine⟨?_,fun g h=>?_⟩
   .rw[gJ];exact dq _ i1
   .rw[gJ] at h |-;rcases bq.mp h with e|e
    .exact bq.mpr (.inl e)
    .exact dq _ (i2 g e)
theorem fA(f:Str)(v:V):∀fs:List (Str×V),(eY f v fs).length<=fs.length+1
 |[]=>by simp[eY]
 |(k,x)::r=>by
  have ih:=fA f v r;rw[show eY f v ((k,x)::r)=(if k=f then (k,v)::r else (k,x)::eY f v r) from rfl];by_cases hk:k=f
  .rw[ap hk,fj,fj];lia
  .rw[ao hk,fj,fj];lia
theorem o4.some_of(r:o4 (some v) o):∃u,o=some u/\bW v u:=by
 cases o with
 |none=>exact(show False from r).elim
 |some u=>exact⟨u,rfl,r⟩
theorem o4.none_of(r:o4 none o):o=none:=by
 cases o with
 |none=>rfl
 |some u=>exact(show False from r).elim
theorem F_(r:bW v u):W.handedIn u=true:=by
 cases v with
 |cI=>cases (show u=Value.none from r);rfl
 |bl b=>cases (show u=Value.bool b from r);rfl
 |int i=>obtain⟨t,e⟩:=(show ∃t,u=Value.int i t from r);cases e;rfl
 |str x=>obtain⟨t,e⟩:=(show ∃t,u=Value.str x t from r);cases e;rfl
 |HS b=>obtain⟨t,e⟩:=(show ∃t,u=Value.bytes b t from r);cases e;rfl
 |Qg b=>obtain⟨t,e⟩:=(show ∃t,u=Value.float b t from r);cases e;rfl
 |ref a=>cases (show u=Value.ref a from r);rfl
 |ty n=>cases (show u=Value.type n from r);rfl
section
variable {P:bL} {w:World} {H H':Hp} {h h':Heap} {a C dx:Addr} {fs fs':rK}
theorem tH(cY:oh P w H h)(e:H a=some (.ins C dx fs)):∃mA,Cs h a dx C mA/\(∀f,o4 (fs.lookup f) (mA f))/\PySem.Within mA (fs.map (·.1))/\fs.length<=1000/\H dx=some (.own a):=by
 obtain⟨d,z,ne,ob,mA,n,r,q⟩:=(show dB P w H h a (.ins C dx fs) from cY a _ e)
 exact⟨mA,⟨ob,n,ne⟩,r,q,z,d⟩
end
structure HW(K:a_)(C:Addr):Prop where
 pg:W.plainGet K C Str.empty=true
 hd:W.hasDictIn K C=true
 po:W.plainOver K C=true
 sa:W.findIn K (.ref C) "__setattr__"=some (some (.builtin "object.__setattr__"))
theorem HW.get{K:a_}{C:Addr}(c:HW K C)(f:Str):W.plainGet K C f=true:=c.pg
def je(K:a_)(C:Addr)(f:Str):Prop:=W.findIn K (.ref C) f=some none
theorem je.Vc{K:a_}{C:Addr}{f:Str}(n:je K C f):W.takerIn K C f=some none:=by
 unfold W.takerIn;rw[show W.findIn K (.ref C) f=some none from n];rfl
structure Qu(K:a_)(C:Addr)(m:Str)(f:Addr):Prop where
 at_:W.findIn K (.ref C) m=some (some (.ref f))
 fn:W.isFn K (.ref f)=true
 kp:W.keepIn K (.ref f)=true
section
variable {X:Cx} {af:cE} {σ:St} {H:Hp} {s:aR} {a C dx:Addr} {fs:rK} {f:Str} {v:V} {A:br} {E:bV}
theorem Cu(I:aU X af σ H s)(e:H a=some (.ins C dx fs))(c:HW X.K C)(n:je X.K C f)(l:fs.lookup f=some v)(h:∀u s',aU X af σ H s'->bW v u->Q u s'):wpAny (model X.prog X.w) A (getAttr (.ref a) f b) Q E s:=by
 obtain⟨mA,O,r,_,_,_⟩:=tH I.cY e;obtain⟨u,hu,ru⟩:=o4.some_of (v:=v) (o:=mA f) (by rw[<-l];exact r f);exact Ml I.o_ O (c.get f) c.hd n hu (F_ ru) (h u _ (I.tok _) ru)
theorem Cv(I:aU X af σ H s)(e:H a=some (.ins C dx fs))(c:HW X.K C)(k:Qu X.K C m g)(l:fs.lookup m=none)(h:Q (.ref g,[.ref a]) s):wpAny (model X.prog X.w) A (getMethod (.ref a) m pl) Q E s:=by
 obtain⟨mA,O,r,_,_,_⟩:=tH I.cY e;have hn:mA m=none:=o4.none_of (by rw[<-l];exact r m);exact IZ I.o_ O (c.get m) k.at_ k.fn hn h
theorem Cw(I:aU X af σ H s)(e:H a=some (.ins C dx fs))(c:HW X.K C)(n:je X.K C f)(hl:fs.length<1000)(ry:bW y u)(h:∀s',aU X af σ (upd H a (.ins C dx (eY f y fs))) s'->Q () s'):wpAny (model X.prog X.w) A (setAttr (.ref a) f u) Q E s:=by
 obtain⟨mA,O,r,wi,_,ho⟩:=tH I.cY e;have hz:(fs.map (·.1)).length<=sizeLine:=by rw[aT,ge];lia
 refine Mn I.o_ O c.sa c.po n.Vc c.hd wi hz fun h' O' sb=>h _ ?_;have hd:∃o,h'.get? dx=some o:=let ⟨o,_,_,e',_⟩:=O'.ns;⟨o,e'⟩;refine I.write (x:=a) (e:=dx) (by rw[e];exact True.intro) (.inr ho) (fun b q hb z=>(sb.2 b hb).trans z) hd ?_;refine⟨by rw[aq O.ne];exact ho,?_,O.ne,O'.obj,_,O'.ns,fun g=>?_,fun g hg=>?_⟩
 .have:=fA f y fs;lia
 .show o4 ((eY f y fs).lookup g) (if g=f then some u else mA g);rw[bS];by_cases q:g=f
  .rw[ap q,ap q];exact ry
  .rw[ao q,ao q];exact r g
 .by_cases q:g=f
  .rw[q];exact(qT f y fs).1
  .refine(qT f y fs).2 g (wi g fun z=>hg ?_);show (if g=f then some u else mA g)=none;rw[ao q];exact z
theorem aU.made(I:aU X af σ H s):aU X af σ (upd (upd H s.heap.objs.size (.own (s.heap.objs.size+1))) (s.heap.objs.size+1) (.ins C s.heap.objs.size []))
  { s with heap:=(s.heap.push W.emptyDict).push (W.instObj C s.heap.objs.size) }:=by
 have e1:(s.heap.push W.emptyDict).get? s.heap.objs.size=some W.emptyDict:=cX s.heap rfl;have e2:((s.heap.push W.emptyDict).push (W.instObj C s.heap.objs.size)).get? (s.heap.objs.size+1)=some (W.instObj C s.heap.objs.size):=by
  have:=cX (s.heap.push W.emptyDict) (o:=W.instObj C s.heap.objs.size) rfl;rwa [jb] at this
 have e3:(s.heap.push W.emptyDict).Ns s.heap.objs.size (fun _=>none):=⟨W.emptyDict,#[],_,e1,rfl,(fun e he=>absurd he (by simp)),fun _=>rfl⟩
 have I1:=I.laid (a:=s.heap.objs.size) (o:=.own (s.heap.objs.size+1)) (h':=s.heap.push W.emptyDict) (t':=s.toks) (fun b u q=>bP _ q) (aP _) ⟨_,e1⟩;refine I1.laid (a:=s.heap.objs.size+1) (o:=.ins C s.heap.objs.size []) (t':=s.toks) (fun b u q=>bP _ q) (qJ (jb _ _)) ?_;have ne:s.heap.objs.size≠s.heap.objs.size+1:=bf (lL _);refine⟨by rw[aq ne,ae],cp _,ne,e2,fun _=>none,(Heap.Ns1.of_empty e3).at fun o q=>bP _ q,fun _=>True.intro,fun y hy=>absurd rfl hy⟩
theorem Mp(hb:attributeBase e f env (eval e env)=eval e env)(h:wpAny (model prog w) A (eval e env) (fun o s₁=>wpAny (model prog w) A (getAttr o f true) Q E s₁) E s):wpAny (model prog w) A (eval (.Attribute e f pos) env) Q E s:=
 Attribute_any_ h (by rw[arm_eval_Attribute,hb])
end
def Mq(K:a_)(ta:TE)(f:Str):TE:=fun σ H Q=>ta σ H fun x H1=>∃a C dx fs v,x=.ref a/\H1 a=some (.ins C dx fs)/\HW K C/\je K C f/\fs.lookup f=some v/\Q v H1
def ZD(K:a_)(ta tv:TE)(f:Str):TS:=fun D σ H=>tv σ H fun y H1=>ta σ H1 fun x H2=>∃a C dx fs,x=.ref a/\H2 a=some (.ins C dx fs)/\HW K C/\je K C f/\fs.length<1000/\
 D.nx σ (upd H2 a (.ins C dx (eY f y fs)))
section
variable {X:Cx} {o e value:Expr} {f:Str} {pos FZ Mr:Pos} {ta tv:TE}
theorem k8(he:PE X e ta)(hb:attributeBase e f X.env (eval e X.env)=eval e X.env):PE X (.Attribute e f pos) (Mq X.K ta f):=by
 intro af s σ H Q I h;refine Mp hb (eD (he af s σ H _ I h) fun u s1 ⟨x,H1,I1,rx,a,C,dx,fs,v,ex,ea,c,n,l,q⟩=>?_);subst ex;obtain rfl:u=Value.ref a:=rx;exact Cu I1 ea c n l fun u' s2 I2 ru=>⟨v,H1,I2,ru,q⟩
theorem uQ(ha:PE X o ta)(hv:PE X value tv)(hs:swapsWith value (some (.Attribute o f FZ)) pos.line X.env=pure false):PS X (.Assign [.Attribute o f FZ] value pos) (ZD X.K ta tv f):=by
 intro af s σ H D I h;refine plainObj_wpAny_Assign_Attribute (eD (hv af s σ H _ I h) fun u s1 ⟨y,H1,I1,ry,q⟩=>eD (ha af s1 σ H1 _ I1 q) fun ov s2 ⟨x,H2,I2,rx,a,C,dx,fs,ex,ea,c,n,l,q2⟩=>?_) hs;subst ex;obtain rfl:ov=Value.ref a:=rx;exact Cw I2 ea c n l ry fun s3 I3=>⟨σ,_,I3,q2⟩
end
section
variable {X:Cx} {af:cE} {σ:St} {H:Hp} {s:aR} {A:br} {E:bV} {Q:bV} {c:Value} {b:Bool}
inductive qU (K:a_) (H:Hp):V->Value->Prop where
 |cI:qU K H .cI (.type "NoneType")
 |bl (x:Bool):qU K H (.bl x) (.type "bool")
 |int (i:Int):qU K H (.int i) (.type "int")
 |str (x:Str):qU K H (.str x) (.type "str")
 |Qg (x:UInt64):qU K H (.Qg x) (.type "float")
 |lst {a:Addr} {xs:bg} (e:H a=some (.lst xs)):qU K H (.ref a) (.type "list")
 |zh {a:Addr} {o:Obj} {xs:bg} (e:H a=some (.zh o (.lst xs))):qU K H (.ref a) (.type "list")
 |tup {a:Addr} {xs:bg} (e:H a=some (.tup xs)):qU K H (.ref a) (.type "tuple")
 |dK {a:Addr} {dR:List (iV×V)} (e:H a=some (.dK dR)):qU K H (.ref a) (.type "dict")
 |dT {a:Addr} {dR:List (List iV×V)} (e:H a=some (.dT dR)):qU K H (.ref a) (.type "dict")
 |ins {a C dx:Addr} {fs:rK} (e:H a=some (.ins C dx fs)) (cl:HW K C) (ha:W.findIn K (.ref C) "__class__"=some (some (.builtin "object.__class__")))
   (hn:W.specialIn K (.builtin "object.__class__") "__get__"=some (some (.builtin "getset_descriptor.__get__"))) (Vd:W.takesIn K (.builtin "object.__class__")=some true)
   (hm:W.mroIn K C (.type "object")=some true):qU K H (.ref a) (.ref C)
theorem wv(I:aU X af σ H s)(rx:bW x u)(ty:qU X.K H x t)(e:W.kitOne X.K t c=some b)(h:∀tk,Q (.bool b) { s with toks:=tk }):
  wpAny (model X.prog X.w) A (call (.builtin "isinstance") [u,c]) Q E s:=by
 cases ty with
 |cI=>cases (show u=Value.none from rx);exact W.kia_one W.kitx_none I.o_ True.intro e (fun z=>nomatch z) h
 |bl y=>cases (show u=Value.bool y from rx);exact W.kia_one W.kitx_bool I.o_ True.intro e (fun z=>nomatch z) h
 |int i=>obtain⟨t,q⟩:=(show ∃t,u=Value.int i t from rx);cases q;exact W.kia_one W.kitx_int I.o_ True.intro e (fun z=>nomatch z) h
 |str y=>obtain⟨t,q⟩:=(show ∃t,u=Value.str y t from rx);cases q;exact W.kia_one W.kitx_str I.o_ True.intro e (fun z=>nomatch z) h
 |Qg y=>obtain⟨t,q⟩:=(show ∃t,u=Value.float y t from rx);cases q;exact W.kia_one W.kitx_float I.o_ True.intro e (fun z=>nomatch z) h
 |@lst a xs ea=>
  cases (show u=Value.ref a from rx);obtain⟨_,_,n,_,h1⟩:=(show dB X.prog X.w H s.heap a (.lst xs) from I.cY a _ ea)
  exact W.kia_one W.kitx_list I.o_ ⟨_,h1,rfl⟩ e (fun z=>nomatch z) h
 |@zh a ob xs ea=>
  cases (show u=Value.ref a from rx);obtain⟨_,_,_,n,_,h1⟩:=(show dB X.prog X.w H s.heap a (.zh ob (.lst xs)) from I.cY a _ ea)
  exact W.kia_one W.kitx_list I.o_ ⟨_,h1,rfl⟩ e (fun z=>nomatch z) h
 |@tup a xs ea=>
  cases (show u=Value.ref a from rx);obtain⟨_,_,_,p⟩:=(show dB X.prog X.w H s.heap a (.tup xs) from I.cY a _ ea)
  obtain⟨o,h1,h2,_⟩:=p;exact W.kia_one W.kitx_tuple I.o_ ⟨o,h1,h2⟩ e (fun z=>nomatch z) h
 |@dK a dR ea=>
  cases (show u=Value.ref a from rx);obtain⟨_,_,vs,_,p⟩:=(show dB X.prog X.w H s.heap a (.dK dR) from I.cY a _ ea)
  obtain⟨o,es,ep,h1,h2,_⟩:=p;exact W.kia_one W.kitx_dict I.o_ ⟨o,h1,h2.1⟩ e (fun z=>nomatch z) h
 |@dT a dR ea=>
  cases (show u=Value.ref a from rx);obtain⟨_,_,xs,_,o,es,ep,h1,h2,_⟩:=(show dB X.prog X.w H s.heap a (.dT dR) from I.cY a _ ea)
  exact W.kia_one W.kitx_dict I.o_ ⟨o,h1,h2.1⟩ e (fun z=>nomatch z) h
 |@ins a C dx fs ea cl ha hn Vd hm=>
  cases (show u=Value.ref a from rx);obtain⟨mA,O,_⟩:=tH I.cY ea;obtain⟨od,J,_⟩:=O.look;exact W.kia_one (W.kitx_own (cl.get _) cl.hd ha hn Vd hm) I.o_ J e (fun z=>nomatch z) h
end
structure df(k:Nat)(A:br):Prop where
 hd:A.handled=none
 dp:A.depth+3*k+5<recursionLimit
 un:A.units+16*k+200<cLine
 gd:A.guards=some []
theorem df.mono(r:df k A)(h:j<=k):df j A:=⟨r.hd,by have:=r.dp;lia,by have:=r.un;lia,r.gd⟩
theorem df.deeper(r:df (k+1) A)(env:Env):df k (A.deeper env):=
 ⟨r.hd,by have:=r.dp;show A.depth+1+3*k+5<_;lia,by have:=r.un;show A.units+3+16*k+200<_;lia,r.gd⟩
theorem df.in1(r:df (k+1) A):df k A.in1:=
 ⟨r.hd,by have:=r.dp;show A.depth+3*k+5<_;lia,by have:=r.un;show A.units+1+16*k+200<_;lia,r.gd⟩
theorem Cy{A:br}{C:Addr}{us:bw}{kw:wg}:(A.under (.builtin "type.__call__" ⟨.ref C::us,kw⟩)).depth=A.depth+1:=by
 first|rfl|simp[Around.under,Code.weight,Code.isCreation,Code.isGuard,Code.isCaller,Code.frames,Code.isFrame,guardIds]
theorem Cz{A:br}{C:Addr}{us:bw}{kw:wg}:(A.under (.builtin "type.__call__" ⟨.ref C::us,kw⟩)).units=A.units+1:=by
 first|rfl|simp[Around.under,Code.cUnits,Code.frames,Code.isFrame]
theorem df.make(r:df (k+1) A)(C:Addr)(us:bw)(kw:wg):df k (A.under (.builtin "type.__call__" ⟨.ref C::us,kw⟩)):=
 ⟨r.hd,by have:=r.dp;rw[Cy];lia,by have:=r.un;rw[Cz];lia,r.gd⟩
theorem df.depth(r:df k A):A.depth<recursionLimit:=by have:=r.dp;lia
theorem df.u(r:df k A)(h:n<=200:=by decide):A.units+n<cLine:=by have:=r.un;lia
def h_:TA:=fun _ H Q=>Q [] H
def bJ(ta:TE)(tr:TA):TA:=fun σ H Q=>ta σ H fun x H1=>tr σ H1 fun xs H2=>Q (x::xs) H2
section
variable {X:Cx} {e:Expr} {es:gZ} {te:TE} {t:TA} {pos:Pos}
theorem ag:PA X [] h_:=fun _ _ _ _ H Q I h=>Calls.spliced_nil ⟨[],H,I,.nil,h⟩
theorem aa(ha:PE X e te)(hr:PA X es t)(hs:starEach (e::es) X.env=(false,eval e X.env)::starEach es X.env:=by rfl):PA X (e::es) (bJ te t):=by
 intro pos af s σ H Q I h;rw[hs];show wpAny _ _ (spliced ((false,eval e X.env)::backTo pos (starEach es X.env))) _ _ s;refine Calls.spliced_cons (eD (ha af s σ H _ I h) fun u s1 ⟨x,H1,I1,r1,q1⟩=>?_);exact eD (hr pos af s1 σ H1 _ I1 q1) fun us s2 ⟨xs,H2,I2,r2,q2⟩=>⟨x::xs,H2,I2,.cons r1 r2,q2⟩
def sn(t:TA):TE:=fun σ H Q=>t σ H fun xs H1=>xs.length<=sizeLine/\∀p,H1 p=none->Q (.ref p) (upd H1 p (.tup xs))
def ZE(t:TA):TE:=fun σ H Q=>t σ H fun xs H1=>xs.length<=sizeLine/\∀p,H1 p=none->Q (.ref p) (upd H1 p (.lst xs))
theorem bT{x1}(h:PA X es t):PE X (.Tuple es x1 pos) (sn t):=by
 intro af s σ H Q I hq;refine wpAny_Tuple_spliced (eD (h pos af s σ H _ I hq) fun us s1 ⟨xs,H1,I1,r,z,q⟩=>⟨by rw[<-r.length];exact z,?_⟩);have hf:H1 s1.heap.objs.size=none:=I1.cY.fresh (aP _);refine⟨.ref s1.heap.objs.size,upd H1 s1.heap.objs.size (.tup xs),I1.laid (t':=s1.toks) (fun b u e=>bP _ e) (aP _) ?_,rfl,q _ hf⟩;exact⟨z,us,r,⟨_,cX _ rfl,rfl,_,rfl,rfl⟩⟩
theorem cH(h:PA X es t):PE X (.List es pos) (ZE t):=by
 intro af s σ H Q I hq;refine wpAny_List_spliced (eD (h pos af s σ H _ I hq) fun us s1 ⟨xs,H1,I1,r,z,q⟩=>⟨by rw[<-r.length];exact z,?_⟩);have hf:H1 s1.heap.objs.size=none:=I1.cY.fresh (aP _);refine⟨.ref s1.heap.objs.size,upd H1 s1.heap.objs.size (.lst xs),I1.laid (t':=s1.toks) (fun b u e=>bP _ e) (aP _) ?_,rfl,q _ hf⟩;exact⟨z,us,0,r,cX _ rfl⟩
end
abbrev Sp:=List V->Hp->VK->XK->Prop
abbrev Be:=List Env->Hp->Shared->XK->Value->Shared->Prop
structure CC(P:bL)(w:World)(K:a_)(mg:cr)(base:Heap)(A:br)(outer:j8)(s:aR)(H:Hp):Prop where
 frames:A.frames=some outer
 mod:Mod K mg base
 bs:∀b o,base.get? b=some o->s.heap.get? b=some o/\H b=none
 IL:base.objs.size<=s.heap.objs.size
 sg:s.heap.FunFrames base outer
 Qi:∀b∈HU outer,H b=none
 cY:oh P w H s.heap
 bare:AllBare s.gens
def CE(outer:j8)(P:bL)(w:World)(H:Hp)(s:aR)(Q:VK)(u:Value)(s':aR):Prop:=
 ∃v H',s'.os=s.os/\AllBare s'.gens/\Un (HU outer) [] H H' s.heap s'.heap/\oh P w H' s'.heap/\bW v u/\Q v H'
def CR(CX:Be)(outer:j8)(P:bL)(w:World)(H:Hp)(s:aR)(Q:VK)(E:XK)(r:Result)(s':aR):Prop:=
 match r with
 |.ok (.ret u)=>CE outer P w H s Q u s'
 |.ok _=>False
 |.error e=>CX outer H s E e s'
structure bU(P:bL)(w:World)(K:a_)(mg:cr)(base:Heap)(CX:Be)(k:Nat)(f:Addr)(fd:eA)(ps:bQ)(sp:Sp):Prop where
 len:∀vs H Q E,sp vs H Q E->vs.length=ps.length
 run:∀ (A:br) (outer:j8) (s:aR) (H:Hp) (args:Args) (us:bw) (vs:bg) (Q:VK) (E:XK),df k A->CC P w K mg base A outer s H->BindsTo s fd args (ps.zip us)->ba vs us->sp vs H Q E->
  codeAny (model P w) A (.call (.ref f) args) (CR CX outer P w H s Q E) s
theorem CC.make{P:bL}{w:World}{K:a_}{mg:cr}{base:Heap}{A:br}{outer:j8}{s:aR}{H:Hp}(e:CC P w K mg base A outer s H)(C:Addr)(us:bw)(kw:wg):
  CC P w K mg base (A.under (.builtin "type.__call__" ⟨.ref C::us,kw⟩)) outer s H:=⟨by first|exact e.frames|(simpa [Around.under,Code.envs,Code.isFrame,pushEnvs] using e.frames),e.mod,e.bs,e.IL,e.sg,e.Qi,e.cY,e.bare⟩
section
variable {X:Cx} {af:cE} {σ:St} {H:Hp} {s s':aR}
theorem aU.Ve(I:aU X af σ H s):CC X.prog X.w X.K X.mg X.base X.A X.stack s H:=
 ⟨I.ok.frames,I.ok.mod,I.bs,aZ I.ok.IL I.sz,I.stack,I.xO,I.cY,I.bare⟩
theorem aU.after(I:aU X af σ H s)(h:CE X.stack X.prog X.w H s Q u s'):EP X af σ Q u s':=by
 obtain⟨v,H',os,bare,un,cY,r,q⟩:=h;obtain⟨hh,g,d,t,Vf⟩:=s';obtain rfl:Vf=s.os:=os;exact⟨v,H',I.call (h':=hh) (g':=g) (d':=d) (t':=t) (ch:=[]) un cY bare (fun b z=>absurd z (by simp)),r,q⟩
end
def rN(sp:Sp)(vQ:bg)(E:XK)(t:TA):TE:=fun σ H Q=>t σ H fun vs H1=>sp (vs++vQ) H1 Q E
def Et(C:Addr)(m:Str)(sp:Sp)(vQ:bg)(E:XK)(ta:TE)(t:TA):TE:=fun σ H Q=>ta σ H fun x H1=>∃a dx fs,x=.ref a/\H1 a=some (.ins C dx fs)/\fs.lookup m=none/\
 t σ H1 fun vs H2=>sp (x::(vs++vQ)) H2 Q E
def Vg(C:Addr)(sp:Sp)(vQ:bg)(E:XK)(t:TA):TE:=fun σ H Q=>t σ H fun vs H1=>∀x dx,H1 x=none->H1 dx=none->dx≠x->
 sp (.ref x::(vs++vQ)) (upd (upd H1 dx (.own x)) x (.ins C dx [])) (fun v H2=>v=.cI/\Q (.ref x) H2) E
def lw(K:a_)(fd:eA)(ps:bQ)(ds:bw):Prop:=
 ∀ (s:aR) (us:bw),K.In s.heap->(us++ds).length=ps.length->BindsTo s fd ⟨us,[]⟩ (ps.zip (us++ds))
theorem lw.all{K:a_}{fd:eA}{ps:bQ}(h:∀us:List Value,us.length=ps.length->bindArgs fd ⟨us,[]⟩=pure (ps.zip us)):lw K fd ps []:=fun s us _ hl=>by
 rw[jH] at hl |-;exact .of_eq (h us hl)
def om(CX:Be)(X:Cx)(E:XK):Prop:=∀ (af:cE) (σ:St) (H:Hp) (s:aR) (e:Value) (s':aR),aU X af σ H s->CX X.stack H s E e s'->X.xe e s'
section
variable {X:Cx} {CX:Be} {k:Nat} {f C:Addr} {fd:eA} {ps:bQ} {sp:Sp} {vQ:bg} {ds:bw} {E:XK} {x m:Str} {p pos xR:Pos} {e o:Expr} {es:gZ} {ta:TE} {t:TA}
theorem I_(F:bU X.prog X.w X.K X.mg X.base CX k f fd ps sp)(hr:df k X.A)(hb:lw X.K fd ps ds)(hd:ba vQ ds)(hx:om CX X E)(I:aU X af σ H s)(r:ba vs us)(h:sp (vs++vQ) H Q E):wpAny (model X.prog X.w) X.A (call (.ref f) us) (EP X af σ Q) X.xe s:=by
 have r2:ba (vs++vQ) (us++ds):=r.append hd;have hl:(us++ds).length=ps.length:=by rw[<-r2.length];exact F.len _ _ _ _ h
 refine qN (qM (F.run X.A X.stack s H ⟨us,[]⟩ (us++ds) (vs++vQ) Q E hr I.Ve (hb s us I.o_ hl) r2 h) fun r s' hq=>?_);cases r with
 |error e=>exact hx af σ H s e s' I hq
 |ok fl=>
  cases fl with
  |ret u=>exact I.after hq
  |next=>exact False.elim hq
  |brk=>exact False.elim hq
  |cont=>exact False.elim hq
theorem Ms(F:bU X.prog X.w X.K X.mg X.base CX k f fd ps sp)(hr:df k X.A)(hg:Gl X x)(hm:X.mg x=some (.ref f))(hk:W.keepIn X.K (.ref f)=true)(hb:lw X.K fd ps ds)(hd:ba vQ ds)(hx:om CX X E)(ha:PA X (e::es) t)(Ga:(x==("__debug__":Str))=false:=by decide)(he:starEach (e::es) X.env=(false,eval e X.env)::starEach es X.env:=by rfl)(HX:(backTo pos (starEach es X.env)).any (·.1)=false:=by rfl):
  PE X (.Call (.Name x p) (e::es) [] pos) (rN sp vQ E t):=by
 intro af s σ H Q I h;refine nQ (tw I hg hm ?_ Ga);refine W.callWith_K (h₀:=X.base) I.ok.mod.UO hk (eD (ha pos af s σ H _ I h) fun us s1 ⟨vs,H1,I1,r,q⟩=>⟨I1.o_,?_⟩) he HX;exact I_ F hr hb hd hx I1 r q
theorem eZ(he:PE X o ta)(c:HW X.K C)(hm:Qu X.K C m f)(F:bU X.prog X.w X.K X.mg X.base CX k f fd ps sp)(hr:df k X.A)(hb:lw X.K fd ps ds)(hd:ba vQ ds)(hx:om CX X E)(ha:PA X (e::es) t)(qc:starEach (e::es) X.env=(false,eval e X.env)::starEach es X.env:=by rfl)(HX:(backTo pos (starEach es X.env)).any (·.1)=false:=by rfl)(ht:eval (.Call (.Attribute o m xR) (e::es) [] pos) X.env=(do
   let ov <- eval o X.env
   standAt xR.atName
   let (f,first) <- holding [ov] (getMethod ov m pl)
   callWith pos f first (backTo pos (starEach (e::es) X.env)) (backToKw pos (keywordEach [] X.env))):=by rfl):
  PE X (.Call (.Attribute o m xR) (e::es) [] pos) (Et C m sp vQ E ta t):=by
 intro af s σ H Q I h;refine W.methodCall_KW (pl:=pl) (eD (he af s σ H _ I h) fun u s1 ⟨x,H1,I1,rx,a,dx,fs,ex,ea,l,q⟩=>?_) ht;subst ex;obtain rfl:u=Value.ref a:=rx;refine Cv I1 ea c hm l ?_;refine W.callWith_K (first:=[.ref a]) (h₀:=X.base) I.ok.mod.UO hm.kp (eD (ha pos af s1 σ H1 _ I1 q) fun us s2 ⟨vs,H2,I2,r,q2⟩=>⟨I2.o_,?_⟩) qc HX;exact I_ (us:=.ref a::us) (vs:=.ref a::vs) F hr hb hd hx I2 (.cons rfl r) q2
structure Mk(K:a_)(C f:Addr):Prop where
 makes:W.makesIn K C=true
 init:W.findIn K (.ref C) "__init__"=some (some (.ref f))
 fn:W.isFn K (.ref f)=true
 kp:W.keepIn K (.ref C)=true
theorem Ja(M:Mk X.K C f)(F:bU X.prog X.w X.K X.mg X.base CX k f fd ps sp)(hr:df (k+1) X.A)(hb:lw X.K fd ps ds)(hd:ba vQ ds)(hx:om CX X E)(I:aU X af σ H s)(r:ba vs us)(h:∀x dx,H x=none->H dx=none->dx≠x->sp (.ref x::(vs++vQ)) (upd (upd H dx (.own x)) x (.ins C dx [])) (fun v H2=>v=.cI/\Q (.ref x) H2) E):
  wpAny (model X.prog X.w) X.A (call (.ref C) us) (EP X af σ Q) X.xe s:=by
 have hq:=h (s.heap.objs.size+1) s.heap.objs.size (I.cY.fresh (xK _)) (I.cY.fresh (aP _)) (bf (lL _));have I2:=aU.made (C:=C) I;have r2:ba (V.ref (s.heap.objs.size+1)::(vs++vQ)) (Value.ref (s.heap.objs.size+1)::(us++ds)):=.cons rfl (r.append hd);have hl:(Value.ref (s.heap.objs.size+1)::us++ds).length=ps.length:=by
  have e:=r2.length;rw[F.len _ _ _ _ hq] at e;exact e.symm
 refine qN (I0 (f:=f) I.o_ M.makes M.init (gg.mp M.fn) (qM (F.run _ X.stack _ _ ⟨Value.ref (s.heap.objs.size+1)::us,[]⟩ (Value.ref (s.heap.objs.size+1)::(us++ds)) _ _ E (hr.make C us [])
  (I2.Ve.make C us []) (hb _ (Value.ref (s.heap.objs.size+1)::us) I2.o_ hl) r2 hq) fun r s' Jb=>?_))
 cases r with
 |error e=>exact hx af σ _ _ e s' I2 Jb
 |ok fl=>
  cases fl with
  |ret u=>
   obtain⟨v,H',I3,rv,ev,q3⟩:=I2.after Jb;subst ev;exact⟨rv,⟨V.ref (s.heap.objs.size+1),H',I3,rfl,q3⟩⟩
  |next=>exact False.elim Jb
  |brk=>exact False.elim Jb
  |cont=>exact False.elim Jb
theorem Eu(M:Mk X.K C f)(F:bU X.prog X.w X.K X.mg X.base CX k f fd ps sp)(hr:df (k+1) X.A)(hg:Gl X x)(hm:X.mg x=some (.ref C))(hb:lw X.K fd ps ds)(hd:ba vQ ds)(hx:om CX X E)(ha:PA X (e::es) t)(Ga:(x==("__debug__":Str))=false:=by decide)(he:starEach (e::es) X.env=(false,eval e X.env)::starEach es X.env:=by rfl)(HX:(backTo pos (starEach es X.env)).any (·.1)=false:=by rfl):
  PE X (.Call (.Name x p) (e::es) [] pos) (Vg C sp vQ E t):=by
 intro af s σ H Q I h;refine nQ (tw I hg hm ?_ Ga);refine W.callWith_K (h₀:=X.base) I.ok.mod.UO M.kp (eD (ha pos af s σ H _ I h) fun us s1 ⟨vs,H1,I1,r,q⟩=>⟨I1.o_,?_⟩) he HX;exact Ja M F hr hb hd hx I1 r q
end
def PK(X:Cx)(Jc:List Keyword)(t:TA):Prop:=
 ∀ (pos:Pos) (af:cE) (s:aR) (σ:St) (H:Hp) (Q:zB),aU X af σ H s->t σ H Q->wpAny (model X.prog X.w) X.A (evalAll ((backToKw pos (keywordEach Jc X.env)).map (·.2))) (AP X af σ Q) X.xe s
section
variable {X:Cx} {CX:Be} {k:Nat} {f C:Addr} {fd:eA} {ps ks:bQ} {sp:Sp} {E:XK} {x m:Str} {p pos xR ZF:Pos} {e o:Expr} {es:gZ} {Jc:List Keyword} {te ta:TE} {t tk:TA} {nm:Option Str}
theorem uR:PK X [] h_:=fun _ _ _ _ H Q I h=>wpAny_evalAll_nil ⟨[],H,I,.nil,h⟩
theorem ph(ha:PE X e te)(hr:PK X Jc t):PK X (⟨nm,e,ZF⟩::Jc) (bJ te t):=by
 intro pos af s σ H Q I h;show wpAny _ _ (evalAll ((do let v <- eval e X.env;standAt pos;pure v)::(backToKw pos (keywordEach Jc X.env)).map (·.2))) _ _ s;refine wpAny_evalAll_cons (au (eD (ha af s σ H _ I h) fun u s1 ⟨x,H1,I1,r1,q1⟩=>au (n9 (wpAny_pure ?_))));exact eD (hr pos af s1 σ H1 _ I1 q1) fun us s2 ⟨xs,H2,I2,r2,q2⟩=>⟨x::xs,H2,I2,.cons r1 r2,q2⟩
variable {g:List Value->List Value->List Value} {gV:List V->List V->List V}
end
structure aN(N P:bQ)(sc:Scope):Prop where
 kind:sc.kind=.function
 co:sc.isCoroutine=false
 gen:sc.isGenerator=false
 nd:N.Nodup
 pre:N.take P.length=P
 par:∀x∈P,sc.names.lookup x=some .local\/sc.names.lookup x=some .cell
 Qv:∀y∈sc.names,y.2≠.free
theorem dW{N P:bQ}{sc:Scope}(h:(N.Nodup/\∀x∈P,sc.names.lookup x=some .local\/sc.names.lookup x=some .cell)/\∀y∈sc.names,y.2≠.free)(h1:sc.kind=.function:=by rfl)(h2:sc.isCoroutine=false:=by rfl)(h3:sc.isGenerator=false:=by rfl)(h5:N.take P.length=P:=by rfl):aN N P sc:=⟨h1,h2,h3,h.1.1,h5,h.1.2,h.2⟩
theorem aL{α:Sort u}{a:α}{b:Prop}:a=a\/b:=Or.inl rfl
theorem cW{α:Sort u}{a:α}{b:Prop}:b\/a=a:=Or.inr rfl
theorem ww{kindOf:Ee}{x:Str}:∀ {binds:wg} {m:cr},(∀v,(x,v)∉binds)->bindL kindOf binds m x=m x
 |[],_,_=>rfl
 |(n,v)::r,m,h=>by
  unfold bindL;rw[ww fun w hw=>h w (dq _ hw)];split
  .have:x≠n:=by rintro rfl;exact h v cK
   simp[this]
  .rfl
theorem wx{kindOf:Ee}{x:Str}:∀ {binds:wg} {m:cr},(∀v,(x,v)∉binds)->bindC kindOf binds m x=m x
 |[],_,_=>rfl
 |(n,v)::r,m,h=>by
  unfold bindC;rw[wx fun w hw=>h w (dq _ hw)];split
  .rfl
  .have:x≠n:=by rintro rfl;exact h v cK
   simp[this]
theorem wz{kindOf:Ee}{x:Str}{v:Value}:∀ {P:bQ} {vs:bw} {i:Nat} {m:cr},P.Nodup->P[i]?=some x->vs[i]?=some v->kindOf x=some .local->
  bindL kindOf (P.zip vs) m x=some v
 |[],_,_,_,_,h,_,_=>by simp at h
 |_::_,[],_,_,_,_,h,_=>by simp at h
 |p::P,w::vs,0,m,nd,h1,h2,hk=>by
  simp at h1 h2;subst h1;subst h2;show bindL kindOf ((p,w)::P.zip vs) m p=_;unfold bindL;rw[ww fun v hv=>(gI.mp nd).1 (nY hv).1,ap hk];simp
 |p::P,w::vs,i+1,m,nd,h1,h2,hk=>by
  show bindL kindOf ((p,w)::P.zip vs) m x=_;unfold bindL;exact wz (i:=i) (gI.mp nd).2 (by simpa using h1) (by simpa using h2) hk
theorem wA{kindOf:Ee}{x:Str}{v:Value}:∀ {P:bQ} {vs:bw} {i:Nat} {m:cr},P.Nodup->P[i]?=some x->vs[i]?=some v->kindOf x≠some .local->
  bindC kindOf (P.zip vs) m x=some v
 |[],_,_,_,_,h,_,_=>by simp at h
 |_::_,[],_,_,_,_,h,_=>by simp at h
 |p::P,w::vs,0,m,nd,h1,h2,hk=>by
  simp at h1 h2;subst h1;subst h2;show bindC kindOf ((p,w)::P.zip vs) m p=_;unfold bindC;rw[wx fun v hv=>(gI.mp nd).1 (nY hv).1,ao hk];simp
 |p::P,w::vs,i+1,m,nd,h1,h2,hk=>by
  show bindC kindOf ((p,w)::P.zip vs) m x=_;unfold bindC;exact wA (i:=i) (gI.mp nd).2 (by simpa using h1) (by simpa using h2) hk
def start(N:bQ)(vs:bg):St:=vs.map some++List.replicate (N.length-vs.length) none
def l8(CX:Be)(P:bL)(w:World)(K:a_)(mg:cr)(base:Heap)(N:bQ)(qual:Str)(scope:Scope)(f:Addr)(cd:Value)(A:br)(outer:j8)(s:aR)(H:Hp)(E:XK):Cx where
 prog:=P
 w:=w
 K:=K
 mg:=mg
 base:=base
 A:=A.deeper (envOfC qual scope s.heap.objs.size f cd)
 N:=N
 s₀:=s
 H₀:=H
 env:=envOfC qual scope s.heap.objs.size f cd
 outer:=outer
 stack:=envOfC qual scope s.heap.objs.size f cd::outer
 ex:=[]
 calm:=true
 fn:=fun _=>true
 pn:=[]
 xe:=fun e s'=>wpAny (model P w) (A.deeper (envOfC qual scope s.heap.objs.size f cd)) (leaving (envOfC qual scope s.heap.objs.size f cd) e) (fun _ LQ=>CX outer H s E e LQ) (fun e' LQ=>CX outer H s E e' LQ) s'
theorem zQ{sc:Scope}{n:Nat}{x:Str}(h:sc.names.lookup x=some .cell):∃c,(cellsFrom n sc.names []).lookup x=some c:=by
 have q:=W.cellsFrom_some sc.names n [] (.inl h);exact xm.mp q
theorem Gb{CX:Be}{P:bL}{w:World}{K:a_}{mg:cr}{base:Heap}{N ps:bQ}{qual:Str}{scope:Scope}{f:Addr}{cd:Value}{A:br}{outer:j8}{s s1:aR}{H:Hp}{E:XK}{us:bw}{vs:bg}(S:aN N ps scope)(hd:A.handled=none)(e0:CC P w K mg base A outer s H)(hl:vs.length=ps.length)(r:ba vs us)(x:InCallC s s.heap.objs.size (bindL (envOfC qual scope s.heap.objs.size f cd).kindOf (ps.zip us) fun _=>none) (cellsFrom (s.heap.objs.size+1) scope.names []) (bindC (envOfC qual scope s.heap.objs.size f cd).kindOf (ps.zip us) fun _=>none) s1):
  aU (l8 CX P w K mg base N qual scope f cd A outer s H E) [] (start N vs) H s1:=by
 have HX:ps.length<=N.length:=by have:=congrArg List.length S.pre;rw[kK] at this;lia
 obtain⟨h1,tk,rfl,hk⟩:=x.done;have Ue:∀b:Addr,b∉(l8 CX P w K mg base N qual scope f cd A outer s H E).ex:=fun b z=>absurd (show b∈([]:bR) from z) (by simp);refine⟨⟨e0.mod,S.kind,rfl,rfl,aP _,fun y z c h1 h2=>?_,fun y hy=>?_,fun y c _ h=>?_,fun _=>hd,Around.frames_deeper e0.frames,.inr ⟨rfl,rfl⟩,fun b z=>absurd z (Ue b),e0.bs,e0.IL,fun b _ _=>Ue b,fun b z=>absurd z (Ue b),e0.sg,e0.Qi⟩,
  rfl,e0.bare,Un.kept hk,⟨_,x.toInCall.ns,fun i y v h1 h2 h3=>?_⟩,fun y c h=>⟨_,x.cell y c h⟩,e0.cY.fresh (aP _),fun y c h=>?_,fun p hp=>absurd (show p∈([]:cE) from hp) (by simp),e0.cY.kept hk,?_⟩
 .exact name_of_addr x.apart (lH h1) (lH h2)
 .have hy:scope.names.lookup y=some .cell\/scope.names.lookup y=some .free:=hy;rcases hy with hy|hy
  .exact zQ hy
  .exact absurd rfl (S.Qv _ (lH hy))
 .exact kW (x.above y c (lH h))
 .have hi:i<vs.length:=by
   unfold start at h2;by_cases hi:i<vs.length
   .exact hi
   .rw[rJ (by simpa using hi)] at h2;rw[t_] at h2;split at h2 <;> cases h2
  have ha:vs[i]?=some v:=by
   unfold start at h2;rw[j3 (by simpa using hi),cA] at h2;cases e:vs[i]? with
   |none=>rw[e] at h2;cases h2
   |some a=>rw[e] at h2;cases h2;rfl
  obtain⟨u,hu,rv⟩:=r.get ha;have hp:ps[i]?=some y:=by
   rw[<-S.pre,By (by lia)];exact h1
  have ndP:ps.Nodup:=by rw[<-S.pre];exact S.nd.sublist (xw _ _)
  refine⟨u,rv,?_⟩;rcases S.par y (dz hp) with k|k
  .exact .inl ⟨k,wz ndP hp hu k⟩
  .obtain⟨c,e⟩:=zQ (n:=s.heap.objs.size+1) k;refine .inr ⟨.inl k,c,e,?_⟩;have q:=x.cell y c e;rw[wA ndP hp hu (by show scope.names.lookup y≠_;rw[k];decide)] at q;exact q
 .exact e0.cY.fresh (kW (x.above y c (lH h)))
 .unfold start;show _=N.length;rw[dh,aT,i9];lia
theorem O7{CX:Be}{P:bL}{w:World}{K:a_}{mg:cr}{base:Heap}{k:Nat}{f:Addr}{name qual:Str}{params:lX}{body:List Stmt}{scope:Scope}{dV kV pi pm fX ct oc:Value}{an od:js}{Bg:m_}{N ps:bQ}{sp:Sp}(lk:K.lookup f=some ⟨oc,od,.func (W.fnOf name qual params body scope dV kV pi pm an fX ct),Bg⟩)(wr:W.codeIn K fX qual=true)(S:aN N ps scope)(len:∀vs H Q E,sp vs H Q E->vs.length=ps.length)(zR:∀ (A:br) (outer:j8) (s:aR) (H:Hp) (vs:bg) (Q:VK) (E:XK),df k (A.deeper (envOfC qual scope s.heap.objs.size f fX))->sp vs H Q E->
   ∃t,Ch (l8 CX P w K mg base N qual scope f fX A outer s H E) body t/\t { nx:=fun _ H'=>Q .cI H',rt:=Q } (start N vs) H):
  bU P w K mg base CX (k+1) f (W.fnOf name qual params body scope dV kV pi pm an fX ct) ps sp:=by
 refine⟨len,fun A outer s H args us vs Q E hr e0 hb r LR=>?_⟩;have hl:=len _ _ _ _ LR;have KX:K.In s.heap:=e0.mod.UO.keeps fun b o e=>(e0.bs b o e).1;have lim:s.heap.NoLimit:=e0.mod.nolimit.keeps fun b o e=>(e0.bs b o e).1;have Vh:∀y∈ps.zip us,scope.names.lookup y.1=some .local\/(scope.names.lookup y.1=some .cell/\((cellsFrom (s.heap.objs.size+1) scope.names []).lookup y.1).isSome=true):=fun ⟨n,v⟩ hy=>by
  rcases S.par n (nY hy).1 with q|q
  .exact .inl q
  .exact .inr ⟨q,W.cellsFrom_some _ _ _ (.inl q)⟩
 refine codeAny_call_function hr.depth (KX _ _ lk) rfl S.co S.gen rfl (W.codeRec_of KX wr) (hb _ _ _ _ ?_);refine wpAny_newFunctionEnv_cells S.kind Vh fun env he s1 x=>?_;subst he;refine⟨lim.keeps x.toInCall.keep,codeAny_func ?_⟩;obtain⟨t,ht,hq⟩:=zR A outer s H vs Q E (hr.deeper _) LR;have I:aU (l8 CX P w K mg base N qual scope f fX A outer s H E) [] (start N vs) H s1:=Gb S hr.hd e0 hl r x;refine jK (ht [] s1 (start N vs) H _ I hq) (fun fl s' hs=>?_) fun e s' hs=>hs;have d_:∀ {σ':St} {H':Hp} {v:V} {u:Value},aU (l8 CX P w K mg base N qual scope f fX A outer s H E) [] σ' H' s'->bW v u->Q v H'->CE outer P w H s Q u s':=
  fun {σ' H' v u} J rv q=>⟨v,H',J.os,J.bare,J.base,J.cY,rv,q⟩
 cases fl with
 |ret u=>
  obtain⟨v,σ',H',J,rv,q⟩:=hs;exact d_ J rv q
 |next=>
  obtain⟨σ',H',J,q⟩:=hs;exact d_ (v:=V.cI) (u:=Value.none) J rfl q
 |brk=>
  obtain⟨_,_,_,q⟩:=hs;exact False.elim q
 |cont=>
  obtain⟨_,_,_,q⟩:=hs;exact False.elim q
section
variable {X:Cx} {x:Str} {p pos:Pos} {e:Expr} {es:gZ} {t:TA} {id T:String} {r:List V->Hp->VK->Prop}
def Vi(r:List V->Hp->VK->Prop)(t:TA):TE:=fun σ H Q=>t σ H fun vs H1=>r vs H1 Q
theorem aJ(hc:gf X (.builtin id) r)(hg:Gl X x)(hm:X.mg x=none)(hv:bootBuiltins x=some (.builtin id))(ha:PA X (e::es) t)(hn:x≠"__name__":=by decide)(Ga:(x==("__debug__":Str))=false:=by decide)(he:starEach (e::es) X.env=(false,eval e X.env)::starEach es X.env:=by rfl)(HX:(backTo pos (starEach es X.env)).any (·.1)=false:=by rfl):PE X (.Call (.Name x p) (e::es) [] pos) (Vi r t):=by
 intro af s σ H Q I h;refine nQ (jP I hg hm hv ?_ hn Ga);exact PyProof.Rows.callWith_builtin1 (eD (ha pos af s σ H _ I h) fun us s1 ⟨vs,H1,I1,r1,q1⟩=>hc af s1 σ H1 vs us Q I1 r1 q1) he HX
theorem cU(hc:gf X (.type T) r)(hg:Gl X x)(hm:X.mg x=none)(hv:bootBuiltins x=some (.type T))(ha:PA X (e::es) t)(hn:x≠"__name__":=by decide)(Ga:(x==("__debug__":Str))=false:=by decide)(he:starEach (e::es) X.env=(false,eval e X.env)::starEach es X.env:=by rfl)(HX:(backTo pos (starEach es X.env)).any (·.1)=false:=by rfl):PE X (.Call (.Name x p) (e::es) [] pos) (Vi r t):=by
 intro af s σ H Q I h;refine nQ (jP I hg hm hv ?_ hn Ga);exact qf (eD (ha pos af s σ H _ I h) fun us s1 ⟨vs,H1,I1,r1,q1⟩=>hc af s1 σ H1 vs us Q I1 r1 q1) he HX
end
end L2
namespace HT
open PySem PyProof.Rows
section
open PySem.SeqAt
open PySem.AutoSeq1 (wpAny_loadPart')
open PySem.MeetsSeq PySem.MeetsSeq2 PySem.MeetsSeq3
end
section
variable {prog:bL} {w:World} {A:br} {E:bV} {s:aR}
def fY(n d:Nat):Option Int->Nat
 |none=>d
 |some v=>if v<0 then (v+(n:Int)).toNat else min v.toNat n
theorem Qw(n d:Nat)(hd:d<=n)(o:lr):fY n d o<=n:=by
 cases o with
 |none=>exact hd
 |some v=>
  show (if v<0 then (v+(n:Int)).toNat else min v.toNat n)<=n;by_cases hv:v<0
  .rw[ap hv];lia
  .rw[ao hv];exact Nat.min_le_right _ _
theorem Ev(v:Int)(n d:Nat):(if v<0 then max (v+(n:Int)) 0 else min v (n:Int))=((fY n d (some v):Nat):Int):=by
 show (if v<0 then max (v+(n:Int)) 0 else min v (n:Int))=(((if v<0 then (v+(n:Int)).toNat else min v.toNat n):Nat):Int);by_cases hv:v<0
 .simp only[ap hv];lia
 .simp only[ao hv];lia
theorem CD(lo hi:lr)(n:Nat):Builtin.Slice.sliceAdjust lo hi 1 (n:Int)=(((fY n 0 lo:Nat):Int),((fY n n hi:Nat):Int)):=by
 have h1:¬ ((1:Int)<0):=by lia
 unfold Builtin.Slice.sliceAdjust;simp only[h1,eG];refine iG ?_ ?_
 .cases lo with
  |none=>rfl
  |some v=>exact Ev v n 0
 .cases hi with
  |none=>rfl
  |some v=>exact Ev v n n
theorem CG(i j:Nat):Builtin.Slice.slicePlaces (i:Int) (j:Int) 1=j-i:=by
 unfold Builtin.Slice.slicePlaces;have h1:(1:Int) > 0:=by lia
 simp only[h1,jM,Int.ediv_one];split <;> lia
theorem uS(p:IsPart v o)(h:Q o s):wpAny (model prog w) A (Builtin.Slice.slicePartIndex v) Q E s:=by
 cases p with
 |none=>exact slicePart_none h
 |int i t=>exact slicePart_int h
theorem j_{sl:Addr}{vl vu:Value}{lo hi:lr}{n:Nat}{Q:Int×Int×Nat->Shared->Prop}(hs:s.heap.IsSliceOf sl vl vu .none)(pl:IsPart vl lo)(pu:IsPart vu hi)(h:Q (((fY n 0 lo:Nat):Int),1,fY n n hi-fY n 0 lo) s):wpAny (model prog w) A (Builtin.Slice.sliceApplied (.ref sl) (pure (n:Int))) Q E s:=by
 obtain⟨os,LU,Ys,LV⟩:=id hs;unfold Builtin.Slice.sliceApplied Builtin.Slice.sliceFields;refine au (au (gc LU LV (x:=vl) rfl (au (gc LU LV (x:=vu) rfl (au (gc LU LV (x:=.none) rfl (wpAny_pure ?_)))))));refine au (slicePart_none ?_);show wpAny _ _ (if ((1:Int)==0)=true then _ else _) _ _ s;rw[ao (by decide)];refine au (uS pl (au (uS pu (au (wpAny_pure ?_)))));show wpAny _ _ (match Builtin.Slice.sliceAdjust lo hi 1 (n:Int) with|(lo,hi)=>pure (lo,(1:Int),Builtin.Slice.slicePlaces lo hi 1)) _ _ s;rw[CD lo hi n];show wpAny _ _ (pure (((fY n 0 lo:Nat):Int),(1:Int),Builtin.Slice.slicePlaces ((fY n 0 lo:Nat):Int) ((fY n n hi:Nat):Int) 1)) _ _ s;rw[CG];exact wpAny_pure h
theorem Jd(xs:bD)(i k:Nat):((List.range k).filterMap fun (m:Nat)=>xs[((i:Int)+(m:Int)*1).toNat]?).toArray=((xs.toList.drop i).take k).toArray:=by
 have e:(fun (m:Nat)=>xs[((i:Int)+(m:Int)*1).toNat]?)=fun m=>xs[i+m]?:=by
  funext m;have:((i:Int)+(m:Int)*1).toNat=i+m:=by lia
  rw[this]
 rw[e];have:=pick_run xs i k;rw[List.filterMap_map] at this;have e2:((fun x=>xs[x]?) ∘ fun x=>i+x)=fun m=>xs[i+m]?:=rfl;rw[e2] at this;rw[this]
theorem pq{t sl:Addr}{items:bD}{vl vu:Value}{lo hi:lr}{Q:bV}(ht:IsTup s.heap t items)(hs:s.heap.IsSliceOf sl vl vu .none)(pl:IsPart vl lo)(pu:IsPart vu hi)(hw:¬ (fY items.size 0 lo=0/\fY items.size items.size hi=items.size))(h:Q (.ref s.heap.objs.size) { s with heap:=s.heap.push { cls:=.type "tuple",data:=.seq ((items.toList.drop (fY items.size 0 lo)).take (fY items.size items.size hi-fY items.size 0 lo)).toArray } })(iC:items.size<=sizeLine):wpAny (model prog w) A (getItem (.ref t) (.ref sl)) Q E s:=by
 have Ew:sizeOk (.seq ((items.toList.drop (fY items.size 0 lo)).take (fY items.size items.size hi-fY items.size 0 lo)).toArray):=by
  show ((items.toList.drop (fY items.size 0 lo)).take (fY items.size items.size hi-fY items.size 0 lo)).toArray.size<=sizeLine;rw[ce,kK,kL,lI];lia
 have hj:fY items.size items.size hi<=items.size:=Qw _ _ (aP _) hi;obtain⟨os,LU,Ys,LV⟩:=id hs;have ZG:s.TypeIs (.ref sl) "slice":=⟨os,LU,Ys⟩
 unfold getItem;try with_reducible refine gK ?_
 first|refine au (wpAny_pure ?_)|skip
 refine au (wpAny_sequenceKey ht.typeIs (by decide) ?_);refine au (oY (name:=Str.ofString "__getitem__") ht.typeIs wf
  (lM wf ht.typeIs entry_tuple_getitem ?_ (args_tuple_getitem _ _)))
 show wpAny _ _ (Builtin.Tuple.tupleItemsOf (.ref t) >>= _) _ _ s;refine au (tupleItemsOf_ ht ?_);refine au (qL ZG ?_);rw[ap (by decide)];refine au (j_ hs pl pu ?_);have Mt:¬ ((((fY items.size 0 lo:Nat):Int)==0&&(1:Int)==1&&(fY items.size items.size hi-fY items.size 0 lo)==items.size)=true):=by
  intro q;rw[gm,gm] at q;have q1:((fY items.size 0 lo:Nat):Int)=0:=eq_of_beq q.1.1;have q2:fY items.size items.size hi-fY items.size 0 lo=items.size:=eq_of_beq q.2;exact hw ⟨by lia,by lia⟩
 show wpAny _ _ (if (((fY items.size 0 lo:Nat):Int)==0&&(1:Int)==1&&(fY items.size items.size hi-fY items.size 0 lo)==items.size)=true then _ else _) _ _ s;rw[ao Mt,Jd];first
  |exact au (m:=Builtin.Tuple.tupleExact _) (kJ (wpAny_pure ⟨_,rfl,wpAny_pure h⟩) Ew)
  |exact au (m:=Builtin.Tuple.tupleExact _) (kJ (au (wpAny_pure (wpAny_pure ⟨_,rfl,wpAny_pure h⟩))) Ew)
  |exact au (au (m:=Builtin.Tuple.tupleExact _) (kJ (wpAny_pure (wpAny_pure ⟨_,rfl,wpAny_pure h⟩)) Ew))
  |exact au (au (m:=Builtin.Tuple.tupleExact _) (kJ (wpAny_pure ⟨_,rfl,wpAny_pure h⟩) Ew))
end
end HT
namespace L2
open PySem PySem.Spec PyProof.Rows
abbrev TO:=St->Hp->(Option Int->Hp->Prop)->Prop
def PO(X:Cx)(e:Option Expr)(t:TO):Prop:=
 ∀ (af:cE) (s:aR) (σ:St) (H:Hp) (Q:Option Int->Hp->Prop),aU X af σ H s->t σ H Q->
  wpAny (model X.prog X.w) X.A (evalPart e X.env) (fun u s'=>∃o H',aU X af σ H' s'/\IsPart u o/\Q o H') X.xe s
def Mu:TO:=fun _ H Q=>Q none H
def Vj(t:TE):TO:=fun σ H Q=>t σ H fun x H1=>∃i,x=.int i/\Q (some i) H1
section
variable {X:Cx} {e:Expr} {te:TE} {lo hi:Option Expr} {tl th:TO} {pos p2:Pos}
theorem pA:PO X none Mu:=by
 intro af s σ H Q I h;rw[evalPart_none];exact wpAny_pure ⟨none,H,I,.none,h⟩
theorem pB(h:PE X e te):PO X (some e) (Vj te):=by
 intro af s σ H Q I hw;rw[evalPart_some];refine eD (h af s σ H _ I hw) fun u s1 ⟨x,H1,I1,r1,q1⟩=>?_;obtain⟨i,rfl,q⟩:=q1;obtain⟨t,rfl⟩:=r1;exact⟨some i,H1,I1,.int i t,q⟩
def Yt(X:Cx)(r:V->Option Int->Option Int->Hp->VK->Prop):Prop:=
 ∀ (af:cE) (s:aR) (σ:St) (H:Hp) (x:V) (v vl vu:Value) (lo hi:lr) (sl:Addr) (Q:VK),aU X af σ H s->bW x v->s.heap.IsSliceOf sl vl vu .none->IsPart vl lo->IsPart vu hi->r x lo hi H Q->
  ∃T id,typeLookup (.type T) "__getitem__"=pure (some (.builtin id))/\s.TypeIs v T/\wpAny (model X.prog X.w) X.A (getItem v (.ref sl)) (EP X af σ Q) X.xe s
def tSl(r:V->Option Int->Option Int->Hp->VK->Prop)(te:TE)(tl th:TO):TE:=fun σ H Q=>te σ H fun x H1=>tl σ H1 fun l H2=>th σ H2 fun u H3=>r x l u H3 Q
theorem l9(hr:Yt X r)(he:PE X e te)(hl:PO X lo tl)(hu:PO X hi th):PE X (.Subscript e (.Slice lo hi none p2) pos) (tSl r te tl th):=by
 intro af s σ H Q I h;refine Subscript_ (eD (he af s σ H _ I h) fun v s1 ⟨x,H1,I1,r1,q1⟩=>?_);refine wpAny_Slice (eD (hl af s1 σ H1 _ I1 q1) fun vl s2 ⟨l,H2,I2,pl,q2⟩=>eD (hu af s2 σ H2 _ I2 q2) fun vu s3 ⟨u,H3,I3,pu,q3⟩=>?_);rw[evalPart_none];refine wpAny_pure ?_;have I4:aU X af σ H3 { s3 with heap:=s3.heap.push { cls:=.type "slice",data:=.fields #[vl,vu,.none] } }:=I3.kept (t':=s3.toks) fun b ob q=>bP _ q;obtain⟨T,id,hT,ht,hg⟩:=hr af { s3 with heap:=s3.heap.push { cls:=.type "slice",data:=.fields #[vl,vu,.none] } } σ H3 x v vl vu l u s3.heap.objs.size Q I4 r1 (Heap.IsSliceOf.new ..) pl pu q3;show wpAny (model X.prog X.w) X.A (subscriptTail e (.Slice lo hi none p2) v (.ref s3.heap.objs.size)) (EP X af σ Q) X.xe { s3 with heap:=s3.heap.push { cls:=.type "slice",data:=.fields #[vl,vu,.none] } };exact tail_any (ops:=[.ref s3.heap.objs.size,v]) ht hT hg (by with_unfolding_all rfl)
def iu(xs:bg)(lo hi:lr):List V:=(xs.drop (HT.fY xs.length 0 lo)).take (HT.fY xs.length xs.length hi-HT.fY xs.length 0 lo)
theorem jt(xs:bg)(lo hi:lr):(iu xs lo hi).length<=xs.length:=by
 unfold iu;rw[kK,kL];lia
def ZH(K:a_):V->Option Int->Option Int->Hp->VK->Prop:=fun x lo hi H Q=>∃a xs,x=.ref a/\cu K H a xs/\
 ¬ (HT.fY xs.length 0 lo=0/\HT.fY xs.length xs.length hi=xs.length)/\∀p,H p=none->Q (.ref p) (upd H p (.tup (iu xs lo hi)))
theorem Qx:Yt X (ZH X.K):=by
 intro af s σ H x v vl vu lo hi sl Q I rx hs pl pu h;obtain⟨a,xs,rfl,hx,hw,q⟩:=h;cases rx;obtain⟨its,r,ht,hz⟩:=I.tuple hx;have e8:its.toArray.size=xs.length:=by rw[ce];exact r.length.symm
 refine⟨"tuple",_,wf.lookup,ht.typeIs,?_⟩;refine HT.pq ht hs pl pu (by rw[e8];exact hw) ?_ (by rw[e8];exact hz);rw[e8];refine⟨.ref s.heap.objs.size,_,I.laid (t':=s.toks) (o:=.tup (iu xs lo hi)) (fun b ob q=>bP _ q) (aP _) ?_,rfl,q _ (I.cY.fresh (aP _))⟩;exact⟨aZ (jt xs lo hi) hz,_,(r.drop (HT.fY xs.length 0 lo)).take (HT.fY xs.length xs.length hi-HT.fY xs.length 0 lo),lZ.new _ _⟩
theorem ba.tI(r:ba xs us):us=[]↔xs=[]:=by
 cases r with
 |nil=>simp
 |cons _ _=>simp
end
def Je(n:Nat)(i:Int):Option Nat:=if 0<=i then (if i<n then some i.toNat else none) else if -(n:Int)<=i then some (i+n).toNat else none
def zS{α:Type}(xs:List α)(i:Int):Option α:=(Je xs.length i).bind fun j=>xs[j]?
theorem xS(h:Je n i=some j):seqIndex? i n=some j/\j<n/\-(n:Int)<=i/\i<n:=by
 unfold Je at h;by_cases h0:0<=i
 .rw[ap h0] at h;by_cases h1:i<n
  .rw[ap h1] at h;have e:i.toNat=j:=cB h;exact⟨by rw[seqIndex_of h0 h1,e],by lia,by lia,h1⟩
  .rw[ao h1] at h;cases h
 .rw[ao h0] at h;by_cases h1:-(n:Int)<=i
  .rw[ap h1] at h;have e:(i+n).toNat=j:=cB h;exact⟨by rw[seqIndex_neg (by lia) h1,e],by lia,h1,by lia⟩
  .rw[ao h1] at h;cases h
theorem Ex(h:zS xs i=some v):∃j,seqIndex? i xs.length=some j/\xs[j]?=some v/\j<xs.length/\-(xs.length:Int)<=i/\i<xs.length:=by
 unfold zS at h;cases e:Je xs.length i with
 |none=>rw[e] at h;cases h
 |some j=>
  rw[e] at h;obtain⟨h1,h2,h3,h4⟩:=xS e;exact⟨j,h1,h,h2,h3,h4⟩
theorem aD{α:Type}{xs:List α}{j:Nat}{v:α}(h:xs[j]?=some v):zS xs (j:Int)=some v:=by
 have hj:j<xs.length:=(eR.mp h).1;have e:Je xs.length (j:Int)=some j:=by
  unfold Je;rw[ap (by lia),ap (by lia)];simp
 unfold zS;rw[e];exact h
theorem zU(xs:List α)(v:α):zS (xs++[v]) (-1)=some v:=by
 have hl:(xs++[v]).length=xs.length+1:=by simp
 have e:Je (xs++[v]).length (-1)=some xs.length:=by
  unfold Je;rw[hl,ao (by decide),ap (by lia)];congr 1;lia
 unfold zS;rw[e];show (xs++[v])[xs.length]?=some v;simp
def Mv(b:Expr):Prop:=∀o i,subscripted b false o i=operate [o,i] (getItem o i)
def ZI(X:Cx)(r:R2):Prop:=
 ∀ (value slice:Expr) (af:cE) (s:aR) (σ:St) (H:Hp) (x y:V) (v u:Value) (Q:VK),aU X af σ H s->bW x v->bW y u->r x y H Q->
  subscripted slice false v u=operate [v,u] (getItem v u)->wpAny (model X.prog X.w) X.A (subscriptTail value slice v u) (EP X af σ Q) X.xe s
def MtR(X:Cx)(id:String)(r:V->List V->Hp->VK->Prop):Prop:=
 ∀ (af:cE) (s:aR) (σ:St) (H:Hp) (x:V) (xs:bg) (v:Value) (us:bw) (Q:VK),aU X af σ H s->bW x v->ba xs us->r x xs H Q->
  wpAny (model X.prog X.w) X.A (call (.builtin id) (v::us)) (EP X af σ Q) X.xe s
section
variable {X:Cx} {a b:Expr} {ta tb:TE} {pos:Pos}
theorem aX(hr:ZI X r)(ha:PE X a ta)(hb:PE X b tb)(hs:Mv b):PE X (.Subscript a b pos) (jR r ta tb):=by
 intro af s σ H Q I h;exact Subscript_ (Qs ha hb I h fun v u s2 x y H2 I2 rx ry q=>hr a b af s2 σ H2 x y v u Q I2 rx ry q (hs _ _))
def sr(K:a_):R2:=fun x y H Q=>∃p xs i v,x=.ref p/\y=.int i/\a8 K H p xs/\zS xs i=some v/\Q v H
def zV(K:a_):R2:=fun x y H Q=>∃p xs i v,x=.ref p/\y=.int i/\cu K H p xs/\zS xs i=some v/\Q v H
theorem aG:ZI X (sr X.K):=by
 intro value slice af s σ H x y v u Q I rx ry h hs;obtain⟨p,xs,i,z,rfl,rfl,hq,he,q⟩:=h;cases rx;obtain⟨t,rfl⟩:=ry;obtain⟨its,r,pl,hz⟩:=I.list hq;obtain⟨j,h1,h2,h3,h4,h5⟩:=Ex he;obtain⟨w,ew,vO⟩:=r.get h2;have hl:=r.length;have hn:=xQ;have d_:EP X af σ Q w s:=⟨z,H,I,vO,q⟩
 by_cases h0:0<=i
 .have hj:i.toNat=j:=by
   rw[seqIndex_of h0 h5] at h1;exact cB h1
  exact item_listR pl.isList h0 (by lia) (by rw[hj];simpa using ew) d_ hs
 .have hj:(i+(its.toArray.size:Int)).toNat=j:=by
   rw[seqIndex_neg (by lia) h4] at h1;rw[ce,<-hl];exact cB h1
  exact subscriptTail_builtinR (x:=w) pl.isList.typeIs slot_list_getitem.lookup
   (wpAny_getItem_list_neg (Q:=fun r s'=>r=w/\EP X af σ Q r s') pl.isList (by lia) (by rw[ce] <;> lia) (by lia) (by rw[hj];simpa using ew) ⟨rfl,d_⟩) hs
theorem eN:ZI X (zV X.K):=by
 intro value slice af s σ H x y v u Q I rx ry h hs;obtain⟨p,xs,i,z,rfl,rfl,hq,he,q⟩:=h;cases rx;obtain⟨t,rfl⟩:=ry;obtain⟨its,r,pl,hz⟩:=I.tuple hq;obtain⟨j,h1,h2,h3,h4,h5⟩:=Ex he;obtain⟨w,ew,vO⟩:=r.get h2;have hl:=r.length;have hn:=xQ;have d_:EP X af σ Q w s:=⟨z,H,I,vO,q⟩
 exact subscriptTail_builtinR (x:=w) pl.typeIs slot_tuple_getitem.lookup
  (getItem_tuple (j:=j) (Q:=fun r s'=>r=w/\EP X af σ Q r s') pl (by lia) (by lia) (by rw[ce,<-hl];exact h1) (by simpa using ew) ⟨rfl,d_⟩) hs
theorem CH(its:bw)(n j:Nat)(u:Value):Obj.mapSeq (·.setIfInBounds j u) { cls:=.type "list",data:=.seq its.toArray n }={ cls:=.type "list",data:=.seq (its.set j u).toArray n }:=by
 simp[Obj.mapSeq]
theorem aU.lst(I:aU X af σ H s)(h:H p=some (.lst xs)):
  ∃ (its:bw) (n:Nat),ba xs its/\s.heap.get? p=some { cls:=.type "list",data:=.seq its.toArray n }/\xs.length<=sizeLine:=by
 obtain⟨z,its,n,r,e⟩:=I.cY p _ h;exact⟨its,n,r,e,z⟩
theorem aU.Qy{af:cE}{σ:St}{H:Hp}{s:aR}{p:Addr}{xs ys:bg}{its its':bw}{n n':Nat}{f:Obj->Obj}(I:aU X af σ H s)(h:H p=some (.lst xs))(ho:s.heap.get? p=some { cls:=.type "list",data:=.seq its.toArray n })(hf:f { cls:=.type "list",data:=.seq its.toArray n }={ cls:=.type "list",data:=.seq its'.toArray n' })(r:ba ys its')(hz:ys.length<=sizeLine)(t:Nat):
  aU X af σ (upd H p (.lst ys)) { s with heap:=s.heap.update p f,toks:=t }:=by
 have e:(s.heap.update p f).get? p=some { cls:=.type "list",data:=.seq its'.toArray n' }:=by
  rw[nL f ho (by rw[hf] <;> rfl),hf]
 refine I.write (x:=p) (e:=p) (by rw[h];trivial) (.inl rfl) (fun b u hb q=>(nI _ _ (dI hb)).trans q) ⟨_,e⟩ ?_;exact⟨hz,its',n',r,e⟩
def Vk:V->V->V->Hp->(Hp->Prop)->Prop:=fun o i v H Q=>∃p xs k j,o=.ref p/\i=.int k/\H p=some (.lst xs)/\Je xs.length k=some j/\Q (upd H p (.lst (xs.set j v)))
theorem dY:U4 X Vk:=by
 intro af s σ H o i v ov iv u Q I ro ri rv h;obtain⟨p,xs,k,j,rfl,rfl,hp,hj,q⟩:=h;cases ro;obtain⟨t,rfl⟩:=ri;obtain⟨its,n,r,ho,hz⟩:=I.lst hp;obtain⟨h1,h2,h3,h4⟩:=xS hj;have hl:=r.length;have hn:=xQ;have I':aU X af σ (upd H p (.lst (xs.set j v))) { s with heap:=s.heap.update p (Obj.mapSeq (·.setIfInBounds j u)) }:=
  I.Qy hp ho (CH its n j u) (r.set rv j) (by rw[ja];exact hz) s.toks
 by_cases h0:0<=k
 .have hk:k.toNat=j:=by
   rw[seqIndex_of h0 h4] at h1;exact cB h1
  exact W.ki_setAt ho h0 (by lia) (by rw[ce,<-hl];exact h4) (by rw[hk];exact⟨_,I',q⟩)
 .have hk:(k+(its.toArray.size:Int)).toNat=j:=by
   rw[seqIndex_neg (by lia) h3] at h1;rw[ce,<-hl];exact cB h1
  exact W.ki_setBack ho (by lia) (by rw[ce,<-hl];exact h3) (by lia) (by rw[hk];exact⟨_,I',q⟩)
theorem xT(lo hi:lr)(n:Nat):(sliceBounds lo hi none n).1=((HT.fY n 0 lo:Nat):Int)/\(sliceBounds lo hi none n).2.1=((HT.fY n n hi:Nat):Int)/\(sliceBounds lo hi none n).2.2=1:=by
 refine⟨?_,?_,rfl⟩
 .cases lo with
  |none=>simp[sliceBounds,HT.fY]
  |some i=>
   simp only[sliceBounds,HT.fY,Option.getD_none,show (1:Int) > 0 by decide,jM];by_cases h:i<0
   .simp only[h,jM] <;> lia
   .simp only[h,eG] <;> lia
 .cases hi with
  |none=>simp[sliceBounds,HT.fY]
  |some i=>
   simp only[sliceBounds,HT.fY,Option.getD_none,show (1:Int) > 0 by decide,jM];by_cases h:i<0
   .simp only[h,jM] <;> lia
   .simp only[h,eG] <;> lia
theorem vR(its:bw)(lo hi:lr):slicePick its.toArray lo hi none=((its.drop (HT.fY its.length 0 lo)).take (HT.fY its.length its.length hi-HT.fY its.length 0 lo)).toArray:=by
 obtain⟨h1,h2,h3⟩:=xT lo hi its.toArray.size;unfold slicePick;rw[h1,h2,h3];simp only[sliceRange_one,pick_run,ce] <;> rfl
def ZJ(K:a_):V->Option Int->Option Int->Hp->VK->Prop:=fun x lo hi H Q=>∃a xs,x=.ref a/\a8 K H a xs/\∀p,H p=none->Q (.ref p) (upd H p (.lst (iu xs lo hi)))
theorem xU:Yt X (ZJ X.K):=by
 intro af s σ H x v vl vu lo hi sl Q I rx hs pl pu h;obtain⟨a,xs,rfl,hx,q⟩:=h;cases rx;obtain⟨its,r,ht,hz⟩:=I.list hx;have e8:=r.length;refine⟨"list",_,slot_list_getitem.lookup,ht.isList.typeIs,?_⟩;refine wpAny_getItem_list_slice ht.isList hs pl pu .none (by simp) ?_ (by rw[ce] <;> lia);rw[vR,<-e8];refine⟨.ref s.heap.objs.size,_,I.laid (t':=s.toks) (o:=.lst (iu xs lo hi)) (fun b ob q=>bP _ q) (aP _) ?_,rfl,q _ (I.cY.fresh (aP _))⟩;exact⟨aZ (jt xs lo hi) hz,_,0,(r.drop (HT.fY xs.length 0 lo)).take (HT.fY xs.length xs.length hi-HT.fY xs.length 0 lo),cX _ rfl⟩
def g7:V->Bool
 |.cI=>true
 |.bl _=>true
 |.int _=>true
 |.str _=>true
 |_=>false
def uT:V->V->Bool
 |.cI,.cI=>true
 |.bl a,.bl b=>a==b
 |.bl a,.int b=>(if a then 1 else 0)==b
 |.int a,.bl b=>a==(if b then 1 else 0)
 |.int a,.int b=>a==b
 |.str a,.str b=>a==b
 |_,_=>false
theorem xV(ry:bW y u)(rx:bW x v)(fy:g7 y=true)(fx:g7 x=true):SeqAt.EqAt A s u v (uT y x):=by
 cases y with
 |cI=>
  cases ry;cases x with
  |cI=>cases rx;exact SeqAt.EqAt.same _
  |bl b=>cases rx;exact SeqAt.EqAt.none_bool b
  |int b=>obtain⟨t,rfl⟩:=rx;exact SeqAt.EqAt.none_int b t
  |str b=>obtain⟨t,rfl⟩:=rx;exact SeqAt.EqAt.none_str b t
  |_=>exact absurd (show false=true from fx) di
 |bl a=>
  cases ry;cases x with
  |cI=>cases rx;exact SeqAt.EqAt.bool_none a
  |bl b=>cases rx;exact SeqAt.EqAt.bool_bool a b
  |int b=>obtain⟨t,rfl⟩:=rx;exact SeqAt.EqAt.bool_int a b t
  |str b=>obtain⟨t,rfl⟩:=rx;exact SeqAt.EqAt.bool_str a b t
  |_=>exact absurd (show false=true from fx) di
 |int a=>
  obtain⟨t',rfl⟩:=ry;cases x with
  |cI=>cases rx;exact SeqAt.EqAt.int_none a t'
  |bl b=>cases rx;exact SeqAt.EqAt.int_bool a t' b
  |int b=>obtain⟨t,rfl⟩:=rx;exact SeqAt.EqAt.int_int a t' b t
  |str b=>obtain⟨t,rfl⟩:=rx;exact SeqAt.EqAt.int_str a t' b t
  |_=>exact absurd (show false=true from fx) di
 |str a=>
  obtain⟨t',rfl⟩:=ry;cases x with
  |cI=>cases rx;exact SeqAt.EqAt.str_none a t'
  |bl b=>cases rx;exact SeqAt.EqAt.str_bool a t' b
  |int b=>obtain⟨t,rfl⟩:=rx;exact SeqAt.EqAt.str_int a t' b t
  |str b=>obtain⟨t,rfl⟩:=rx;exact SeqAt.EqAt.str_str a t' b t
  |_=>exact absurd (show false=true from fx) di
 |_=>exact absurd (show false=true from fy) di
def xW(x:V)(u:Value):Bool:=match u with
 |.none=>uT .cI x
 |.bool b=>uT (.bl b) x
 |.int i _=>uT (.int i) x
 |.str z _=>uT (.str z) x
 |_=>false
theorem Jf(r:bW y u)(f:g7 y=true):xW x u=uT y x:=by
 cases y with
 |cI=>cases r;rfl
 |bl b=>cases r;rfl
 |int i=>obtain⟨t,rfl⟩:=r;rfl
 |str z=>obtain⟨t,rfl⟩:=r;rfl
 |_=>exact absurd (show false=true from f) di
theorem mL:∀ {xs:bg} {us:bw},ba xs us->xs.all g7=true->us.any (xW x)=xs.any fun y=>uT y x
 |_,_,.nil,_=>rfl
 |y::xs,u::us,.cons r t,f=>by
  rw[lU,gm] at f;rw[lT,lT,Jf r f.1,mL t f.2]
theorem kh(rx:bW x v)(fx:g7 x=true):∀ {xs:bg} {us:bw},ba xs us->xs.all g7=true->∀u∈us,SeqAt.EqAt A s u v (xW x u)
 |_,_,.nil,_=>fun u hu=>by cases hu
 |y::xs,u::us,.cons r t,f=>fun u' hu=>by
  rw[lU,gm] at f;rcases bq.mp hu with rfl|hu
  .rw[Jf r f.1];exact xV r rx f.1 fx
  .exact kh rx fx t f.2 u' hu
def LW(x:V)(xs:bg):Bool:=xs.any fun y=>uT y x
def ZK(K:a_)(Qz:Bool):R2:=fun x y H Q=>∃p xs,y=.ref p/\(a8 K H p xs\/cu K H p xs)/\g7 x=true/\xs.all g7=true/\Q (.bl (if Qz then !LW x xs else LW x xs)) H
theorem Gc:nh X (compareOp .In) (ZK X.K false):=by
 intro af s σ H x y v u Q I rx ry h;obtain⟨p,xs,rfl,hq,fx,fs,q⟩:=h;cases ry;rcases hq with hq|hq
 .obtain⟨its,r,pl,hz⟩:=I.list hq;refine SeqAt.in_listAt (xW x) pl.isList (fun w hw=>kh rx fx r fs w (by simpa using hw)) ⟨.bl _,H,I,rfl,?_⟩;rw[show its.toArray.any (xW x)=its.any (xW x) by simp,mL r fs];exact q
 .obtain⟨its,r,pl,hz⟩:=I.tuple hq;refine SeqAt.in_tupleAt (xW x) pl (fun w hw=>kh rx fx r fs w (by simpa using hw)) ⟨.bl _,H,I,rfl,?_⟩;rw[show its.toArray.any (xW x)=its.any (xW x) by simp,mL r fs];exact q
theorem xX:nh X (compareOp .NotIn) (ZK X.K true):=by
 intro af s σ H x y v u Q I rx ry h;obtain⟨p,xs,rfl,hq,fx,fs,q⟩:=h;cases ry;rcases hq with hq|hq
 .obtain⟨its,r,pl,hz⟩:=I.list hq;refine SeqAt.notIn_listAt (xW x) pl.isList (fun w hw=>kh rx fx r fs w (by simpa using hw)) ⟨.bl _,H,I,rfl,?_⟩;rw[show its.toArray.any (xW x)=its.any (xW x) by simp,mL r fs];exact q
 .obtain⟨its,r,pl,hz⟩:=I.tuple hq;refine SeqAt.notIn_tupleAt (xW x) pl (fun w hw=>kh rx fx r fs w (by simpa using hw)) ⟨.bl _,H,I,rfl,?_⟩;rw[show its.toArray.any (xW x)=its.any (xW x) by simp,mL r fs];exact q
theorem aV:gf X (.builtin "len") (fun xs H Q=>∃p ys,xs=[.ref p]/\(a8 X.K H p ys\/cu X.K H p ys)/\Q (.int ys.length) H):=by
 intro af s σ H xs us Q I r h;obtain⟨p,ys,rfl,hq,q⟩:=h;obtain⟨u,rfl,rx⟩:=Es r;cases rx;have hn:=xQ;rcases hq with hq|hq
 .obtain⟨its,r',pl,hz⟩:=I.list hq;have e8:=r'.length;exact Calls.call_len_list pl.isList (by simp only[ce] <;> lia) ⟨.int ys.length,H,I.tok _,⟨s.toks+1,by rw[ce,e8]⟩,q⟩
 .obtain⟨its,r',pl,hz⟩:=I.tuple hq;have e8:=r'.length;exact len_tuple pl (by simp only[ce] <;> lia) ⟨.int ys.length,H,I.tok _,⟨s.toks+1,by rw[ce,e8]⟩,q⟩
theorem xY:gf X (.type "list") (fun xs H Q=>∃p ys,xs=[.ref p]/\(a8 X.K H p ys\/cu X.K H p ys)/\∀l,H l=none->Q (.ref l) (upd H l (.lst ys))):=by
 intro af s σ H xs us Q I r h;obtain⟨p,ys,rfl,hq,q⟩:=h;obtain⟨u,rfl,rx⟩:=Es r;cases rx;have d_:∀ (its:bw),ba ys its->ys.length<=sizeLine->∀ (h':Heap) (c':Nat),(∀b o',s.heap.get? b=some o'->h'.get? b=some o')->
   h'.get? s.heap.objs.size=some { cls:=.type "list",dict:=none,data:=.seq its.toArray c',slots:=#[] }->EP X af σ Q (.ref s.heap.objs.size) { s with heap:=h' }:=fun its r' hz h' c' kp e=>
  ⟨.ref s.heap.objs.size,_,I.laid (t':=s.toks) kp (aP _) (show dB X.prog X.w _ h' _ (.lst ys) from ⟨hz,its,c',r',e⟩),rfl,q _ (I.cY.fresh (aP _))⟩
 rcases hq with hq|hq
 .obtain⟨its,r',pl,hz⟩:=I.list hq;have e8:=r'.length;obtain⟨o,ho,hc,n,hd⟩:=pl.isList;exact call_list_seq p (.inl rfl) ho hc hd (fun h' c' kp e=>d_ its r' hz h' c' kp e) (by simp only[ce] <;> lia)
 .obtain⟨its,r',pl,hz⟩:=I.tuple hq;have e8:=r'.length;obtain⟨o,ho,hc,n,hd⟩:=pl;exact call_list_seq p (.inr rfl) ho hc hd (fun h' c' kp e=>d_ its r' hz h' c' kp e) (by simp only[ce] <;> lia)
theorem fh:gf X (.type "tuple") (fun xs H Q=>∃p ys,xs=[.ref p]/\((a8 X.K H p ys/\∀l,H l=none->Q (.ref l) (upd H l (.tup ys)))\/(cu X.K H p ys/\Q (.ref p) H))):=by
 intro af s σ H xs us Q I r h;obtain⟨p,ys,rfl,h⟩:=h;obtain⟨u,rfl,rx⟩:=Es r;cases rx;rcases h with ⟨hq,q⟩|⟨hq,q⟩
 .obtain⟨its,r',pl,hz⟩:=I.list hq;have e8:=r'.length;refine call_tuple_list pl.isList (fun h' kp=>?_) (by simp only[ce] <;> lia);have I1:aU X af σ H { s with heap:=h' }:=I.kept (t':=s.toks) kp;have I2:aU X af σ (upd H h'.objs.size (.tup ys)) { s with heap:=h'.push { cls:=.type "tuple",data:=.seq its.toArray } }:=
   I1.laid (t':=s.toks) (fun b o e=>bP _ e) (aP _) (show dB X.prog X.w _ _ _ (.tup ys) from ⟨hz,its,r',lZ.new _ _⟩)
  exact⟨.ref h'.objs.size,_,I2,rfl,q _ (I1.cY.fresh (aP _))⟩
 .obtain⟨its,r',pl,hz⟩:=I.tuple hq;exact call_tuple_same pl ⟨.ref p,H,I,rfl,q⟩
def tyV(K:a_)(T:String)(x:V)(H:Hp):Prop:=match x with
 |.str _=>T="str"
 |.int _=>T="int"
 |.ref p=>(T="list"/\∃xs,a8 K H p xs)\/(T="tuple"/\∃o,K.lookup p=some o/\o.cls=.type "tuple"/\o.dict=none)\/
   (T="dict"/\((∃dR,H p=some (.dK dR))\/∃dR,H p=some (.dT dR)))\/(T="set"/\∃S n,H p=some (.set S n))
 |_=>False
theorem QA(I:aU X af σ H s)(r:bW x v)(ty:tyV X.K T x H):
  s.TypeIs v T/\∀a,v=.ref a->∃ob,s.heap.get? a=some ob/\ob.dict=none:=by
 cases x with
 |str z=>
  obtain⟨t,rfl⟩:=r;cases (show T="str" from ty);exact⟨typeIs_str s z t,fun _ e=>nomatch e⟩
 |int i=>
  obtain⟨t,rfl⟩:=r;cases (show T="int" from ty);exact⟨typeIs_int s i t,fun _ e=>nomatch e⟩
 |ref p=>
  cases r;rcases ty with ⟨rfl,xs,hq⟩|⟨rfl,o,hk,hc,hd⟩|⟨rfl,hk⟩|⟨rfl,S,n,hk⟩
  .obtain⟨its,_,pl,_⟩:=I.list hq;refine⟨pl.isList.typeIs,fun a e=>?_⟩;cases e;obtain⟨o,n,e,c,hd,_⟩:=pl;exact⟨o,e,hd⟩
  .refine⟨⟨o,I.o_ p o hk,hc⟩,fun a e=>?_⟩;cases e;exact⟨o,I.o_ _ o hk,hd⟩
  .have z:∃o,s.heap.get? p=some o/\o.ExactDict:=by
    rcases hk with ⟨dR,hk⟩|⟨dR,hk⟩
    .obtain⟨_,_,_,_,o,_,_,e,ex,_⟩:=I.cY p _ hk;exact⟨o,e,ex⟩
    .obtain⟨_,_,_,_,o,_,_,e,ex,_⟩:=I.cY p _ hk;exact⟨o,e,ex⟩
   obtain⟨o,e,ex⟩:=z;refine⟨⟨o,e,ex.1⟩,fun a e2=>?_⟩;cases e2;exact⟨o,e,ex.2.1⟩
  .obtain⟨o,_,_,_,e,ex,_⟩:=I.cY p _ hk;refine⟨⟨o,e,ex.1⟩,fun a e2=>?_⟩;cases e2;exact⟨o,e,ex.2.1⟩
 |_=>exact False.elim ty
def tBM(K:a_)(T:String)(r:V->List V->Hp->VK->Prop)(to:TE)(t:TA):TE:=fun σ H Q=>to σ H fun x H1=>tyV K T x H1/\t σ H1 fun xs H2=>r x xs H2 Q
variable {o e:Expr} {es:gZ} {to:TE} {t:TA} {name:Str} {xR xZ:Pos} {T id:String} {r:V->List V->Hp->VK->Prop}
theorem gQ(pa:PlainAttrs T)(slot:Slot T name id)(hty:typeOf (.builtin id)=pure (.type "method_descriptor"))(hm:MtR X id r)(ho:PE X o to)(ha:PA X (e::es) t)(Vl:attributeBase o name X.env (eval o X.env)=eval o X.env:=by rfl)(ZL:((backTo xZ (starEach (e::es) X.env)).all (fun x=>!x.1)&&(backToKw xZ (keywordEach [] X.env)).all (fun x=>x.1.isSome)
   && decide ((e::es).length+([]:List Keyword).length+(if ([]:List Keyword).isEmpty then 0 else 1)<30))=true:=by rfl)(Vm:(xR.endLine==xZ.line)=true:=by rfl)(hs:starEach (e::es) X.env=(false,eval e X.env)::starEach es X.env:=by rfl)(CJ:(backTo xZ (starEach es X.env)).any (·.1)=false:=by rfl):
  PE X (.Call (.Attribute o name xR) (e::es) [] xZ) (tBM X.K T r to t):=by
 intro af s σ H Q I h;refine wpAny_Call_method_late Vl ZL Vm rfl (eD (ho af s σ H _ I h) fun v s1 ⟨x,H1,I1,r1,ty,q1⟩=>?_);obtain⟨h1,h2⟩:=QA I1 r1 ty;refine⟨T,id,pa,slot,hty,h1,h2,?_⟩;have hA:=ha xZ af s1 σ H1 _ I1 q1;rw[hs] at hA |-;refine Calls.callWith_builtin (by show (false||(backTo xZ (starEach es X.env)).any (·.1))=false;rw[CJ] <;> rfl) (Calls.evalArgs_plain ?_);exact eD hA fun us s2 ⟨vs,H2,I2,r2,q2⟩=>hm af s2 σ H2 x vs v us Q I2 r1 r2 q2
end
def Yu(X:Cx)(id:String)(r:V->List V->Hp->VK->Prop):Prop:=
 ∀ (af:cE) (s:aR) (σ:St) (H:Hp) (x:V) (xs:bg) (v:Value) (us:bw) (Q:VK),aU X af σ H s->bW x v->ba xs us->r x xs H Q->
  wpAny (model X.prog X.w) X.A (call (.builtin id) (v::us)) (EP X af σ Q) X.xe s
theorem ba.one{x:V}{us:bw}(h:ba [x] us):∃u,us=[u]/\bW x u:=by
 cases h with
 |cons r h=>cases h;exact⟨_,rfl,r⟩
theorem ba.two{x y:V}{us:bw}(h:ba [x,y] us):∃u v,us=[u,v]/\bW x u/\bW y v:=by
 cases h with
 |cons r h=>
  cases h with
  |cons q h=>cases h;exact⟨_,_,rfl,r,q⟩
theorem ba.eraseIdx:∀ {xs:bg} {us:bw} (i:Nat),ba xs us->ba (xs.eraseIdx i) (us.eraseIdx i)
 |_,_,_,.nil=>.nil
 |_,_,0,.cons _ t=>t
 |_,_,i+1,.cons r t=>.cons r (ba.eraseIdx i t)
theorem ba.rep(h:ba xs us):∀k:Nat,ba (List.replicate k xs).flatten (List.replicate k us).flatten
 |0=>.nil
 |k+1=>by
  rw[nM,nM,uq,uq];exact ba.append h (ba.rep h k)
theorem wB:∀ (l:List α) (i:Nat),(l.eraseIdx i).length<=l.length
 |[],_=>aP _
 |_::_,0=>xK _
 |_::r,i+1=>xy (wB r i)
theorem wC(its:bw):∀ (k:Nat) (dN:bw),
  List.foldl (fun x1 x2=>x1++x2) dN.toArray (List.replicate k its.toArray)=(dN++(List.replicate k its).flatten).toArray
 |0,dN=>by simp
 |k+1,dN=>by
  have e:dN.toArray++its.toArray=(dN++its).toArray:=by simp
  have e2:(dN++its)++(List.replicate k its).flatten=dN++(List.replicate (k+1) its).flatten:=by
   rw[nM,uq,dP]
  rw[<-e2,<-wC its k (dN++its),<-e,nM,iM]
section
variable {X:Cx} {af:cE} {σ:St} {H:Hp} {s:aR} {l b:Addr} {xs ys zs:bg}
theorem aU.QB{its its':bw}{n:Nat}{f:Array Value->Array Value}{t':Nat}(I:aU X af σ H s)(hH:H l=some (.lst xs))(e:s.heap.get? l=some { cls:=.type "list",data:=.seq its.toArray n })(hf:f its.toArray=its'.toArray)(hv:ba ys its')(hz:ys.length<=sizeLine):
  aU X af σ (upd H l (.lst ys)) { s with heap:=s.heap.update l (Obj.mapSeq f),toks:=t' }:=by
 have q:=PySem.IsL.update e f;rw[hf] at q;refine I.write (x:=l) (e:=l) (by rw[hH];exact trivial) (.inl rfl) (fun b' u hb hu=>(nI s.heap (Obj.mapSeq f) (dI hb)).trans hu) ⟨_,q⟩ ?_;exact⟨hz,its',_,hv,q⟩
theorem aU.QC(I:aU X af σ H s)(hv:ba ys its)(hz:ys.length<=sizeLine):
  aU X af σ (upd H s.heap.objs.size (.lst ys)) { s with heap:=s.heap.push { cls:=.type "list",data:=.seq its.toArray },toks:=t' }:=
 I.laid (fun _ _ q=>bP _ q) (aP _) ⟨hz,its,0,hv,cX _ rfl⟩
theorem aU.fresh(I:aU X af σ H s):H s.heap.objs.size=none:=I.cY.fresh (aP _)
theorem aU.x_(I:aU X af σ H s)(hH:H l=some (.lst xs)):xs.length<=sizeLine/\∃ (its:bw) (n:Nat),ba xs its/\xs.length=its.length/\s.heap.get? l=some { cls:=.type "list",data:=.seq its.toArray n }:=by
 obtain⟨z,its,n,r,e⟩:=I.cY l _ hH;exact⟨z,its,n,r,r.length,e⟩
theorem zW(h:n<=sizeLine):Builtin.List.listTooLong n=false:=by
 unfold Builtin.List.listTooLong;exact gY (by lia)
end
section
variable {X:Cx}
def Mw:V->List V->Hp->VK->Prop:=fun x vs H Q=>∃l xs y,x=.ref l/\vs=[y]/\H l=some (.lst xs)/\xs.length<sizeLine/\Q .cI (upd H l (.lst (xs++[y])))
theorem cV:Yu X "list.append" Mw:=by
 intro af s σ H x vs v us Q I rx rv h;obtain⟨l,xs,y,rfl,rfl,hH,hz,q⟩:=h;cases rx;obtain⟨u,rfl,ru⟩:=rv.one;obtain⟨z,its,n,r,hl,e⟩:=I.x_ hH;refine og F.slot_list_append ⟨_,e,rfl⟩ F.entry_list_append (F.args_list_append_2 _ _) (PySem.list_append l its.toArray n u (by rw[ce];lia)) ⟨e,?_⟩;refine⟨.cI,_,I.QB (its':=its++[u]) hH e (by simp) (r.append (.cons ru .nil)) ?_,rfl,q⟩;rw[dh,lN];lia
def My:V->List V->Hp->VK->Prop:=fun x vs H Q=>∃l b xs zs,x=.ref l/\vs=[.ref b]/\H l=some (.lst xs)/\H b=some (.lst zs)/\xs.length+zs.length<=sizeLine/\Q .cI (upd H l (.lst (xs++zs)))
theorem Gd:Yu X "list.extend" My:=by
 intro af s σ H x vs v us Q I rx rv h;obtain⟨l,b,xs,zs,rfl,rfl,hH,hB,hz,q⟩:=h;cases rx;obtain⟨u,rfl,ru⟩:=rv.one;cases ru;obtain⟨z,its,n,r,hl,e⟩:=I.x_ hH;obtain⟨z2,k9,n2,r2,HY,e2⟩:=I.x_ hB;have iC:its.toArray.size+k9.toArray.size<=sizeLine:=by rw[ce,ce];lia
 have Jg:¬ (!its.toArray.isEmpty&&Builtin.List.listTooLong (its.toArray.size+k9.toArray.size))=true:=by
  rw[zW iC,Bool.and_false];exact di
 refine og F.slot_list_extend ⟨_,e,rfl⟩ F.entry_list_extend (F.args_list_extend_2 _ _)
  (AutoSeq1.list_extend_list_list_0 l its.toArray n b k9.toArray n2 Jg (by rw[ce];lia) (by lia)) ⟨e,e2,?_⟩
 refine⟨.cI,_,I.QB (its':=its++k9) hH e (by simp) (r.append r2) ?_,rfl,q⟩;rw[dh];lia
def Jh:V->List V->Hp->VK->Prop:=fun x vs H Q=>∃l xs i k y,x=.ref l/\vs=[.int i]/\H l=some (.lst xs)/\-(2 ^ 63)<=i/\i<2 ^ 63/\seqIndex? i xs.length=some k/\xs[k]?=some y/\Q y (upd H l (.lst (xs.eraseIdx k)))
theorem zX:Yu X "list.pop" Jh:=by
 intro af s σ H x vs v us Q I rx rv h;obtain⟨l,xs,i,k,y,rfl,rfl,hH,h1,h2,hk,hy,q⟩:=h;cases rx;obtain⟨u,rfl,ru⟩:=rv.one;obtain⟨t,rfl⟩:=ru;obtain⟨z,its,n,r,hl,e⟩:=I.x_ hH;obtain⟨w,hw,vO⟩:=r.get hy;refine og F.slot_list_pop ⟨_,e,rfl⟩ F.entry_list_pop (F.args_list_pop_2 _ _)
  (MeetsSeq.list_pop_at l its.toArray n i t k w (fitsIndex_both h1 h2) (by rw[ce,<-hl];exact hk) (by rw[<-nJ];exact hw) (by rw[ce];lia)) ⟨e,?_⟩
 refine⟨y,_,I.QB (its':=its.eraseIdx k) hH e ?_ (r.eraseIdx k) ?_,vO,q⟩
 .show its.toArray.eraseIdxIfInBounds k=(its.eraseIdx k).toArray;rw[List.eraseIdxIfInBounds_toArray]
 .have:=wB xs k;lia
def Vn:R2:=fun x y H Q=>∃l b xs zs,x=.ref l/\y=.ref b/\H l=some (.lst xs)/\H b=some (.lst zs)/\xs.length+zs.length<=sizeLine/\∀p,H p=none->Q (.ref p) (upd H p (.lst (xs++zs)))
theorem uU:nh X (binaryOp .Add) Vn:=by
 intro af s σ H x y v u Q I rx ry h;obtain⟨l,b,xs,zs,rfl,rfl,hH,hB,hz,q⟩:=h;cases rx;cases ry;obtain⟨z,its,n,r,hl,e⟩:=I.x_ hH;obtain⟨z2,k9,n2,r2,HY,e2⟩:=I.x_ hB;refine PySem.P.add_list e e2 ?_ (by rw[ce,ce];lia);have ea:its.toArray++k9.toArray=(its++k9).toArray:=by simp
 rw[ea];exact⟨.ref _,_,I.QC (t':=s.toks) (r.append r2) (by rw[dh];lia),rfl,q _ I.fresh⟩
def ZM:R2:=fun x y H Q=>∃l k xs,x=.ref l/\y=.int k/\H l=some (.lst xs)/\-(2 ^ 63)<=k/\k<2 ^ 63/\xs.length*k.toNat<=sizeLine/\
 ∀p,H p=none->Q (.ref p) (upd H p (.lst (List.replicate k.toNat xs).flatten))
theorem Mz(xs:List α)(k:Nat):(List.replicate k xs).flatten.length=k*xs.length:=by
 induction k with
 |zero=>simp
 |succ k ih=>rw[nM,uq,dh,ih,Nat.succ_mul,Nat.add_comm]
theorem ya:nh X (binaryOp .Mult) ZM:=by
 intro af s σ H x y v u Q I rx ry h;obtain⟨l,k,xs,rfl,rfl,hH,h1,h2,hz,q⟩:=h;cases rx;obtain⟨t,rfl⟩:=ry;obtain⟨z,its,n,r,hl,e⟩:=I.x_ hH;have e8:its.toArray.size*k.toNat<=sizeLine:=by rw[ce,<-hl];exact hz
 have ZN:¬ its.toArray.size*k.toNat > (2 ^ 63-1) / 8:=by
  have:(sizeLine:Nat)<=(2 ^ 63-1) / 8:=by decide
  lia
 have ZO:¬ (!Builtin.List.listFitsIndex k)=true:=by
  rw[fitsIndex_both h1 h2];exact di
 have Jg:¬ Builtin.List.listTooLong (its.toArray.size*k.toNat)=true:=by
  rw[zW e8];exact di
 have uV:List.foldl (fun x1 x2=>x1++x2) #[] (List.replicate (if its.toArray.isEmpty=true then 0 else k.toNat) its.toArray)=(List.replicate k.toNat its).flatten.toArray:=by
  have f0:∀m:Nat,List.foldl (fun x1 x2=>x1++x2) #[] (List.replicate m its.toArray)=(List.replicate m its).flatten.toArray:=fun m=>by
   have:=wC its m [];rw[List.nil_append] at this;exact this
  rw[f0];cases its with
  |nil=>simp
  |cons a r'=>rw[ao (by simp)]
 refine wpAny_binaryOp_repeat_ref (T:="list") (U:="int") (by decide) ⟨_,e,rfl⟩ (fun s'=>typeIs_int s' k t) noFill_list_mul F.fills_int_mul F.slot_int_rmul repeat_list F.slot_int_index.lookup
  (og F.slot_int_rmul (typeIs_int s k t) F.entry_int_rmul (F.args_int_rmul_2 _ _) (int___rmul___int_list k t l its.toArray n)
   ⟨e,rfl,⟨_,e,rfl⟩,og F.slot_list_mul ⟨_,e,rfl⟩ F.entry_list_mul (F.args_list_mul_2 _ _) (AutoListH.list___mul___list_int_3 l its.toArray n k t ZO ZN Jg) ⟨e,?_⟩⟩)
 rw[uV];exact⟨.ref _,_,I.QC (t':=s.toks) (r.rep k.toNat) (by rw[Mz,Nat.mul_comm];exact hz),rfl,q _ I.fresh⟩
end
section
variable {prog:bL} {w:World} {A:br} {E:bV} {s:aR}
end
section
variable {X:Cx}
end
end L2
namespace Att
open PySem PySem.W PySem.Calls PyProof.Rows
theorem su:∀ (ns:dG) (vs:bw),WellAll P h vs (ns.map WData.int)->IntsAre vs ns:=by
 intro ns;induction ns with
 |nil=>
  intro vs w;rw[List.map_nil] at w;cases w;exact .nil
 |cons n ns ih=>
  intro vs w;rw[gJ] at w;cases w with
  |cons a b=>
   cases a;exact .cons _ _ (ih _ b)
theorem Ge{l:OpenLaw}{n:Nat}(hn:l.most=some n){P:Params}{h:Heap}{args:List WData}{Ji:bw}(MA:l.row.toRowW.claim.pre args=true)(ZP:WellAll P h Ji args):
  ∃a vs ns,Ji=[Value.ref a]/\args=[WData.list (ns.map WData.int)]/\h.get? a=some { cls:=.type "list",data:=.seq vs.toArray }/\IntsAre vs ns/\ns.length<=n:=by
 have hsh:WShape.hasAll [] args [.list .int]=true:=(pre_splitW MA).1;have hc:l.pre.holds [] { args:=args }=true:=(pre_splitW MA).2;obtain⟨d,r,rfl,h1,h2⟩:=hasAllW_cons hsh;obtain rfl:=hasAllW_nil h2;obtain⟨xs,rfl,h3⟩:=hasW_list h1;obtain⟨ns,rfl⟩:=items_int h3;have e8:ns.length<=n:=by
  unfold OpenLaw.pre at hc;have h4:(WTm.not (.lt (.lit (.int (n:Int))) (.len (.arg 0)))).holds [] { args:=[.list (ns.map .int)] }=true:=by
   have h4:=(holds_andW hc).1;rw[hn] at h4;exact h4
  have h5:=condW_of h4 (w_not (w_lt w_lit (w_len_list (w_arg rfl))));rw[aT] at h5;refine Nat.le_of_not_lt fun q=>?_;have q':(n:Int)<((ns.length:Nat):Int):=by lia
  first
   |(rw[iN q'] at h5;exact absurd h5 (by decide))
   |(simp at h5;lia)
 cases ZP with
 |cons w1 w2=>
  cases w2;cases w1 with
  |list ho vS=>exact⟨_,_,ns,rfl,rfl,ho,su ns _ vS,e8⟩
theorem Gf(l:OpenLaw)(args:List WData):l.row.toRowW.claim.post args (.bool true) args=true:=
 postW_of (r:=l.row.toRowW) (X:=(true==true))
  (show WShape.has [] (.bool true) .bool=true by first|rfl|decide|simp[WShape.has,WShape.arms,WShape.armsAll])
  (show (WTm.eq .res (.lit (.bool true))).value [] { args:=args,res:=some (.bool true),after:=args }=some (.bool (true==true)) from w_eq_bool (w_res rfl) w_lit) rfl
theorem zY{l:OpenLaw}{n:Nat}{q:bL}{wD:bQ}{XP:(Str->Option Value)->Heap->Prop}{YP:ID}{d:DefRec}(hn:l.most=some n)(Vo:d.params.defaults=[])(call:∀ (w:World) (s₀ s₁:aR) (mg mb:cr) (fa:Addr) (o:Obj) (pm cd pi:Value) (a:Addr) (vs:bw) (ns:dG),
   Ground q wD [] XP w s₀ mg mb s₁.heap->YP w s₁.heap->
   s₁.heap.get? fa=some o->o.data=.func (docDef d.name d.params d.body d.scope pm cd pi)->s₁.heap.CodeRec cd d.name->mg d.name=some (.ref fa)->
   s₁.heap.get? a=some { cls:=.type "list",data:=.seq vs.toArray }->IntsAre vs ns->ns.length<=n->s₁.gens=#[]->
   codeAny (model l.prog w) callerA (.call (.ref fa) ⟨[.ref a],[]⟩) (fun r s'=>r=.ok (.ret (.bool true))/\OldK s₁.heap s'.heap/\s'.os=s₁.os/\AllBare s'.gens) s₁):
  WalkO q wD XP YP l.row.toRowW d [] (fun f vs=>PySem.call f vs):=by
 intro w s₀ s₁ mg mb G Y fa o pm cd pi dV kV ho hd wr hD Vp hg args Ji as MA acf hrd ZP Uf;obtain rfl:dV=.none:=Dflts.none hD Vo;obtain rfl:kV=.none:=Dflts.noKw hD;obtain⟨a,vs,ns,rfl,rfl,QD,Jj,e8⟩:=Ge hn MA ZP;refine enter_call (qM (call w s₀ s₁ mg mb fa o pm cd pi a vs ns G Y ho (fd_plain hd) wr Vp QD Jj e8 hg) fun r s' hq=>?_);obtain⟨rfl,h2,h3,h4⟩:=hq;exact⟨.inl ⟨.bool true,.bool true,[],rfl,fun _=>rfl,.bool true,Gf l _,fun _=>⟨List.Pairwise.nil,fun _ hm=>(nomatch hm)⟩⟩,h2,h3,h4⟩
section
variable {prog:bL} {w:World} {A:br} {E:bV} {s:aR} {K:Frag}
end
end Att
namespace L2
open PySem PySem.Spec PyProof.Rows
theorem wE:∀ {vs:bw} {ns:dG},IntsAre vs ns->ba (ns.map V.int) vs
 |_,_,.nil=>.nil
 |_,_,.cons n t h=>.cons ⟨t,rfl⟩ (wE h)
def gw(s:Stmt)(j:Nat):Stmt:=match s with
 |.ClassDef _ _ _ body _ _ _ _ _ _ _=>body.getD j (.Pass ⟨0,0,0,0⟩)
 |_=>.Pass ⟨0,0,0,0⟩
def eE(s:Stmt):Arguments:=match s with
 |.FunctionDef _ a _ _ _ _ _ _ _ _=>a
 |_=>{ posonlyargs:=[],args:=[],vararg:=none,kwonlyargs:=[],kw_defaults:=[],kwarg:=none,defaults:=[] }
def cP(s:Stmt):List Stmt:=match s with
 |.FunctionDef _ _ b _ _ _ _ _ _ _=>b
 |_=>[]
def aw(s:Stmt):Scope:=match s with
 |.FunctionDef _ _ _ _ _ _ sc _ _ _=>sc
 |_=>{ kind:=.function,names:=[],isGenerator:=false,isCoroutine:=false }
abbrev bo:Be:=fun _ _ _ _ _ _=>False
abbrev E0:XK:=fun _ _ _=>False
theorem aM:om bo X E0:=fun _ _ _ _ _ _ _ h=>h.elim
structure iH(K:a_)(x qual:Str)(st:Stmt)(f:Addr)(fd:eA):Prop where
 ex:∃ (oc:Value) (od:js) (kV pi pm:Value) (an:js) (fX ct:Value) (Bg:m_),
  fd=W.fnOf x qual (eE st) (cP st) (aw st) .none kV pi pm an fX ct/\K.lookup f=some ⟨oc,od,.func fd,Bg⟩/\W.codeIn K fX qual=true
 kp:W.keepIn K (.ref f)=true
section
variable {P:bL} {w:World} {K:a_} {mg:cr} {base:Heap}
theorem iH.ok{x qual:Str}{st:Stmt}{f:Addr}{fd:eA}{N ps:bQ}{k:Nat}{sp:Sp}(F:iH K x qual st f fd)(S:aN N ps (aw st))(len:∀vs H Q E,sp vs H Q E->vs.length=ps.length)(zR:∀ (fX:Value) (A:br) (outer:j8) (s:aR) (H:Hp) (vs:bg) (Q:VK) (E:XK),df k (A.deeper (envOfC qual (aw st) s.heap.objs.size f fX))->sp vs H Q E->
   ∃t,Ch (l8 bo P w K mg base N qual (aw st) f fX A outer s H E).Bd (cP st) t/\t { nx:=fun _ H'=>Q .cI H',rt:=Q } (start N vs) H):bU P w K mg base bo (k+1) f fd ps sp:=by
 obtain⟨oc,od,kV,pi,pm,an,fX,ct,Bg,rfl,lk,wr⟩:=F.ex;refine O7 lk wr S len fun A outer s H vs Q E hr LR=>?_;obtain⟨t,h,q⟩:=zR fX A outer s H vs Q E hr LR;exact⟨t,h.Bd,q⟩
theorem iH.binds{x qual:Str}{st:Stmt}{f:Addr}{fd:eA}{ps:bQ}(F:iH K x qual st f fd)(h:∀ (kV pi pm:Value) (an:js) (fX ct:Value) (us:bw),us.length=ps.length->bindArgs (W.fnOf x qual (eE st) (cP st) (aw st) .none kV pi pm an fX ct) ⟨us,[]⟩=pure (ps.zip us)):lw K fd ps []:=by
 obtain⟨oc,od,kV,pi,pm,an,fX,ct,Bg,rfl,lk,wr⟩:=F.ex;exact .all (h kV pi pm an fX ct)
theorem uW{x qual:Str}{st:Stmt}{f:Addr}{oc:Value}{od an:js}{Bg:m_}{kV pi pm fX ct:Value}(l:K.lookup f=some ⟨oc,od,.func (W.fnOf x qual (eE st) (cP st) (aw st) .none kV pi pm an fX ct),Bg⟩)(c:W.codeIn K fX qual=true)(k:W.keepIn K (.ref f)=true):iH K x qual st f (W.fnOf x qual (eE st) (cP st) (aw st) .none kV pi pm an fX ct):=⟨⟨oc,od,kV,pi,pm,an,fX,ct,Bg,rfl,l,c⟩,k⟩
section
variable {X:Cx}
theorem pv(i:Nat)(hN:X.N[i]?=some x:=by rfl)(hv:Ua X.env.scope x:=by first|exact Or.inl rfl|exact Or.inr aL|exact Or.inr cW)(hd:(x==("__debug__":Str))=false:=by decide)(wr:(x==("__classdict__":Str))=false:=by decide):PE X (.Name x pos) (bb i):=Qk hN hv hd wr
end
theorem jS{A B:Prop}(h:B):if false=true then A else B:=by
 rw[ao di];exact h
theorem vT{A B:Prop}(h:A):if true=true then A else B:=by
 rw[ap rfl];exact h
theorem gU{c A B:Prop}[Decidable c](h1:c->A)(h2:¬ c->B):if c then A else B:=by
 by_cases h:c
 .rw[ap h];exact h1 h
 .rw[ao h];exact h2 h
def aI(H H':Hp):Prop:=∀b o,H b=some o->H' b=some o
theorem aI.refl(H:Hp):aI H H:=fun _ _ h=>h
theorem aI.trans(a:aI H H1)(b:aI H1 H2):aI H H2:=fun c o h=>b c o (a c o h)
theorem aI.free(e:aI H H')(h:H' l=Option.none):H l=Option.none:=by
 cases q:H l with
 |none=>rfl
 |some o=>
  rw[e l o q] at h;cases h
def Bh(src:bA)(σ:St):St:=src.map fun o=>match o with|some j=>σ.getD j none|none=>none
theorem Ey{src:bA}{σ:St}{i:Nat}{v:V}(h:(Bh src σ)[i]?=some (some v)):∃j,src[i]?=some (some j)/\σ[j]?=some (some v):=by
 unfold Bh at h;rw[cA] at h;cases e:src[i]? with
 |none=>rw[e] at h;cases h
 |some o=>
  rw[e] at h;cases o with
  |none=>cases h
  |some j=>
   refine⟨j,rfl,?_⟩;have h':σ.getD j none=some v:=cB h;rw[cw] at h';cases e2:σ[j]? with
   |none=>rw[e2] at h';cases h'
   |some o=>rw[e2] at h';rw[show o=some v from h']
structure iw(NB:bQ)(src:bA)(scope:Scope)(X:Cx):Prop where
 kind:scope.kind=.function
 nd:NB.Nodup
 len:src.length=NB.length
 cells:∀y∈scope.names,y.2=.cell->scope.names.lookup y.1=some .cell
 names:∀y∈scope.names,y.2=.local->scope.names.lookup y.1=some .local
 free:∀y∈scope.names,y.2=.free->X.env.scope.names.lookup y.1=some .cell\/X.env.scope.names.lookup y.1=some .free
 src:∀ (i:Nat) (x:Str) (j:Nat),NB[i]?=some x->src[i]?=some (some j)->X.N[j]?=some x/\scope.names.lookup x=some .free
def yb(scope:Scope)(x:Str):Bool:=match scope.names.lookup x with
 |some .cell=>true
 |_=>false
theorem zZ:yb scope x=true↔scope.names.lookup x=some .cell:=by
 unfold yb;split
 .rename_i h;exact⟨fun _=>h,fun _=>rfl⟩
 .rename_i h;exact⟨fun z=>(by cases z),fun z=>absurd z h⟩
def Ez(X:Cx)(NB:bQ)(scope:Scope)(cl:iO)(C:Addr)(s₃:aR)(H₃:Hp)(fp:bR):Cx:=
 { X with N:=NB,s₀:=s₃,H₀:=H₃,env:=compEnvC scope cl C X.env,outer:=X.stack,stack:=X.stack,ex:=fp,fn:=yb scope,pn:=[],xe:=fun _ _=>False }
theorem on:∀ (names:wj) (dN:iO),(∀y∈names,y.2=NameKind.free->∃c,env.cells.lookup y.1=some c)->(∀x c,dN.lookup x=some c->env.cells.lookup x=some c)->
  ∃cl,(forIn names dN fun x r=>(if (x.2==NameKind.free)=true then (do let a <- cellOf env x.1;pure (ForInStep.yield ((x.1,a)::r))) else pure (ForInStep.yield r):Sem (ForInStep (List (Str×Addr)))))=(pure cl:Sem (List (Str×Addr)))/\
   (∀x c,cl.lookup x=some c->env.cells.lookup x=some c)/\(∀x c,dN.lookup x=some c->∃c',cl.lookup x=some c')/\∀x,(x,NameKind.free)∈names->∃c,cl.lookup x=some c
 |[],dN,_,ha=>⟨dN,by rw[qH],ha,fun x c h=>⟨c,h⟩,fun x h=>nomatch h⟩
 |(n,k)::r,dN,hf,ha=>by
  by_cases hk:k=NameKind.free
  .subst hk;obtain⟨c,hc⟩:=hf (n,NameKind.free) cK rfl;have QE:∀x c',((n,c)::dN).lookup x=some c'->env.cells.lookup x=some c':=fun x c' h=>by
    rw[gX] at h;cases hx:x==n with
    |true=>
     rw[hx] at h;cases h;have:x=n:=by simpa using hx
     rw[this];exact hc
    |false=>rw[hx] at h;exact ha x c' h
   obtain⟨cl,e1,e2,e3,e4⟩:=on r ((n,c)::dN) (fun y hy=>hf y (dq _ hy)) QE;refine⟨cl,?_,e2,fun x c' h=>?_,fun x h=>?_⟩
   .rw[qF];have ec:cellOf env n=pure c:=by unfold cellOf;rw[hc]
    have e0:(if ((n,NameKind.free).2==NameKind.free)=true then (do let a <- cellOf env (n,NameKind.free).1;pure (ForInStep.yield (((n,NameKind.free).1,a)::dN))) else pure (ForInStep.yield dN):Sem (ForInStep (List (Str×Addr))))=pure (ForInStep.yield ((n,c)::dN)):=by
     rw[ap (show (NameKind.free==NameKind.free)=true by decide)];show cellOf env n >>= _=_;rw[ec];rfl
    rw[e0];exact e1
   .cases hx:x==n with
    |true=>exact e3 x c (by rw[gX,hx])
    |false=>exact e3 x c' (by rw[gX,hx];exact h)
   .rcases bq.mp h with h|h
    .cases h;exact e3 n c (by rw[gX];simp)
    .exact e4 x h
  .obtain⟨cl,e1,e2,e3,e4⟩:=on r dN (fun y hy=>hf y (dq _ hy)) ha;refine⟨cl,?_,e2,e3,fun x h=>?_⟩
   .rw[qF];have hb:(k==NameKind.free)=false:=by simpa using hk
    have e0:(if ((n,k).2==NameKind.free)=true then (do let a <- cellOf env (n,k).1;pure (ForInStep.yield (((n,k).1,a)::dN))) else pure (ForInStep.yield dN):Sem (ForInStep (List (Str×Addr))))=pure (ForInStep.yield dN):=by
     rw[ao (by show ¬ (k==NameKind.free)=true;rw[hb];decide)]
    rw[e0];exact e1
   .rcases bq.mp h with h|h
    .cases h;exact absurd rfl hk
    .exact e4 x h
theorem oo(ok:X.Ok)(S:iw NB src scope X):
  ∃cl,closureFor scope X.env=pure cl/\(∀x c,cl.lookup x=some c->X.env.cells.lookup x=some c)/\∀x,(x,NameKind.free)∈scope.names->∃c,cl.lookup x=some c:=by
 obtain⟨cl,e1,e2,_,e4⟩:=on (env:=X.env) scope.names [] (fun y hy hk=>ok.has y.1 (S.free y hy hk)) (fun x c h=>nomatch h);refine⟨cl,?_,e2,e4⟩;unfold closureFor;simp only[bind_pure];exact e1
theorem yc(h:scope.names.lookup x=some .free):(relabel scope env).names.lookup x=some .cell\/(relabel scope env).names.lookup x=some .free:=by
 have go:∀names:List (Str×NameKind),names.lookup x=some .free->
   (names.map fun (n,k)=>if (k==NameKind.free&&env.scope.kind==.function&&env.kindOf n==some .cell) then (n,NameKind.cell) else (n,k)).lookup x=some .cell\/
   (names.map fun (n,k)=>if (k==NameKind.free&&env.scope.kind==.function&&env.kindOf n==some .cell) then (n,NameKind.cell) else (n,k)).lookup x=some .free:=by
  intro names;induction names with
  |nil=>intro h;simp at h
  |cons y r ih=>
   intro h;obtain⟨n,k⟩:=y;rw[gX] at h;rw[gJ];cases hx:x==n with
   |true=>
    rw[hx] at h;cases h;by_cases hc:(NameKind.free==NameKind.free&&env.scope.kind==.function&&env.kindOf n==some .cell)=true
    .left;show List.lookup x ((if _ then _ else _)::_)=_;rw[ap hc,gX,hx]
    .right;show List.lookup x ((if _ then _ else _)::_)=_;rw[ao hc,gX,hx]
   |false=>
    rw[hx] at h;by_cases hc:(k==NameKind.free&&env.scope.kind==.function&&env.kindOf n==some .cell)=true
    .show List.lookup x ((if _ then _ else _)::_)=_\/List.lookup x ((if _ then _ else _)::_)=_;rw[ap hc,gX,hx];exact ih h
    .show List.lookup x ((if _ then _ else _)::_)=_\/List.lookup x ((if _ then _ else _)::_)=_;rw[ao hc,gX,hx];exact ih h
 exact go scope.names h
theorem pC(h:(relabel scope env).names.lookup x=some k)(hk:k=.cell\/k=.free):(x,NameKind.free)∈scope.names\/(x,NameKind.cell)∈scope.names:=by
 have m:=lH h;obtain⟨⟨n,k'⟩,hm,e⟩:=bB.mp m;by_cases q:(k'==NameKind.free&&env.scope.kind==.function&&env.kindOf n==some .cell)=true
 .have e':(n,NameKind.cell)=(x,k):=by simpa [q] using e
  have k1:k'=NameKind.free:=by
   simp only[gm,gg] at q;exact q.1.1
  cases e';left;rw[<-k1];exact hm
 .have e':(n,k')=(x,k):=by simpa [q] using e
  cases e';rcases hk with z|z
  .subst z;exact .inr hm
  .subst z;exact .inl hm
theorem qV:∀ (names:wj) (h:Heap) (dN:iO) (x:Str) (c:Addr),(cellsFrom h.objs.size names dN).lookup x=some c->dN.lookup x=some c\/(h.objs.size<=c/\(pushCells h names).IsCell c none)
 |[],_,_,_,_,e=>.inl e
 |(name,kind)::r,h,dN,x,c,e=>by
  unfold cellsFrom at e;unfold pushCells;split at e
  .rename_i hk;rw[ap hk];have iC:(h.push { cls:=.type "cell",data:=.cell none }).objs.size=h.objs.size+1:=jb ..;rw[<-iC] at e;rcases qV r _ _ x c e with z|⟨z1,z2⟩
   .rw[gX] at z;cases hx:x==name with
    |true=>
     rw[hx] at z;cases z;exact .inr ⟨aP _,_,pushCells_keeps r _ _ _ (cX _ rfl),rfl⟩
    |false=>rw[hx] at z;exact .inl z
   .exact .inr ⟨by lia,z2⟩
  .rename_i hk;rw[ao hk];exact qV r h dN x c e
theorem wF:∀ (names:wj) (n:Nat) (dN:iO) (x:Str),(x,NameKind.cell)∈names->∃c,n<=c/\(cellsFrom n names dN).lookup x=some c:=by
 have up:∀ (names:wj) (n m:Nat) (dN:iO) (x:Str) (c:Addr),dN.lookup x=some c->m<=c->m<=n->∃c',m<=c'/\(cellsFrom n names dN).lookup x=some c':=by
  intro names;induction names with
  |nil=>intro n m dN x c e h _;exact⟨c,h,e⟩
  |cons y r ih=>
   intro n m dN x c e h hm;obtain⟨name,kind⟩:=y;unfold cellsFrom;split
   .cases hx:x==name with
    |true=>exact ih (n+1) m _ x n (by rw[gX,hx]) hm (by lia)
    |false=>exact ih (n+1) m _ x c (by rw[gX,hx];exact e) h (by lia)
   .exact ih n m dN x c e h hm
 intro names;induction names with
 |nil=>intro n dN x h;cases h
 |cons y r ih=>
  intro n dN x h;obtain⟨name,kind⟩:=y;unfold cellsFrom;rcases bq.mp h with z|z
  .cases z;rw[ap (by decide)];exact up r (n+1) n _ x n (by rw[gX];simp) (aP _) (by lia)
  .split
   .obtain⟨c,h1,h2⟩:=ih (n+1) ((name,n)::dN) x z;exact⟨c,by lia,h2⟩
   .exact ih n dN x z
theorem mN:∀ (names:wj) (n:Nat) (dN:iO) (x:Str) (c:Addr),dN.lookup x=some c->(x,NameKind.cell)∉names->(cellsFrom n names dN).lookup x=some c
 |[],_,_,_,_,e,_=>e
 |(name,kind)::r,n,dN,x,c,e,h=>by
  have hr:(x,NameKind.cell)∉r:=fun z=>h (dq _ z);unfold cellsFrom;split
  .rename_i hk;have qd:(x==name)=false:=by
    cases hx:x==name with
    |false=>rfl
    |true=>
     have e1:x=name:=by simpa using hx
     have e2:kind=.cell:=by simpa using hk
     exact absurd (by rw[e1,e2];exact cK) h
   exact mN r (n+1) _ x c (by rw[gX,qd];exact e) hr
  .exact mN r n dN x c e hr
theorem qW:∀ (names:wj) (n:Nat) (dN:iO),(∀x y c,dN.lookup x=some c->dN.lookup y=some c->x=y)->(∀x c,dN.lookup x=some c->c<n)->∀x y c,(cellsFrom n names dN).lookup x=some c->(cellsFrom n names dN).lookup y=some c->x=y
 |[],_,_,hi,_=>hi
 |(name,kind)::r,n,dN,hi,hl=>by
  unfold cellsFrom;split
  .refine qW r (n+1) _ (fun x y c h1 h2=>?_) (fun x c h=>?_)
   .rw[gX] at h1 h2;cases hx:x==name <;> cases hy:y==name <;> rw[hx] at h1 <;> rw[hy] at h2
    .exact hi x y c h1 h2
    .cases h2;exact absurd (hl x _ h1) (jc _)
    .cases h1;exact absurd (hl y _ h2) (jc _)
    .have e1:x=name:=by simpa using hx
     have e2:y=name:=by simpa using hy
     rw[e1,e2]
   .rw[gX] at h;cases hx:x==name <;> rw[hx] at h
    .exact dH (hl x c h)
    .cases h;exact lL _
  .exact qW r n dN hi hl
section
variable {X:Cx} {af:cE} {σ:St} {H:Hp} {s:aR} {NB:bQ} {src:bA} {scope:Scope} {cl:iO} {fp:bR} {h₁:Heap} {t₁:Nat}
theorem MB(I:aU X af σ H s)(S:iw NB src scope X)(c1:∀x c,cl.lookup x=some c->X.env.cells.lookup x=some c)(c2:∀x,(x,NameKind.free)∈scope.names->∃c,cl.lookup x=some c)(hf:∀b∈fp,hZ X af H b)(QF:∀b∈fp,b<s.heap.objs.size){m:cr}(hn:h₁.Ns s.heap.objs.size m)(hk:∀b o,s.heap.get? b=some o->h₁.get? b=some o)(uV:∀x c,(cellsFrom (s.heap.objs.size+1) scope.names cl).lookup x=some c->cl.lookup x=some c\/(s.heap.objs.size<c/\h₁.IsCell c none)):
  aU (Ez X NB scope (cellsFrom (s.heap.objs.size+1) scope.names cl) s.heap.objs.size s H fp) [] (Bh src σ) H { s with heap:=h₁,toks:=t₁ }:=by
 have Ub:∀b∈HU X.stack,b∈X.env.locals::X.fs:=I.xN;have yd:∀x c,cl.lookup x=some c->∃v,s.heap.IsCell c v:=fun x c e=>I.cell x c (c1 x c e);have ZQ:∀x c,cl.lookup x=some c->c<s.heap.objs.size:=fun x c e=>by obtain⟨v,o,ho,_⟩:=yd x c e;exact aS ho
 refine⟨⟨I.ok.mod,S.kind,I.ok.glob,I.ok.blt,aP _,qW _ _ _ (fun x y c e1 e2=>I.ok.inj x y c (c1 x c e1) (c1 y c e2)) (fun x c e=>dH (ZQ x c e)),fun x hx=>?_,fun x c z e=>?_,I.ok.hd,I.ok.frames,.inl rfl,fun b hb=>⟨?_,fun x c e=>?_⟩,I.bs,aZ I.ok.IL I.sz,fun b o e hb=>?_,fun b hb=>?_,I.stack,I.xO⟩,
  rfl,I.bare,Un.kept hk,⟨m,hn,fun i x v e1 e2 e3=>?_⟩,fun x c e=>?_,I.cY.fresh (aP _),fun x c e=>?_,fun p hp=>absurd (show p∈([]:cE) from hp) (by simp),I.cY.kept hk,?_⟩
 .have CK:(x,NameKind.free)∈scope.names\/(x,NameKind.cell)∈scope.names:=by
   rcases hx with hx|hx
   .exact pC hx (.inl rfl)
   .exact pC hx (.inr rfl)
  by_cases hc:(x,NameKind.cell)∈scope.names
  .obtain⟨c,_,e⟩:=wF scope.names (s.heap.objs.size+1) cl x hc;exact⟨c,e⟩
  .rcases CK with z|z
   .obtain⟨c,e⟩:=c2 x z;exact⟨c,mN _ _ _ _ _ e hc⟩
   .exact absurd z hc
 .have hm:=lH (zZ.mp z);obtain⟨c',h1,h2⟩:=wF scope.names (s.heap.objs.size+1) cl x hm;have e':(cellsFrom (s.heap.objs.size+1) scope.names cl).lookup x=some c:=e;rw[h2] at e';cases e';exact Nat.le_of_succ_le h1
 .exact bf (QF b hb)
 .rcases uV x c e with z|⟨z,_⟩
  .exact(hf b hb).2.2.2.2.1 x c (c1 x c z)
  .exact gO (qI (QF b hb) z)
 .rcases(hf b hb).2.2.2.1 with z|z
  .exact I.ok.IM b o e z
  .exact absurd (bv (aS e) (aZ I.ok.IL z)) (jc _)
 .intro z;rcases bq.mp (Ub b z) with e|e
  .exact(hf b hb).2.1 e
  .exact(hf b hb).2.2.1 e
 .obtain⟨j,hj,hv⟩:=Ey e2;obtain⟨hN,hF⟩:=S.src i x j e1 hj;obtain⟨m0,Jk,QG⟩:=I.loc;have CL:=lH hF;have kx:=S.free _ CL rfl;have U5:Ua X.env.scope x:=by
   rcases kx with z|z
   .exact .inr (.inl z)
   .exact .inr (.inr z)
  obtain⟨u,r,l⟩:=QG j x v hN hv U5;refine⟨u,r,.inr ⟨yc hF,?_⟩⟩;obtain⟨c,hc⟩:=c2 x CL;have hnc:(x,NameKind.cell)∉scope.names:=fun z=>by
   have:=S.cells _ z rfl;rw[hF] at this;cases this
  refine⟨c,mN _ _ _ _ _ hc hnc,?_⟩;rcases l with ⟨LX,_⟩|⟨_,c',e,z⟩
  .have Jl:X.env.scope.names.lookup x=some .local:=LX;rcases kx with z|z <;> (rw[z] at Jl;cases Jl)
  .rw[c1 x c hc] at e;cases e;obtain⟨o,ho,hd⟩:=z;exact⟨o,hk _ _ ho,hd⟩
 .rcases uV x c e with z|⟨_,z⟩
  .obtain⟨v,o,ho,hd⟩:=yd x c z;exact⟨v,o,hk _ _ ho,hd⟩
  .exact⟨none,z⟩
 .rcases uV x c e with z|⟨z,_⟩
  .exact I.l3 x c (c1 x c z)
  .exact I.cY.fresh (kW z)
 .show (Bh src σ).length=NB.length;unfold Bh;rw[aT];exact S.len
theorem aU.Vq(I:aU X af σ H s)(J:aU (Ez X NB scope cl C s H fp) [] σB H' s')(hf:∀b∈fp,hZ X af H b):aU X af σ H' s':=by
 refine I.O0 (ch:=fp) J.os J.base J.cY J.bare fun b hb=>?_;obtain⟨_,f1,_,f3,f4,f5⟩:=hf b hb;exact⟨f3,f1,f4,f5⟩
end
def Ug(X:Cx)(EA:gZ)(t:TT):Prop:=
 ∀ (af:cE) (s:aR) (σ:St) (H:Hp) (Q:Eg),aU X af σ H s->t σ H Q->
  wpAny (model X.prog X.w) X.A (forIn EA true fun c r=>if r=true then do let ok <- isTrue c X.env (eval c X.env);pure (ForInStep.yield ok) else pure (ForInStep.yield r)) (TP X af σ Q) X.xe s
def QH:TT:=fun _ H Q=>Q true H
theorem dC:Ug X [] QH:=fun _ _ _ H _ I h=>wpAny_tests_nil ⟨H,I,h⟩
theorem g8(h:PT X c t):Ug X [c] t:=fun af s σ H Q I q=>wpAny_tests_one (h af s σ H Q I q)
def ix(J:It)(g:TG)(tt:TT)(te:TE)(D:Addr)(d_:rL)(σB:St)(H1:Hp):Prop:=
 ∃W:Nat->Nat->St->Hp->Prop,(∃m,W 0 m σB H1)/\∀i m σ H,W i m σ H->(J.stop i H/\d_ H)\/(J.go i H/\∀x H',J.Uc i H x H'->g x σ H' fun σ2 H2=>tt σ2 H2 fun b H3=>
  if b=true then te σ2 H3 fun v H4=>∃ys,H4 D=some (.lst ys)/\ys.length<sizeLine/\∃m',m'<m/\W (i+1) m' σ2 (upd H4 D (.lst (ys++[v]))) else ∃m',m'<m/\W (i+1) m' σ2 H3)
theorem Gg(hx:B.xe=fun _ _=>False)(hc:B.calm=true)(T:zJ B.prog B.w B.K tg J fp it tn)(hg:PG B tg g)(ht:Ug B EA tt)(he:PE B HZ te)(I:aU B [] σB H1 s)(st:tn 0 s.heap)(hf:∀b∈fp,hZ B [] H1 b)(hw:ix J g tt te D d_ σB H1)(hR:∀σ' H' s',aU B [] σ' H' s'->d_ H'->R (.ok .next) s'):
  codeAny (model B.prog B.w) B.A (.compLoop (.ListComp HZ [⟨tg,lB,EA,0⟩] scope pos) 0 (.ref it) (.ref D) B.env) R s:=by
 obtain⟨W,⟨m0,w0⟩,IS⟩:=hw;have Cp:∀ {H':Hp},(∀b∈fp,H' b=none)->∀b∈fp,hZ B [] H' b:=fun hn b hb=>⟨hn b hb,(hf b hb).2⟩
 refine codeAny_loop rfl (fun n s'=>∃i σ' H',aU B [] σ' H' s'/\tn i s'.heap/\(∀b∈fp,H' b=none)/\W i n σ' H') ?_ m0 ⟨0,σB,H1,I,st,fun b hb=>(hf b hb).1,w0⟩;rintro n s3 ⟨i,σ3,H3,I3,jp,LP,w3⟩;show wpAny _ B.A ((compTurn (.ListComp HZ [⟨tg,lB,EA,0⟩] scope pos) 0 (.ref it) (.ref D) B.env).onRaise (fun x=>do noteFrame x B.env;theTreesLotGoes x)) _ _ s3;refine wpAny_noted ?_;rw[compTurn_list];have nx:∀ {α:Type} {t:Sem α} {Q:α->Shared->Prop} {E':bV} {s:aR},wpAny (model B.prog B.w) B.A t Q B.xe s->wpAny (model B.prog B.w) B.A t Q E' s:=fun h=>
  jK h (fun _ _ q=>q) fun _ _ z=>by rw[hx] at z;exact z.elim
 rcases IS i n σ3 H3 w3 with ⟨stop,qn⟩|⟨go,step⟩
 .refine au (n9 (au (eD (T.done B rfl rfl rfl hc i [] s3 σ3 H3 _ I3 (Cp LP) jp stop) fun r s4 ⟨hr,I4⟩=>?_)));subst hr;exact wpAny_pure (hR σ3 H3 s4 I4 qn)
 .refine au (n9 (au (eD (T.item B rfl rfl rfl hc i [] s3 σ3 H3 _ I3 (Cp LP) jp go) fun r s4 ⟨u,hr,h4⟩=>?_)));subst hr;refine au (eD h4 fun _ s5 ⟨x,H5,I5,r5,y5,zi,Qr⟩=>?_);have Zz:=I5.pinned (Cp Qr) (T.obj _ _ zi);refine au (nx (eD (hg _ s5 σ3 H5 x u _ Zz r5 (step x H5 y5)) fun _ s6 ⟨σ6,H6,I6,q6⟩=>?_));have back:∀ {σ7:St} {H7:Hp} {s7:aR} {m':Nat},aU B ([]++uO fp s5.heap) σ7 H7 s7->m'<n->W (i+1) m' σ7 H7->∃m,m<n/\∃i σ' H',aU B [] σ' H' s7/\tn i s7.heap/\(∀b∈fp,H' b=none)/\W i m σ' H':=fun {σ7 H7 s7 m'} I7 hm w7=>by
   refine⟨m',hm,i+1,σ7,H7,I7.pc,T.keep _ _ _ zi fun b hb o e=>(I7.pin (b,o) (e_ _ (e_ _ (k4 hb e)))).1,fun b hb=>?_,w7⟩;obtain⟨o,e,d⟩:=T.obj _ _ zi b hb;exact(I7.pin (b,o) (e_ _ (e_ _ (k4 hb e)))).2.1
  refine au (nx (eD (ht _ s6 σ6 H6 _ I6 q6) fun ok s7 ⟨H7,I7,q7⟩=>?_));cases ok with
  |false=>
   rw[ao di] at q7;obtain⟨m',hm,w7⟩:=q7;exact wpAny_pure ⟨rfl,back I7 hm w7⟩
  |true=>
   rw[ap rfl] at q7;refine au (au (nx (eD (he _ s7 σ6 H7 _ I7 q7) fun v s8 ⟨y,H8,I8,r8,ys,hD,hl,m',hm,w8⟩=>?_)));refine au (nx (eD (cV _ s8 σ6 H8 (.ref D) [y] (.ref D) [v] (fun _ H9=>H9=upd H8 D (.lst (ys++[y]))) I8 rfl (.cons r8 .nil) ⟨D,ys,y,rfl,rfl,hD,hl,rfl⟩) fun _ s9 ⟨_,H9,I9,_,e9⟩=>?_));subst e9;exact wpAny_pure (wpAny_pure ⟨rfl,back I9 hm w8⟩)
theorem ye(hQ:Q { scope:=scope,locals:=s.heap.objs.size,globals:=globals,cells:=cellsFrom (s.heap.objs.size+1) scope.names cl,qual:=qual,func:=none,code:=outer.code,frame:=outer.frame,builtins:=outer.builtins }
   { s with heap:=pushCells (s.heap.push { cls:=.type "dict",data:=.dict #[] }) scope.names }):
  wpAny M A (newFunctionEnv scope globals cl [] qual none .none (some outer)) Q E s:=by
 simp only[newFunctionEnv,Option.isSome_some,jM];refine au (wpAny_alloc ?_);refine au (wpAny_layCells _ (fun name kind cells=>by cases hkc:kind==NameKind.cell <;> simp[hkc]) _ _ _ _ ?_);rw[show ({ s with heap:=s.heap.push { cls:=.type "dict",data:=.dict #[] } }:aR).heap.objs.size=s.heap.objs.size+1 from jb ..];refine au ?_;rw[qH];exact wpAny_pure (wpAny_pure hQ)
section
variable {X:Cx} {HZ tg lB:Expr} {EA:gZ} {scope:Scope} {pos:Pos} {wi:TI} {g:TG} {tt:TT} {te:TE} {NB:bQ} {src:bA}
def Jm(src:bA)(wi:TI)(g:TG)(tt:TT)(te:TE):TE:=fun σ H Q=>wi σ H fun J H1=>∀D,H1 D=none->ix J g tt te D (fun H'=>Q (.ref D) H') (Bh src σ) (upd H1 D (.lst []))
theorem uX{af:cE}{σ:St}{H2:Hp}{s2:aR}{J:It}{fp:bR}{it:Addr}{tn:IC}{cl:iO}{d_:Addr->Hp->Prop}{E':bV}{RR:Value->Addr->Result->Shared->Prop}(S:iw NB src scope X)(hc:X.calm=true)(c1:∀x c,cl.lookup x=some c->X.env.cells.lookup x=some c)(c2:∀x,(x,NameKind.free)∈scope.names->∃c,cl.lookup x=some c)(hg:∀cl C s₃ H₃ fp,PG (Ez X NB scope cl C s₃ H₃ fp) tg g)(ht:∀cl C s₃ H₃ fp,Ug (Ez X NB scope cl C s₃ H₃ fp) EA tt)(he:∀cl C s₃ H₃ fp,PE (Ez X NB scope cl C s₃ H₃ fp) HZ te)(I2:aU X af σ H2 s2)(T:zJ X.prog X.w X.K tg J fp it tn)(lC:tn 0 s2.heap)(f2:∀b∈fp,hZ X af H2 b)(hw:∀D,H2 D=none->ix J g tt te D (d_ D) (Bh src σ) (upd H2 D (.lst [])))(hR:∀D C H' s',hZ X af H' C->aU X af σ H' s'->(∃m,s'.heap.Ns C m)->d_ D H'->RR (.ref D) C (.ok .next) s'):
  wpAny (model X.prog X.w) X.A (newList []) (fun dN s₃=>wpAny (model X.prog X.w) X.A (newFunctionEnv scope X.env.globals cl [] X.env.qual none .none (some X.env)) (fun Vr s₄=>
   codeAny (model X.prog X.w) X.A (.compStart (.ListComp HZ [⟨tg,lB,EA,0⟩] scope pos) 0 (.ref it) dN { Vr with scope:=relabel scope X.env }) (RR dN Vr.locals) s₄) E' s₃) E' s2:=by
 refine kJ (ye ?_);have I3:=I2.QC (ys:=[]) (its:=[]) (t':=s2.toks) .nil (cp _);have hD:H2 s2.heap.objs.size=none:=I2.fresh;have fo:∀b∈fp,b<s2.heap.objs.size:=fun b hb=>by obtain⟨o,e,_⟩:=T.obj _ _ lC b hb;exact aS e
 have up:∀ {b:Addr},b∈fp->upd H2 s2.heap.objs.size (.lst []) b=H2 b:=fun {b} hb=>aq (bf (fo b hb));have f3:∀b∈fp,hZ X af (upd H2 s2.heap.objs.size (.lst [])) b:=fun b hb=>⟨by rw[up hb];exact(f2 b hb).1,(f2 b hb).2⟩
 have iC:(s2.heap.push { cls:=.type "list",data:=.seq ([]:bw).toArray }).objs.size=s2.heap.objs.size+1:=by rw[jb]
 generalize QI:({ s2 with heap:=s2.heap.push { cls:=.type "list",data:=.seq ([]:bw).toArray } }:aR)=s3 at I3 |-;have hh3:s3.heap=s2.heap.push { cls:=.type "list",data:=.seq ([]:bw).toArray }:=by rw[<-QI]
 have fo3:∀b∈fp,b<s3.heap.objs.size:=fun b hb=>by rw[hh3,iC];exact dH (fo b hb)
 have Vs:(s3.heap.push { cls:=.type "dict",data:=.dict #[] }).objs.size=s3.heap.objs.size+1:=jb ..;have uV:∀x c,(cellsFrom (s3.heap.objs.size+1) scope.names cl).lookup x=some c->cl.lookup x=some c\/(s3.heap.objs.size<c/\(pushCells (s3.heap.push { cls:=.type "dict",data:=.dict #[] }) scope.names).IsCell c none):=fun x c e=>by
  rw[<-Vs] at e;rcases qV _ _ _ _ _ e with z|⟨z1,z2⟩
  .exact .inl z
  .exact .inr ⟨by rw[Vs] at z1;exact z1,z2⟩
 have Vt:=(Heap.Ns.new s3.heap (.type "dict")).keeps (pushCells_keeps scope.names _);have keep:∀b o,s3.heap.get? b=some o->(pushCells (s3.heap.push { cls:=.type "dict",data:=.dict #[] }) scope.names).get? b=some o:=fun b o e=>pushCells_keeps _ _ b o (bP _ e);generalize hh1:pushCells (s3.heap.push { cls:=.type "dict",data:=.dict #[] }) scope.names=h₁ at uV Vt keep |-;have IB:aU (Ez X NB scope (cellsFrom (s3.heap.objs.size+1) scope.names cl) s3.heap.objs.size s3 (upd H2 s2.heap.objs.size (.lst [])) fp) [] (Bh src σ) (upd H2 s2.heap.objs.size (.lst [])) { s3 with heap:=h₁,toks:=s3.toks }:=
  MB I3 S c1 c2 f3 fo3 Vt keep uV
 have stB:tn 0 h₁:=T.keep 0 s2.heap h₁ lC fun b hb o e=>keep b o (by rw[hh3];exact bP _ e);have fB:∀b∈fp,hZ (Ez X NB scope (cellsFrom (s3.heap.objs.size+1) scope.names cl) s3.heap.objs.size s3 (upd H2 s2.heap.objs.size (.lst [])) fp) [] (upd H2 s2.heap.objs.size (.lst [])) b:=fun b hb=>by
  refine⟨(f3 b hb).1,bf (fo3 b hb),fun z=>?_,.inl hb,fun x c e=>(IB.ok.Zh b hb).2 x c e,fun p hp=>absurd (show p∈([]:cE) from hp) (by simp)⟩;rcases bq.mp (I3.xN b z) with e|e
  .exact(f3 b hb).2.1 e
  .exact(f3 b hb).2.2.1 e
 have loop:codeAny (model X.prog X.w) X.A (.compLoop (.ListComp HZ [⟨tg,lB,EA,0⟩] scope pos) 0 (.ref it) (.ref s2.heap.objs.size) (compEnvC scope (cellsFrom (s3.heap.objs.size+1) scope.names cl) s3.heap.objs.size X.env)) (RR (.ref s2.heap.objs.size) s3.heap.objs.size)
   { s3 with heap:=h₁,toks:=s3.toks }:=by
  refine Gg (B:=Ez X NB scope (cellsFrom (s3.heap.objs.size+1) scope.names cl) s3.heap.objs.size s3 (upd H2 s2.heap.objs.size (.lst [])) fp) rfl hc T (hg _ _ _ _ _) (ht _ _ _ _ _) (he _ _ _ _ _) IB stB fB (hw _ hD) fun σ' H' s' J' q=>?_;obtain⟨m,hm,_⟩:=J'.loc;exact hR _ _ H' s' (I3.zI (aP _) J'.free) (I3.Vq J' f3) ⟨m,hm⟩ q
 exact codeAny_compStart_list loop (T.self _ 0 _ _ _ stB loop)
theorem cQ(S:iw NB src scope X)(hc:X.calm=true)(hi:PI X tg lB wi)(hg:∀cl C s₃ H₃ fp,PG (Ez X NB scope cl C s₃ H₃ fp) tg g)(ht:∀cl C s₃ H₃ fp,Ug (Ez X NB scope cl C s₃ H₃ fp) EA tt)(he:∀cl C s₃ H₃ fp,PE (Ez X NB scope cl C s₃ H₃ fp) HZ te)(hs:∀x,foldedSetIterable lB X.env x=pure x:=by intro _;rfl):PE X (.ListComp HZ [⟨tg,lB,EA,0⟩] scope pos) (Jm src wi g tt te):=by
 intro af s σ H Q I h;obtain⟨cl,H_,c1,c2⟩:=oo I.ok S;rw[eval_ListComp];refine wpAny_comprehension_free (use:=none) (cl:=cl) rfl hs H_ S.kind S.names (eD (hi af s σ H _ I h) fun v s1 h1=>eD h1 fun Yr s2 h2=>?_);obtain⟨it,fp,tn,J,H2,e,I2,T,lC,f2,hw⟩:=h2;subst e;refine uX (RR:=fun dN C=>compPost (model X.prog X.w) X.A X.xe none (EP X af σ Q) dN C) S hc c1 c2 hg ht he I2 T lC f2 hw fun D C H' s' fC I' hm q=>?_;obtain⟨m,hm⟩:=hm;refine⟨m,hm,fun h' sb=>⟨.ref D,H',?_,rfl,q⟩⟩;obtain⟨g0,g1,_,g3,g4,g5⟩:=fC;exact I'.turned (t':=s'.toks) (fun b o hb e=>(sb.2 b hb).trans e) g0 g1 g3 g4 g5
theorem fE{i:Nat}{y:Str}{py Vu:Pos}(S:iw NB src scope X)(hc:X.calm=true)(hi:PI X tg lB wi)(hg:∀cl C s₃ H₃ fp,PG (Ez X NB scope cl C s₃ H₃ fp) tg g)(ht:∀cl C s₃ H₃ fp,Ug (Ez X NB scope cl C s₃ H₃ fp) EA tt)(he:∀cl C s₃ H₃ fp,PE (Ez X NB scope cl C s₃ H₃ fp) HZ te)(hN:X.N.Nodup)(hix:X.N[i]?=some y)(hy:X.env.scope.names.lookup y=some .local)(hsw:swapsWith (.ListComp HZ [⟨tg,lB,EA,0⟩] scope pos) (some (.Name y py)) Vu.line X.env=pure true)(hs:∀x,foldedSetIterable lB X.env x=pure x:=by intro _;rfl):
  PS X (.Assign [.Name y py] (.ListComp HZ [⟨tg,lB,EA,0⟩] scope pos) Vu) (Qo (Jm src wi g tt te) (bH i)):=by
 intro af s σ H D0 I h;obtain⟨cl,H_,c1,c2⟩:=oo I.ok S;rw[exec_Assign_Name_used _ _ _ _ hsw];refine au (n9 (au ?_));show wpAny _ X.A (do let _ <- comprehension (.ListComp HZ [⟨tg,lB,EA,0⟩] scope pos) scope X.env _ (newList []) false (eval lB X.env) (some (assign (.Name y py) X.env))) _ _ s;refine au (jK (wpAny_comprehension_free (use:=some (assign (.Name y py) X.env)) (Q:=fun _ s'=>SP X af D0 .next s') (cl:=cl) rfl hs H_ S.kind S.names
  (eD (hi af s σ H _ I h) fun v s1 h1=>eD h1 fun Yr s2 h2=>?_)) (fun _ s' hq=>wpAny_pure (wpAny_pure hq)) fun _ _ e=>e)
 obtain⟨it,fp,tn,J,H2,e,I2,T,lC,f2,hw⟩:=h2;subst e;refine uX (RR:=fun dN C=>compPost (model X.prog X.w) X.A X.xe (some (assign (.Name y py) X.env)) (fun _ s'=>SP X af D0 .next s') dN C) S hc c1 c2 hg ht he I2 T lC f2 hw fun D C H' s' fC I' hm q=>?_;obtain⟨m,hm⟩:=hm;obtain⟨g0,g1,_,g3,g4,g5⟩:=fC;show wpAny _ X.A (assign (.Name y py) X.env (.ref D)) _ _ _;refine wpAny_assign_Name (wo I' hN hix (.inl hy) (v:=.ref D) rfl (fun LQ I'' sb=>?_) (.inr hy));obtain⟨a,sb,ha⟩:=sb;have qd:C≠a:=by
  rcases ha with z|z
  .rw[z];exact g1
  .exact fun z'=>g4 y a z z'.symm
 refine⟨m,hm.sameBut sb qd,fun h' sb'=>⟨_,H',I''.turned (t':=LQ.toks) (fun b o hb e=>(sb'.2 b hb).trans e) g0 g1 g3 g4 g5,q⟩⟩
end
section
variable {P:bL} {w:World} {K:a_} {mg:cr} {base:Heap} {N:bQ} {qual:Str} {scope:Scope} {f:Addr} {cd:Value} {A:br} {outer:j8} {s:aR} {H:Hp} {E:XK}
end
open PySem.W
abbrev bmV:List Value:=[.type "ValueError",.type "Exception",.type "BaseException",.type "object"]
structure Gh(K:a_)(C:Addr):Prop where
 ex:W.excIn K C bmV "ValueError.__new__"=true
 kp:W.keepIn K (.ref C)=true
 ga:W.findIn K (.ref C) "__getattribute__"=some (some (.builtin "BaseException.__getattribute__"))
 gt:W.findIn K (.ref C) "__getattr__"=some none
 cl:W.findIn K (.ref C) "__class__"=some (some (.builtin "object.__class__"))
 mo:W.mroIn K C (.type "object")=some true
 mb:W.mroIn K C (.type "BaseException")=some true
 ty:(W.clsIn K C).isSome=true
def Yv(p:Addr)(C:Value)(h:Heap):Prop:=∃o,h.get? p=some o/\o.cls=C
abbrev ZR(p:Addr)(C:Value):HO:=.ext (Yv p C)
theorem dB.get(x:dB Pzz w H h a o):∃u,h.get? a=some u:=by
 cases o with
 |lst xs=>obtain⟨_,_,_,_,e⟩:=x;exact⟨_,e⟩
 |tup xs=>obtain⟨_,_,_,ob,e,_⟩:=x;exact⟨_,e⟩
 |dK dR=>obtain⟨_,_,_,_,o,_,_,e,_⟩:=x;exact⟨_,e⟩
 |dT dR=>obtain⟨_,_,_,_,o,_,_,e,_⟩:=x;exact⟨_,e⟩
 |set S n=>obtain⟨o,_,_,_,e,_⟩:=x;exact⟨_,e⟩
 |ins C dx fs=>obtain⟨_,_,_,e,_⟩:=x;exact⟨_,e⟩
 |own y=>exact x
 |xd fs=>obtain⟨_,⟨_,_,_,e,_⟩,_⟩:=x;exact⟨_,e⟩
 |Ef lo hi=>obtain⟨_,_,_,e⟩:=x;exact⟨_,e⟩
 |zh ob u=>obtain⟨e,_⟩:=x;exact⟨_,e⟩
 |jo ps=>exact⟨_,(show h.get? a=some _ from x)⟩
 |met f y=>exact⟨_,(show h.get? a=some _ from x)⟩
 |ext φ=>exact x.2.1
theorem oh.uY(x:oh Pzz w H h)(e:h.get? a=none):H a=none:=by
 cases q:H a with
 |none=>rfl
 |some u=>obtain⟨o,z⟩:=(x a u q).get;rw[e] at z;cases z
theorem aU.z4(I:aU X af σ H s)(k:∀b u,s.heap.get? b=some u->h'.get? b=some u)(hp:s.heap.get? a=none)(new:dB X.prog X.w (upd H a o) h' a o):
  aU X af σ (upd H a o) { s with heap:=h',toks:=t' }:=by
 have hn:=I.cY.uY hp;have ne:∀b u,s.heap.get? b=some u->b≠a:=fun b u e z=>by rw[z,hp] at e;cases e
 refine I.un ⟨fun b u e _ _ _=>k b u e,fun b u e _ _ _=>⟨u.slots,k b u e⟩,fun b u e n _=>by rw[aq (ne b u e)];exact n,fun b u e _=>⟨u,k b u e⟩,fun b xs e=>by rw[aq (am e hn)];exact e,fun b u v e=>by rw[aq (am e hn)];exact e,fun b ps e=>⟨#[],by rw[aq (am e hn),e];simp⟩⟩ fun b u e=>?_;by_cases hb:b=a
 .subst hb;rw[ae] at e;cases e;exact new
 .rw[aq hb] at e;exact(I.cY b u e).jO (fun c v _ q=>k c v q) (fun c q=>by rw[aq (am q hn)];exact q) fun c xs q=>by rw[aq (am q hn)];exact q
section
variable {prog:bL} {w:World} {A:br} {E:bV} {s:aR} {K:a_} {x C:Addr} {ox:Obj}
theorem EB(hx:h.get? x=some ox)(hc:ox.cls=.ref C):W.Looks M h (typeOf (.ref x)) (.ref C):=hc ▸ (W.Looks.ld hx).andThen .now
open Builtin Builtin.ObjectAttr Builtin.Getset_descriptor in
theorem CM(X:K.In s.heap)(hx:s.heap.get? x=some ox)(hc:ox.cls=.ref C)(hm:W.mroIn K C (.type "object")=some true)(h:R (.ok (.ret (.ref C))) s):codeAny (model prog w) A (.call (.builtin "getset_descriptor.__get__") ⟨[.builtin "object.__class__",.ref x,tp],[]⟩) R s:=by
 obtain⟨hh,g,dr,t,os⟩:=s;have L0:=EB (M:=model prog w) hx hc;have L1:=looks_mroIn (M:=model prog w) X hm;refine xu KF.slot_gs.plain KF.entry_gs (KF.slot_gs.check _ _ _ _ _ _ _ _ KF.type_class (KF.args_gs _ _ _) ?_);unfold Builtin.«getset_descriptor.__get__» descrGet;rw[dga_obj];refine au (wpAny_pure ?_);unfold descrGetter descrCheckInstance descrNameAndClass isInstance;simp only[KF.owner_class];repeat lk
 refine⟨Code.quiet_builtin _ (by decide +kernel),lS KF.entry_class ?_⟩;unfold Builtin.«object.__class__» shownTypeOf;repeat lk
 exact h
theorem Gi{g d t os}(T:Gh K C)(X:K.In h)(hx:h.get? x=some ox)(hc:ox.cls=.ref C)(hq:Q (.done (.ret (.ref C))) ⟨h,g,d,t,os⟩):
  wpAny (model prog w) A (Builtin.«object.__getattribute__» ⟨[.ref x,.str "__class__" tk],[]⟩) Q E ⟨h,g,d,t,os⟩:=by
 have f5:=F.typeOf_bexc_args;have hT5:(⟨h,g,d,t,os⟩:aR).TypeIs (.builtin "object.__class__") "getset_descriptor":=Ir;have f5':=Ir;have f6:=F.slot_gs_get.lookup;have f7:=F.slot_gs_set.lookup;have L1:=looks_findIn (M:=model prog w) X T.cl;repeat (any_goals (first|assumption|(with_reducible refine Ca hx ?_;rw[hc])|with_reducible refine L1.at ?_|wp_step))
 refine CM (s:=⟨h,g,d,t,os⟩) X hx hc T.mo ?_;repeat (any_goals (first|assumption|wp_step))
theorem Gj{g d t os}(T:Gh K C)(X:K.In h)(hx:h.get? x=some ox)(hc:ox.cls=.ref C)(hq:Q () ⟨h,g,d,t,os⟩):
  wpAny M A (checkBuiltinCall "BaseException.__getattribute__" ⟨[.ref x,Vv],[]⟩) Q E ⟨h,g,d,t,os⟩:=by
 have hk:builtinKind "BaseException.__getattribute__"=some .slot:=by decide +kernel
 have QJ:splitId "BaseException.__getattribute__"=some ("BaseException","__getattribute__"):=by decide +kernel
 have ha:=F.args_bexc_ga (.ref x) Vv;have L1:=looks_mroIn (M:=M) X T.mb;simp only[checkBuiltinCall,hk,QJ];refine au ?_
 .unfold isInstance;repeat (first|(with_reducible refine Ca hx ?_;rw[hc])|with_reducible refine L1.at ?_|wp_step)
  exact hq
theorem QK{tk:Tok}{fill Mm:Bool}{Q:bV}{h:Heap}{g d t os}(T:Gh K C)(X:K.In h)(hx:h.get? x=some ox)(hc:ox.cls=.ref C)(hq:Q (.ref C) ⟨h,g,d,t,os⟩):
  wpAny (model prog w) A (getAttrBy (.ref x) (.str "__class__" tk) fill Mm) Q E ⟨h,g,d,t,os⟩:=by
 have f3:=F.attr_ValueError.ga.bind (.ref x);have hx0:(Mm&&onTheHeap (Value.builtin "BaseException.__getattribute__"))=false:=by cases Mm <;> rfl
 have hx2:(Value.builtin "BaseException.__getattribute__"==Value.builtin "object.__getattribute__")=false:=by decide +kernel
 have hx1:(onTheHeap (Value.ref C)&&Value.builtin "BaseException.__getattribute__"==Value.builtin "object.__getattribute__")=false:=by rw[hx2];rfl
 have L1:=looks_findIn (M:=model prog w) X T.ga;have L2:=looks_findIn (M:=model prog w) X T.gt;repeat (any_goals (first|assumption|(with_reducible refine Ca hx ?_;rw[hc])|with_reducible refine L1.at ?_|with_reducible refine L2.at ?_|wp_step))
 refine xu F.attr_ValueError.ga.plain F.entry_bexc_ga (Gj T X hx hc (Gi T X hx hc ?_));repeat (any_goals (first|assumption|wp_step))
theorem Jn{Q:IE}{h:Heap}{g d t os}(T:Gh K C)(X:K.In h)(hx:h.get? x=some ox)(hc:ox.cls=.ref C)(hq:Q (some (.ref C)) ⟨h,g,d,t+1,os⟩):
  wpAny (model prog w) A (getAttr? (.ref x) "__class__") Q E ⟨h,g,d,t,os⟩:=by
 unfold getAttr?;repeat (any_goals (first|assumption|with_reducible apply QK T X hx hc|wp_step))
theorem z6(T:Gh K C):W.KitX K (.ref x) (.ref C) (Yv x (.ref C)) where
 ty:=fun _ _ _ ⟨o,e,c⟩=>EB e c
 it:=fun _ _ X _=>by
  obtain⟨cdD,Mo⟩:=xm.mp T.ty;unfold clsIn at Mo;split at Mo
  .rename_i c' d' cd' Zk ho;intro A' Q' E' s' k q;unfold isType loadHead;exact au (wpAny_loadPart (k _ _ (X _ _ ho)) (wpAny_pure q))
  .cases Mo
 ne:=fun h tp dd its n sl X htp=>by
  obtain⟨cdD,Mo⟩:=xm.mp T.ty;refine B0.mpr fun q=>?_;have e:C=tp:=Value.ref.inj (gg.mp q);subst e;unfold clsIn at Mo;split at Mo
  .rename_i c' d' cd' Zk ho;have z:=(X _ _ ho).symm.trans htp;cases z
  .cases Mo
 ca:=fun {_ _ _ _ _ s} X ⟨o,e,c⟩ k=>by
  obtain⟨h,g,d,t,os⟩:=s;exact Jn T X e c k
end
section
variable {X:Cx}
inductive O8 (K:a_) (H:Hp):V->Value->Prop where
 |of {v:V} {t:Value} (h:qU K H v t):O8 K H v t
 |exc {p C:Addr} (T:Gh K C) (e:H p=some (ZR p (.ref C))):O8 K H (.ref p) (.ref C)
def Vw(K:a_):List V->Hp->VK->Prop:=fun xs H Q=>∃x c cv t b,xs=[x,c]/\(c=.ty cv/\W.kitOne K t (.type cv)=some b)/\O8 K H x t/\Q (.bl b) H
theorem jf:gf X (.builtin "isinstance") (Vw X.K):=by
 intro af s σ H xs us Q I r h;obtain⟨x,c,cv,t,b,rfl,⟨rfl,e⟩,ty,q⟩:=h;obtain⟨u1,u2,rfl,r1,r2⟩:=r.two;obtain rfl:u2=Value.type cv:=r2;cases ty with
 |of ty=>exact wv I r1 ty e fun tk=>⟨.bl b,H,I.tok tk,rfl,q⟩
 |@exc p C T ea=>
  obtain rfl:u1=Value.ref p:=r1;have p1:Yv p (.ref C) s.heap:=(I.cY p _ ea).1;exact W.kia_one (z6 T) I.o_ p1 e (fun z=>nomatch z) fun tk=>⟨.bl b,H,I.tok tk,rfl,q⟩
def Vx(K:a_):List V->Hp->VK->Prop:=fun xs H Q=>∃x c t b,xs=[x,.ref c]/\W.kitOne K t (.ref c)=some b/\O8 K H x t/\Q (.bl b) H
theorem Gk:gf X (.builtin "isinstance") (Vx X.K):=by
 intro af s σ H xs us Q I r h;obtain⟨x,c,t,b,rfl,e,ty,q⟩:=h;obtain⟨u1,u2,rfl,r1,r2⟩:=r.two;obtain rfl:u2=Value.ref c:=r2;cases ty with
 |of ty=>exact wv I r1 ty e fun tk=>⟨.bl b,H,I.tok tk,rfl,q⟩
 |@exc p C T ea=>
  obtain rfl:u1=Value.ref p:=r1;have p1:Yv p (.ref C) s.heap:=(I.cY p _ ea).1;exact W.kia_one (z6 T) I.o_ p1 e (fun z=>nomatch z) fun tk=>⟨.bl b,H,I.tok tk,rfl,q⟩
end
section
variable {X:Cx} {x:Str} {C:Addr} {np xZ pos:Pos} {e:Expr} {es:gZ} {t:TA}
end
section
variable {X:Cx} {CX:Be} {k:Nat} {f C:Addr} {fd:eA} {ps:bQ} {sp:Sp} {vQ:bg} {ds:bw} {E:St->XK} {x m:Str} {p pos xR:Pos} {e o:Expr} {es:gZ} {ta:TE} {t:TA}
end
section
variable {X:Cx} {CX:Be} {k:Nat} {f:Addr} {fd:eA} {ps:bQ} {sp:Sp} {vQ:bg} {ds:bw} {E:XK} {x:Str} {p pos:Pos} {e:Expr} {es:gZ} {t:TA}
end
section
variable {X:Cx} {af:cE} {σ:St} {H:Hp} {s:aR}
end
theorem ME{h:Heap}{a:Addr}{m m':cr}(x:h.Ns a m)(y:h.Ns a m'):m=m':=by
 obtain⟨o,es,ep,e,d,_,q⟩:=x;obtain⟨o',Bc,US,e',d',_,q'⟩:=y;rw[e] at e';cases e';rw[d] at d';cases d';funext z;rw[<-q z,q' z]
theorem aU.Vy{X:Cx}{af:cE}{σ:St}{H:Hp}{s:aR}{h':Heap}{m:cr}{D:Addr}{o:HO}{t':Nat}(I:aU X af σ H s)(F:Fr X.base X.env.locals s.heap m)(F':Fr X.base X.env.locals h' m)(N':News X.base X.env.locals h' (kY X.base s.heap X.env.locals))(hD:s.heap.get? D=none)(new:dB X.prog X.w (upd H D o) h' D o):aU X af σ (upd H D o) { s with heap:=h',toks:=t' }:=by
 have hn:=I.cY.uY hD;have ne:∀b u,s.heap.get? b=some u->b≠D:=fun b u e z=>by rw[z,hD] at e;cases e
 have keep:∀b u,b≠X.env.locals->s.heap.get? b=some u->h'.get? b=some u:=fun b u hb e=>by
  cases q:X.base.get? b with
  |some v=>
   have:=I.bk b v q;rw[e] at this;cases this;exact F'.keep b _ q
  |none=>exact(N' (b,u) (l0 hb q e)).1
 refine I.step (g':=s.gens) (d':=s.drawn) (ch:=[]) (fun _ z=>absurd z (by simp)) (fun b u hb _ _ e _=>keep b u hb e) (fun b u hb _ _ e _=>⟨u.slots,keep b u hb e⟩) (fun b u _ e n=>by rw[aq (ne b u e)];exact n) (fun b u _ e=>?_)
  (fun b xs e=>by rw[aq (am e hn)];exact e) (fun b u v e=>by rw[aq (am e hn)];exact e) (fun b ps e=>⟨#[],by rw[aq (am e hn),e];simp⟩) (fun m1 hm=>by rw[ME hm F.ns];exact F'.ns) (fun b u e=>?_) I.bare
 .by_cases hb:b=X.env.locals
  .obtain⟨o',_,_,q,_⟩:=F'.ns;exact⟨o',by rw[hb];exact q⟩
  .exact⟨u,keep b u hb e⟩
 .by_cases hb:b=D
  .subst hb;rw[ae] at e;cases e;exact new
  .rw[aq hb] at e;refine(I.cY b u e).jO (fun c v hc q=>keep c v ?_ q) (fun c q=>by rw[aq (am q hn)];exact q) fun c xs q=>by rw[aq (am q hn)];exact q
   rintro rfl;rcases hc with z|hc
   .have f:=I.free;rw[z,e] at f;cases f
   .rw[I.free] at hc;cases hc
theorem vU(I:aU X af σ H s)(N:News X.base X.env.locals h' ((D,o)::kY X.base s.heap X.env.locals))(eX:∀q∈kY X.base s.heap X.env.locals,q.1<D):s.heap.get? D=none:=by
 cases e:s.heap.get? D with
 |none=>rfl
 |some u=>
  obtain⟨_,n1,n2⟩:=N (D,o) cK;exact absurd (eX (D,u) (l0 n1 n2 e)) (jc _)
def Jo(K:a_)(H:Hp)(a:Addr)(y:lF):Prop:=cu K H a [.int y.1,.int y.2]
section
variable {X:Cx}
theorem CO(I:aU X af σ H s)(h:Jo X.K H a y):∃o n t u,s.heap.get? a=some o/\o.cls=.type "tuple"/\o.data=.seq #[.int y.1 t,.int y.2 u] n:=by
 obtain⟨its,r,p,_⟩:=I.tuple h;obtain⟨u1,u2,rfl,r1,r2⟩:=r.two;obtain⟨t,rfl⟩:=r1;obtain⟨t',rfl⟩:=r2;obtain⟨o,e,c,n,d⟩:=p;exact⟨o,n,t,t',e,c,d⟩
end
def QL(hs:rG)(i:Nat):Int:=(hs[i]?).getD 0
def ip(hs:rG)(t:ng)(h:Int):Option (Array Int×SetTable):=
 if t.gaveWay then none else
 match t.probe (QL hs) h (t.probeStart h) with
 |some (.empty j none)=>
  let q:=t.put j
  let Gm:=SetTable.insertAt hs q.2 h
  if q.1.fits Gm.size&&decide (Gm.size<=4096) then
   if q.1.tooFull then
    (match q.1.relaid Gm (SetTable.grown (hs.size+1)) with
    |some (t2,order)=>
     let oP:=order.filterMap (Gm[·]?)
     if oP.size==Gm.size&&t2.fits oP.size&&decide (SetTable.sizeAbove (SetTable.grown (hs.size+1))<=4096) then some (oP,t2) else none
    |none=>none)
   else some (Gm,q.1)
  else none
 |_=>none
def yf(led:Bool):List Int->Option (Array Int×SetTable):=fun l=>l.foldlM (fun q h=>ip q.1 q.2 h) (#[],SetTable.fresh 0 0 led)
def l_(h:Heap)(S:Addr)(hs:rG)(t:ng):Prop:=∃o es ep,h.get? S=some o/\o.cls=.type "set"/\(o.dict=none/\o.slots=#[])/\o.data=.set es ep t/\es.map (·.1)=hs/\t.fits es.size=true
section
variable {prog:bL} {w:World} {A:br} {E:bV} {s:aR} {S:Addr}
theorem QM(es:Array (Int×Value)):(fun i=>(es[i]?.map (·.1)).getD 0)=QL (es.map (·.1)):=by
 funext i;unfold QL;rw[Array.getElem?_map]
theorem pD(es:Array (Int×Value))(p:Nat)(x:Int×Value):(SetTable.insertAt es p x).map (·.1)=SetTable.insertAt (es.map (·.1)) p x.1:=by
 unfold SetTable.insertAt;simp
theorem qX(es:Array (Int×Value))(order:Array Nat):(order.filterMap (es[·]?)).map (·.1)=order.filterMap ((es.map (·.1))[·]?):=by
 apply Array.ext';rw[kO,xo,xo,List.map_filterMap];congr 1;funext i;rw[Array.getElem?_map]
theorem CP(hS:l_ s.heap S hs t)(hg:t.gaveWay=false)(hp:t.probe (QL hs) h (t.probeStart h)=some (.empty j none))(q:Q (.free j false) s):
  wpAny (model prog w) A (setSearch S x h true) Q E s:=by
 obtain⟨o,es,ep,ho,hc,hdi,hd,hm,hf⟩:=hS;unfold setSearch setSearchFrom;refine au (xB ho hd hf ?_);dsimp only;rw[hg,ao di];have Uh:t.probe (fun i=>(es[i]?.map (·.1)).getD 0) h (t.probeStart h)=some (.empty j none):=by rw[QM,hm];exact hp
 refine au (wpAny_pure ?_);erw[Uh];exact wpAny_pure q
theorem Go(ho:s.heap.get? a=some o)(hc:o.cls=.type "tuple")(hd:o.data=.seq #[.int x t,.int y u] n)(q:Q true s):
  wpAny (model prog w) A (hashByValue 8 (.ref a)) Q E s:=by
 have hT:s.TypeIs (.ref a) "tuple":=⟨_,ho,hc⟩
 unfold hashByValue;refine au (wpAny_specialOf hT PySem.F.slot_tuple_hash.lookup ?_);refine au (iE ho hd ?_);refine au ?_;show wpAny _ _ (forIn #[Value.int x t,Value.int y u] _ _) _ _ s;rw[<-uj];refine wpAny_forIn_list _ (fun rest r s'=>r.1=none/\s'=s/\∀v∈rest,∃z k,v=Value.int z k) _ ?_ ?_ _ _ ⟨rfl,rfl,fun v hv=>?_⟩
 .rintro v rest r s' ⟨hr,rfl,vS⟩;obtain⟨z,k,rfl⟩:=vS v cK;refine au (wpAny_pure ?_);exact wpAny_pure ⟨rfl,rfl,fun u' sw=>vS u' (dq _ sw)⟩
 .rintro⟨r1,r2⟩ s' ⟨hr,rfl,_⟩;have CQ:r1=none:=hr;subst CQ;exact wpAny_pure q
 .rcases bq.mp hv with z|z
  .exact⟨_,_,z⟩
  .rcases bq.mp z with z|z
   .exact⟨_,_,z⟩
   .cases z
theorem EC(hS:l_ s.heap S hs t)(hf:t'.fits Bc.size=true)(hz:Bc.size<=4096)(q:∀h',Heap.SameBut S s.heap h'->l_ h' S (Bc.map (·.1)) t'->Q () { s with heap:=h' }):wpAny (model prog w) A (storeSet S Bc t') Q E s:=by
 obtain⟨o,es,ep,ho,hc,hdi,hd,hm,_⟩:=hS;refine wpAny_storeSet_of ho hd (q _ (qw s.heap S (Obj.putSet Bc t')) ?_) (aZ hz (by decide));have g:=nL (Obj.putSet Bc t') ho (by rw[putSet_of Bc t' hd];rfl);rw[putSet_of Bc t' hd] at g;exact⟨_,Bc,ep+1,g,hc,hdi,rfl,rfl,hf⟩
theorem MH(hu:A.units<cLine)(hS:l_ s.heap S hs t)(ho:s.heap.get? a=some o)(hc:o.cls=.type "tuple")(hd:o.data=.seq #[.int x tx,.int y ty] n)(qd:a≠S)(qc:ip hs t (tupleKeyHash (intKind prog w) [x,y])=some (hs',t'))(q:∀h' tk,Heap.SameBut S s.heap h'->l_ h' S hs' t'->Q true { s with heap:=h',toks:=tk }):wpAny (model prog w) A (setAdd S (.ref a)) Q E s:=by
 have hk:IsTupleKey (intKind prog w) s.heap [x,y] a:=⟨o,_,n,ho,hc,hd,.cons (intKind_is _ _ _ _) (.cons (intKind_is _ _ _ _) .nil)⟩
 unfold setAdd;refine gK (au (wpAny_pyHash_tuple hu hk ?_));generalize Vd:s.toks+([x,y].length+1)=tk;generalize hh:tupleKeyHash (intKind prog w) [x,y]=h at qc |-;have hS0:=hS;obtain⟨ob,es,ep,hb,ZS,hbd,LM,hm,hf⟩:=hS;unfold setAddHashed setAddHashedIn;refine gK (au (xB (s:={ s with toks:=tk }) hb LM hf ?_));dsimp only;have O9:byScan (.ref a) es=false:=by unfold byScan;rfl
 rw[O9,ao di];unfold ip at qc;cases hg:t.gaveWay with
 |true=>rw[hg,ap rfl] at qc;cases qc
 |false=>
  rw[hg,ao di] at qc;split at qc
  .rename_i j hp;dsimp only at qc;split at qc
   .rename_i Yw;rw[gm,uk] at Yw;refine au (CP (s:={ s with toks:=tk }) hS0 hg hp ?_);dsimp only;refine au (xB (s:={ s with toks:=tk }) hb LM hf ?_);dsimp only;have byv:∀ {kk:Bool->Sem Bool},wpAny (model prog w) A (kk true) Q E { s with toks:=tk }->wpAny (model prog w) A (if (t.put j).1.plain=true then hashByValue 8 (.ref a) >>= kk else pure true >>= kk) Q E { s with toks:=tk }:=fun {kk} hP=>by
     split
     .exact au (Go (s:={ s with toks:=tk }) ho hc hd hP)
     .exact au (wpAny_pure hP)
    refine byv ?_;simp only[jM];have iC:(SetTable.insertAt es (t.put j).2 (h,Value.ref a)).size=(SetTable.insertAt hs (t.put j).2 h).size:=by
     rw[<-hm,<-pD es (t.put j).2 (h,Value.ref a),j7]
    refine au (EC (s:={ s with toks:=tk }) hS0 (by rw[iC];exact Yw.1) (by rw[iC];exact Yw.2) fun h1 sG S1=>?_);rw[pD,hm] at S1;split at qc
    .rename_i ZT;rw[show (!false&&(t.put j).1.tooFull)=true by rw[ZT];rfl,ap rfl];split at qc
     .rename_i t2 order hr;split at qc
      .rename_i hq;rw[gm,gm,uk,gg] at hq;obtain⟨⟨Ib,Ic⟩,Ui⟩:=hq;cases qc;have ZU:es.size=hs.size:=by rw[<-hm,j7]
       refine au ?_;unfold setRelay;obtain⟨o1,MI,ep1,g1,g2,g3,g4,g5,g6⟩:=id S1;refine au (xB (s:={ s with heap:=h1,toks:=tk }) g1 g4 g6 ?_);dsimp only;rw[ZU];rw[ao (by (have h4:(4096:Nat)<=sizeLine:=by decide);lia)];refine au ?_;rw[g5,hr];have CS:(order.filterMap (MI[·]?)).size=MI.size:=by
        have e1:=congrArg Array.size (qX MI order);rw[j7,g5] at e1;rw[e1,Ib,<-g5,j7]
       refine wpAny_of_eq (show _=(pure (order.filterMap (MI[·]?),t'):Sem (Array (Int×Value)×SetTable)) from ?_) ?_
       .show (do
         let Bc:=order.filterMap (MI[·]?)
         if Bc.size != MI.size then unsupported "internal:set-table-lost-an-element"
         pure (Bc,t'):Sem (Array (Int×Value)×SetTable))=_
        simp[CS]
       dsimp only;have Uj:MI.size<=4096:=by
        have e1:=congrArg Array.size g5;rw[j7] at e1;rw[e1];exact Yw.2
       have hfm:(order.filterMap (MI[·]?)).size=(order.filterMap ((SetTable.insertAt hs (t.put j).2 h)[·]?)).size:=by
        have e1:=congrArg Array.size (qX MI order);rw[j7,g5] at e1;exact e1
       refine EC (s:={ s with heap:=h1,toks:=tk }) S1 (by rw[hfm];exact Ic) (by rw[CS];exact Uj) fun h2 qY S2=>?_;rw[qX,g5] at S2;exact wpAny_pure (q h2 tk (sG.trans qY) S2)
      .cases qc
     .cases qc
    .rename_i ZT;cases qc;have ZV:(t.put j).1.tooFull=false:=by simpa using ZT
     rw[show (!false&&(t.put j).1.tooFull)=false by rw[ZV];rfl,ao di];exact wpAny_pure (q h1 tk sG S1)
   .cases qc
  .cases qc
end
section
variable {prog:bL} {w:World} {A:br} {E:bV} {s:aR} {S Ia l:Addr} {R:zu}
def k_(h:Heap)(vs:bw)(ys:oW):Prop:=vs.length=ys.length/\∀i v,vs[i]?=some v->∃a o n t u,v=.ref a/\h.get? a=some o/\o.cls=.type "tuple"/\o.data=.seq #[.int (ys.getD i (0,0)).1 t,.int (ys.getD i (0,0)).2 u] n
theorem k_.keeps(p:k_ h vs ys)(k:∀b o,(∃xs n,o.data=.seq xs n)->h.get? b=some o->h'.get? b=some o):k_ h' vs ys:=
 ⟨p.1,fun i v e=>let ⟨a,o,n,t,u,e1,e2,c,d⟩:=p.2 i v e;⟨a,o,n,t,u,e1,k a o ⟨_,_,d⟩ e2,c,d⟩⟩
def g9(prog:bL)(w:World)(y:lF):Int:=tupleKeyHash (intKind prog w) [y.1,y.2]
theorem Jp(hh:A.handled=none)(hu:A.units+1<cLine)(hlS:l≠S)(ZW:l≠Ia)(ZX:S≠Ia):
  ∀ (k i:Nat) (s:aR) (hs:rG) (t:ng),vs.length-i=k->i<=vs.length->s.heap.IsListIter Ia l i->s.heap.IsList l vs.toArray->k_ s.heap vs ys->l_ s.heap S hs t->
   ((ys.drop i).map (g9 prog w)).foldlM (fun q h=>ip q.1 q.2 h) (hs,t)=some (hsN,tN)->
   (∀h' tk,(∀b o,b≠S->b≠Ia->s.heap.get? b=some o->h'.get? b=some o)->l_ h' S hsN tN->R (.ok (.ret .none)) { s with heap:=h',toks:=tk })->
   codeAny (model prog w) A (.builtin "set.update.loop" ⟨[.ref S,.ref Ia],[]⟩) R s:=by
 intro k;induction k with
 |zero=>
  intro i s hs t hk hi zj hl hp hS hf hR;have e:i=vs.length:=by lia
  refine lS Ip ?_;rw[qu Br _];show wpAny _ A.in1 (pyNext (.ref Ia) >>= _) _ _ s;refine au (BQ (show A.in1.handled=none from hh) zj hl (by simp;lia) fun h' eb=>?_);show wpAny _ A.in1 (ret Value.none) _ _ _;have hd:ys.drop i=[]:=by rw[List.drop_eq_nil_iff];have:=hp.1;lia
  rw[hd] at hf;cases hf;obtain⟨o,es,ep,q1,q2⟩:=hS;exact wpAny_pure (hR h' s.toks (fun b o hb MJ e=>eb b o MJ e) ⟨o,es,ep,eb S o ZX q1,q2⟩)
 |succ k ih=>
  intro i s hs t hk hi zj hl hp hS hf hR;have eX:i<vs.length:=by lia
  refine lS Ip ?_;rw[qu Br _];show wpAny _ A.in1 (pyNext (.ref Ia) >>= _) _ _ s;have hv:vs[i]?=some vs[i]:=cz eX;refine au (BN zj hl (x:=vs[i]) (by simpa using hv) fun h1 QN sG=>?_);obtain⟨a,o,n,tx,ty,ea,eo,ec,ed⟩:=hp.2 i _ hv;rw[ea];have Yx:∀b ob,(∃xs n,ob.data=.seq xs n)->s.heap.get? b=some ob->b≠Ia:=fun b ob ⟨xs,m,z⟩ e z'=>by
   obtain⟨oi,e1,_,d1⟩:=zj;rw[z',e1] at e;cases e;rw[d1] at z;cases z
  have mW:k_ h1 vs ys:=hp.keeps fun b ob hb e=>(sG.2 b (Yx b ob hb e)).trans e;have Vz:l_ h1 S hs t:=by
   obtain⟨oS,es,ep,q1,q2⟩:=hS;exact⟨oS,es,ep,(sG.2 S ZX).trans q1,q2⟩
  have Bi:h1.IsList l vs.toArray:=by
   obtain⟨ol,q1,q2⟩:=hl;exact⟨ol,(sG.2 l ZW).trans q1,q2⟩
  have VA:h1.get? a=some o:=(sG.2 a (Yx a o ⟨_,_,ed⟩ eo)).trans eo;have neS:∀b ob,(∃xs n,ob.data=.seq xs n)->h1.get? b=some ob->b≠S:=fun b ob ⟨xs,m,z⟩ e z'=>by
   obtain⟨oS,es,ep,q1,_,_,q4,_⟩:=Vz;rw[z',q1] at e;cases e;rw[q4] at z;cases z
  have z7:i<ys.length:=by have:=hp.1;lia
  have ZY:ys.drop i=ys[i]::ys.drop (i+1):=qh z7;have hgy:ys.getD i (0,0)=ys[i]:=by rw[cw,cz z7];rfl
  rw[ZY,gJ,List.foldlM_cons] at hf;cases qc:ip hs t (g9 prog w ys[i]) with
  |none=>rw[qc] at hf;cases hf
  |some q=>
   obtain⟨oP,t2⟩:=q;rw[qc] at hf;have O_:((ys.drop (i+1)).map (g9 prog w)).foldlM (fun q h=>ip q.1 q.2 h) (oP,t2)=some (hsN,tN):=hf;show wpAny _ A.in1 (holding [Value.ref a] (setAdd S (.ref a)) >>= _) _ _ _;refine au (gK (MH (s:={ s with heap:=h1 }) (by show A.units+1<cLine;exact hu) Vz VA ec ed (neS a o ⟨_,_,ed⟩ VA) (hs':=oP) (t':=t2) (by rw[hgy];exact qc) fun h2 tk qY S2=>?_));refine wpAny_pure ⟨uI Br _,?_⟩;refine ih (i+1) { s with heap:=h2,toks:=tk } oP t2 (by lia) eX ?_ ?_ (mW.keeps fun b ob hb e=>(qY.2 b (neS b ob hb e)).trans e) S2 O_ fun h3 ZZ k3 S3=>?_
   .obtain⟨oi,q1,q2⟩:=QN;exact⟨oi,(qY.2 Ia (dI ZX)).trans q1,q2⟩
   .obtain⟨ol,q1,q2⟩:=Bi;exact⟨ol,(qY.2 l hlS).trans q1,q2⟩
   .exact hR h3 ZZ (fun b ob hb MJ e=>k3 b ob hb MJ ((qY.2 b hb).trans ((sG.2 b MJ).trans e))) S3
theorem Jq{vs:bw}{ys:oW}{hsN:Bool->Array Int}{tN:Bool->SetTable}{Q:bV}(hh:A.handled=none)(hu:A.units+8<cLine)(hl:s.heap.IsList l vs.toArray)(hp:k_ s.heap vs ys)(Gp:∀led,yf led (ys.map (g9 prog w))=some (hsN led,tN led))(h:∀ (led:Bool) (h':Heap) (tk:Nat),l_ h' s.heap.objs.size (hsN led) (tN led)->(∀b o,b<s.heap.objs.size->s.heap.get? b=some o->h'.get? b=some o)->Q (.ref s.heap.objs.size) { s with heap:=h',toks:=tk }):
  wpAny (model prog w) A (call (.type "set") [.ref l]) Q E s:=by
 obtain⟨c,tl,acg⟩:=lO.mro;have c1:=lO.made;have c2:=lO.sub;refine qN (codeAny_of_tree ?_);show wpAny _ _ (callAny (.type "set") _) _ _ _;refine wpAny_pure ⟨Code.quiet_builtin _ (by decide +kernel),lS PySem.F.entry_type_call ?_⟩;rw[Around.under_plain (weight_type_call_type "set" [.ref l] []) rfl];have c3:=lO.notType;have c4:=lO.canCreate;have c5:=PySem.F.typeCall_set_1 (.ref l);repeat (any_goals (first|assumption|wp_step))
 refine qM (code_set_new_1 (.ref l) (E:=E) (Q₁:=fun obj s₁=>∃led:Bool,obj=.ref s.heap.objs.size/\s₁={ s with heap:=s.heap.push { cls:=.type "set",dict:=none,data:=.set #[] 0 (.fresh 0 0 led) } }) fun led=>⟨led,rfl,rfl⟩) fun r s₁ hr=>?_;cases r with
 |error e=>exact hr
 |ok fl=>
  cases fl with
  |next=>exact hr.elim
  |brk=>exact hr.elim
  |cont=>exact hr.elim
  |ret obj=>
   obtain⟨led,rfl,rfl⟩:=hr;generalize Z0:s.heap.push { cls:=.type "set",dict:=none,data:=.set #[] 0 (.fresh 0 0 led) }=hS;have iC:hS.objs.size=s.heap.objs.size+1:=by rw[<-Z0,jb]
   have gS:hS.get? s.heap.objs.size=some { cls:=.type "set",dict:=none,data:=.set #[] 0 (.fresh 0 0 led) }:=by rw[<-Z0];exact cX _ rfl
   have up:∀b o,s.heap.get? b=some o->hS.get? b=some o:=fun b o e=>by rw[<-Z0];exact bP _ e
   have hT:Shared.TypeIs { s with heap:=hS } (.ref s.heap.objs.size) "set":=⟨_,gS,rfl⟩
   have c6:=lO.init.lookup;have c7:=lO.init.bind (.ref s.heap.objs.size);repeat (any_goals (first|assumption|wp_step))
   refine qM (xu (R:=wants (fun r s₂=>r=.none/\∃h' tk,s₂={ s with heap:=h',toks:=tk }/\l_ h' s.heap.objs.size (hsN led) (tN led)/\
     (∀b o,b<s.heap.objs.size->s.heap.get? b=some o->h'.get? b=some o)) E) lO.init.plain PySem.F.entry_set_init (check_set_init_1 hT ?_)) fun r₂ s₂ VB=>?_
   .obtain⟨ol,Ie,H_,nl,Yy⟩:=hl;obtain⟨ach,aca,acb,Z1⟩:=ol;simp only at H_ Yy;subst H_;subst Yy;have Z2:=up _ _ Ie;have c8:=PySem.F.sub_list_set;have c9:=PySem.F.sub_list_frozenset;have c10:(Value.type "list"==Value.type "dict")=false:=by decide
    have Bi:hS.IsList l vs.toArray:=⟨_,Z2,rfl,nl,rfl⟩
    unfold Builtin.«set.__init__» noKeywords Builtin.Frozenset.updateFrom;generalize hPI:pyIter=PI
    wp_walk
    subst hPI;refine ux Bi ?_;refine au (wpAny_runValue ?_);have eX:l<s.heap.objs.size:=aS Ie;refine Jp (l:=l) (vs:=vs) (ys:=ys) (hsN:=hsN led) (tN:=tN led) (by simp[hh]) (by simp;lia) (bf eX) (by rw[iC];exact bf (dH eX)) (by rw[iC];exact bf (lL _))
     (vs.length-0) 0 _ #[] (.fresh 0 0 led) rfl (cp _) ⟨_,cX _ rfl,rfl,rfl⟩ (Bi.push _) (hp.keeps fun b o _ e=>bP _ (up b o e)) ⟨_,#[],0,bP _ gS,rfl,⟨rfl,rfl⟩,rfl,by simp,rfl⟩ (Gp led) fun h' tk k S'=>?_
    show wpAny _ _ _ _ _ _;refine wpAny_pure ?_;show wpAny _ _ (ret Value.none) _ _ _;refine wpAny_pure ⟨rfl,h',tk,rfl,S',fun b o hb e=>?_⟩;exact k b o (bf hb) (by rw[iC];exact bf (dH hb)) (bP _ (up b o e))
   .cases r₂ with
    |error e=>exact VB
    |ok fl₂=>
     cases fl₂ with
     |next=>exact VB.elim
     |brk=>exact VB.elim
     |cont=>exact VB.elim
     |ret r=>
      obtain⟨rfl,h',tk,rfl,S',k⟩:=VB;repeat (any_goals (first|assumption|wp_step))
      exact h led h' tk S' k
end
def Jr(l:aQ):Nat:=l.foldl (fun a x=>a ||| (1 <<< x)) 0
theorem Gq(l:aQ)(a j:Nat):(l.foldl (fun a x=>a ||| (1 <<< x)) a).testBit j=(a.testBit j||l.contains j):=by
 induction l generalizing a with
 |nil=>simp
 |cons x xs ih=>
  rw[iM,ih,Nat.testBit_or,List.contains_cons];have:(1 <<< x).testBit j=(j==x):=by
   rw[Nat.one_shiftLeft,Nat.testBit_two_pow];by_cases h:x=j
   .simp[h]
   .have h':¬ j=x:=fun e=>h e.symm;simp[h,h']
  rw[this,Bool.or_assoc]
theorem rO(h:Jr l=2 ^ n-1)(hj:j<n):j∈l:=by
 have e:=Gq l 0 j;have h':l.foldl (fun a x=>a ||| (1 <<< x)) 0=2 ^ n-1:=h;rw[h',Nat.testBit_two_pow_sub_one] at e;simp[hj] at e;exact e
def Js(M:Nat):Nat->Nat->Nat
 |0,i=>i
 |n+1,i=>Js M n ((i*5+1) % M)
theorem tJ(M a:Nat):∀b i,Js M (b+a) i=Js M a (Js M b i)
 |0,i=>by rw[jI];rfl
 |b+1,i=>by
  rw[show b+1+a=(b+a)+1 by lia];show Js M (b+a) _=Js M a (Js M b _);exact tJ M a b _
def QO(M:Nat):Nat->Nat->List Nat
 |0,_=>[]
 |n+1,i=>i::QO M n ((i*5+1) % M)
theorem uZ:∀ {n i},j∈QO M n i->∃k,k<n/\Js M k i=j
 |0,_,h=>by cases h
 |n+1,i,h=>by
  rcases bq.mp h with z|z
  .exact⟨0,by lia,z.symm⟩
  .obtain⟨k,a,b⟩:=uZ z;exact⟨k+1,by lia,b⟩
structure Gr(M:Nat):Prop where
 all:Jr (QO M M 0)=2 ^ M-1
 back:Js M M 0=0
theorem Z3:Gr 8:=⟨by decide +kernel,by decide +kernel⟩
theorem Pa:Gr 32:=⟨by decide +kernel,by decide +kernel⟩
theorem Jt:Gr 128:=⟨by decide +kernel,by decide +kernel⟩
theorem Ju:Gr 512:=⟨by decide +kernel,by decide +kernel⟩
theorem Gr.cover(R:Gr M)(hi:i<M)(hj:j<M):∃n,n<M/\Js M n i=j:=by
 obtain⟨a,ha,ea⟩:=uZ (rO R.all hi);obtain⟨b,hb,eb⟩:=uZ (rO R.all hj);by_cases h:a<=b
 .refine⟨b-a,by lia,?_⟩;rw[<-ea,<-tJ,show a+(b-a)=b by lia,eb]
 .refine⟨M+b-a,by lia,?_⟩;rw[<-ea,<-tJ,show a+(M+b-a)=M+b by lia,tJ,R.back,eb]
def iR(mask:Nat):Nat->Nat×Nat->Nat×Nat
 |0,q=>q
 |n+1,q=>iR mask n (SetTable.leap mask q.1 q.2)
theorem wG(m a:Nat):∀b q,iR m (b+a) q=iR m a (iR m b q)
 |0,q=>by rw[jI];rfl
 |b+1,q=>by
  rw[show b+1+a=(b+a)+1 by lia];exact wG m a b _
theorem z8:∀ {n:Nat} {q:Nat×Nat},q.1<m+1->(iR m n q).1<m+1
 |0,_,h=>h
 |n+1,q,h=>z8 (n:=n) (lV _ (Nat.succ_pos _))
theorem ED:∀ {n:Nat} {q:Nat×Nat},(iR m n q).2=q.2 / 32 ^ n
 |0,_=>by simp[iR]
 |n+1,q=>by
  show (iR m n _).2=_;rw[ED];show q.2 / 32 / 32 ^ n=_;rw[BF,Nat.pow_succ,Nat.mul_comm]
theorem wH:∀ {n i:Nat},iR m n (i,0)=(Js (m+1) n i,0)
 |0,_=>rfl
 |n+1,i=>by
  show iR m n (SetTable.leap m i 0)=_;unfold SetTable.leap;simp only[Nat.zero_div,Nat.add_zero];exact wH
theorem rP(R:Gr (m+1))(hi:i<m+1)(hp:p<2 ^ 64)(hj:j<m+1):∃n,n<m+14/\(iR m n (i,p)).1=j:=by
 have h1:=z8 (m:=m) (n:=13) (q:=(i,p)) hi;have h2:(iR m 13 (i,p)).2=0:=by
  rw[ED];exact Nat.div_eq_of_lt (bv hp (by decide))
 obtain⟨n,hn,e⟩:=R.cover h1 hj;refine⟨13+n,by lia,?_⟩;rw[wG];have:iR m 13 (i,p)=((iR m 13 (i,p)).1,0):=iG rfl h2;rw[this,wH];exact e
theorem EE(h:Int):SetTable.bits h<2 ^ 64:=by
 unfold SetTable.bits;have a:=uy h (show (2 ^ 64:Int)≠0 by decide);have b:=ui h (show (0:Int)<2 ^ 64 by decide);lia
theorem VC{M:Nat}{l:aQ}(h:l.length<M):∃j,j<M/\j∉l:=by
 have key:∀ (a b:aQ),a.Nodup->(∀x∈a,x∈b)->a.length<=b.length:=by
  intro a;induction a with
  |nil=>intro b _ _;exact cp _
  |cons x xs ih=>
   intro b hn hs;obtain⟨h1,h2⟩:=gI.mp hn;have hx:x∈b:=hs x cK;have:=ih (b.erase x) h2 fun y hy=>(BI (fun (e:y=x)=>h1 (e ▸ hy))).mpr (hs y (dq _ hy));rw[Bx hx] at this;have:0<b.length:=ua hx;rw[fj];lia
 apply xk;intro Mt;have:=key (List.range M) l jG fun x hx=>xk fun qQ=>Mt ⟨x,bY.mp hx,qQ⟩;rw[dk] at this;lia
def CU(mask i p:Nat):SetTable.Probe:={ j:=i,more:=SetTable.runEnd mask i-i,i:=i,perturb:=p,dummy:=none }
theorem QP(mask i:Nat):SetTable.runEnd mask i-i<=9:=by unfold SetTable.runEnd;split <;> lia
theorem yg{t:ng}(hd:t.dummies=#[])(j:Nat):t.slot j=.empty\/∃i,t.slot j=.live i/\t.place[i]?=some j:=by
 unfold SetTable.slot;dsimp only;split
 .rename_i h;exact .inr ⟨_,rfl,by simpa using h⟩
 .left;rw[hd];rfl
theorem CV{t:ng}(hd:t.dummies=#[]){j:Nat}(h:j∉t.place.toList):t.slot j=.empty:=by
 rcases yg hd j with e|⟨i,_,e2⟩
 .exact e
 .exact absurd (by rw[<-nJ] at e2;exact dz e2) h
section
variable {t:ng} {hashAt:t7} {h:Int}
theorem Jv(hd:t.dummies=#[])(hh:∀i,i<t.place.size->hashAt i≠h)(i p:Nat):∀ (r:Nat) (j iy:Nat),
  (∃j',SetTable.probe.go t hashAt h (iy+r+1) { j:=j,more:=r,i:=i,perturb:=p,dummy:=none }=some (.empty j' none))\/
  SetTable.probe.go t hashAt h (iy+r+1) { j:=j,more:=r,i:=i,perturb:=p,dummy:=none }=SetTable.probe.go t hashAt h iy (CU t.mask (SetTable.leap t.mask i p).1 (SetTable.leap t.mask i p).2)
 |0,j,iy=>by
  rcases yg hd j with e|⟨k,e,e2⟩
  .exact .inl ⟨j,by unfold SetTable.probe.go;rw[e]⟩
  .right;have hk:k<t.place.size:=(Iw.mp e2).1;conv=>lhs;unfold SetTable.probe.go
   rw[e];simp only[gg,hh k hk,eG];rfl
 |r+1,j,iy=>by
  rcases yg hd j with e|⟨k,e,e2⟩
  .exact .inl ⟨j,by rw[show iy+(r+1)+1=(iy+r+1)+1 by lia];unfold SetTable.probe.go;rw[e]⟩
  .have hk:k<t.place.size:=(Iw.mp e2).1;have st:SetTable.probe.go t hashAt h (iy+(r+1)+1) { j:=j,more:=r+1,i:=i,perturb:=p,dummy:=none }=SetTable.probe.go t hashAt h (iy+r+1) { j:=j+1,more:=r,i:=i,perturb:=p,dummy:=none }:=by
    rw[show iy+(r+1)+1=(iy+r+1)+1 by lia];conv=>lhs;unfold SetTable.probe.go
    rw[e];simp only[gg,hh k hk,eG];rfl
   rw[st];exact Jv hd hh i p r (j+1) iy
theorem EF(hd:t.dummies=#[])(hh:∀i,i<t.place.size->hashAt i≠h):∀ (m:Nat) (i p iy:Nat),10*(m+1)<=iy->t.slot (iR t.mask m (i,p)).1=.empty->
  ∃j',SetTable.probe.go t hashAt h iy (CU t.mask i p)=some (.empty j' none)
 |0,i,p,iy,hf,e=>by
  obtain⟨f,rfl⟩:∃f,iy=f+1:=⟨iy-1,by lia⟩
  refine⟨i,?_⟩;have e':t.slot i=.empty:=e;unfold SetTable.probe.go CU;dsimp only;rw[e']
 |m+1,i,p,iy,hf,e=>by
  have hr:=QP t.mask i;obtain⟨f,z9⟩:∃f,iy=f+(SetTable.runEnd t.mask i-i)+1:=⟨iy-(SetTable.runEnd t.mask i-i)-1,by lia⟩
  rcases Jv (hashAt:=hashAt) (h:=h) hd hh i p (SetTable.runEnd t.mask i-i) i f with z|z
  .rw[z9];exact z
  .rw[z9];show ∃j',SetTable.probe.go t hashAt h _ { j:=i,more:=_,i:=i,perturb:=p,dummy:=none }=_;rw[z];exact EF hd hh m _ _ f (by lia) e
theorem CW(R:Gr (t.mask+1))(hd:t.dummies=#[])(hs:t.place.size<=t.mask)(hh:∀i,i<t.place.size->hashAt i≠h):∃j,t.probe hashAt h (t.probeStart h)=some (.empty j none):=by
 obtain⟨j,hj,hn⟩:=VC (M:=t.mask+1) (l:=t.place.toList) (by simpa using Nat.lt_succ_of_le hs);obtain⟨m,hm,e⟩:=rP R (lV (SetTable.bits h) (Nat.succ_pos t.mask)) (EE h) hj;refine EF hd hh m _ _ _ ?_ (by rw[e];exact CV hd hn);unfold SetTable.turns;lia
end
theorem qZ{α β:Type}{f:α->Option β}:∀ {l:List α},(∀q∈l,(f q).isSome=true)->(l.filterMap f).length=l.length
 |[],_=>rfl
 |q::l,h=>by
  have hq:=h q cK;cases e:f q with
  |none=>rw[e] at hq;cases hq
  |some b=>rw[IA e,fj,fj,qZ fun x hx=>h x (dq _ hx)]
theorem wI:∀ (m iy i p:Nat),m<iy->owner.getD (iR mask m (i,p)).1 (some 0)=none->∃j,SetTable.layClean.free mask owner iy i p=some j/\owner.getD j (some 0)=none
 |m,0,_,_,h,_=>by lia
 |m,iy+1,i,p,h,e=>by
  unfold SetTable.layClean.free;cases hf:(List.range (SetTable.runEnd mask i+1-i)).find? fun k=>(owner.getD (i+k) (some 0)).isNone with
  |some k=>
   refine⟨i+k,rfl,?_⟩;have:=B8 hf;simpa using this
  |none=>
   cases m with
   |zero=>
    have h0:(0:Nat)∈List.range (SetTable.runEnd mask i+1-i):=bY.mpr (by unfold SetTable.runEnd;split <;> lia);have:=BV.mp hf 0 h0;have e':owner.getD i (some 0)=none:=e;rw[Nat.add_zero,e'] at this;exact absurd rfl this
   |succ m=>
    exact wI m iy _ _ (by lia) e
structure z_(M:Nat)(owner:Array (Option Nat))(k:Nat):Prop where
 size:owner.size=M
 cnt:owner.toList.countP Option.isSome=k
 lt:∀x,some x∈owner.toList->x<k
theorem CY{l:bA}{j:Nat}{x:Nat}(hj:l[j]?=some none):(l.set j (some x)).countP Option.isSome=l.countP Option.isSome+1:=by
 induction l generalizing j with
 |nil=>cases hj
 |cons a l ih=>
  cases j with
  |zero=>
   obtain rfl:a=none:=by simpa using hj
   simp
  |succ j=>
   rw[List.set_cons_succ,qz,qz,ih (by simpa using hj)];lia
theorem z_.one{mask:Nat}{owner:Array (Option Nat)}{k:Nat}(L:z_ (mask+1) owner k)(R:Gr (mask+1))(hk:k<mask+1)(h:Int):
  ∃j,SetTable.layClean.free mask owner (SetTable.turns mask) (SetTable.bits h % (mask+1)) (SetTable.bits h)=some j/\z_ (mask+1) (owner.setIfInBounds j (some k)) (k+1):=by
 have Mt:∃j,j<mask+1/\owner.toList[j]?=some none:=by
  apply xk;intro Mt;have vS:∀x∈owner.toList,x.isSome=true:=by
   intro x hx;obtain⟨j,hj,e⟩:=nK.mp hx;cases x with
   |some _=>rfl
   |none=>
    refine absurd ⟨j,?_,?_⟩ Mt
    .rw[<-L.size];simpa using hj
    .rw[cz hj,e]
  have:=List.countP_eq_length.mpr vS;rw[L.cnt,lI,L.size] at this;lia
 obtain⟨j0,hj0,e0⟩:=Mt;obtain⟨m,hm,em⟩:=rP R (lV (SetTable.bits h) (Nat.succ_pos mask)) (EE h) hj0;obtain⟨j,ej,en⟩:=wI (mask:=mask) (owner:=owner) m (SetTable.turns mask) (SetTable.bits h % (mask+1)) (SetTable.bits h) (by unfold SetTable.turns;lia)
  (by rw[em,xi,<-nJ,e0];rfl)
 refine⟨j,ej,?_⟩;have hjn:owner.toList[j]?=some none:=by
  rw[xi,<-nJ] at en;cases hq:owner.toList[j]? with
  |none=>rw[hq] at en;cases en
  |some v=>rw[hq] at en;rw[show v=none from en]
 have VD:(owner.setIfInBounds j (some k)).toList=owner.toList.set j (some k):=by simp
 refine⟨by simp[L.size],by rw[VD,CY hjn,L.cnt],fun x hx=>?_⟩;rw[VD] at hx;rcases List.mem_or_eq_of_mem_set hx with z|z
 .exact dH (L.lt x z)
 .cases z;exact lL _
theorem EG(R:Gr (mask+1)):∀ (l:dG) (owner:Array (Option Nat)) (k:Nat),z_ (mask+1) owner k->k+l.length<=mask->
  ∃Jw,l.foldl (fun dN h=>do
   let (owner,k) <- dN
   let j <- SetTable.layClean.free mask owner (SetTable.turns mask) (SetTable.bits h % (mask+1)) (SetTable.bits h)
   pure (owner.setIfInBounds j (some k),k+1)) (some (owner,k))=some (Jw,k+l.length)/\z_ (mask+1) Jw (k+l.length)
 |[],owner,k,L,_=>⟨owner,rfl,L⟩
 |h::l,owner,k,L,hl=>by
  rw[fj] at hl;obtain⟨j,ej,L'⟩:=L.one R (by lia) h;obtain⟨o',e,L2⟩:=EG R l _ _ L' (by lia);refine⟨o',?_,by rw[fj,show k+(l.length+1)=k+1+l.length by lia];exact L2⟩;rw[iM];have:(do
   let (owner,k) <- some (owner,k)
   let j <- SetTable.layClean.free mask owner (SetTable.turns mask) (SetTable.bits h % (mask+1)) (SetTable.bits h)
   pure (owner.setIfInBounds j (some k),k+1):Option (Array (Option Nat)×Nat))=some (owner.setIfInBounds j (some k),k+1):=by
   show (SetTable.layClean.free mask owner (SetTable.turns mask) (SetTable.bits h % (mask+1)) (SetTable.bits h)).bind _=_;rw[ej];rfl
  rw[this,e,fj,show k+(l.length+1)=k+1+l.length by lia]
theorem Aa(R:Gr (mask+1))(hs:rG)(h:hs.size<=mask):∃owner,SetTable.layClean mask hs=some owner/\z_ (mask+1) owner hs.size:=by
 have L0:z_ (mask+1) (Array.replicate (mask+1) none) 0:=⟨by simp,by simp[List.countP_replicate],fun x hx=>by simp at hx⟩
 obtain⟨o,e,L⟩:=EG R hs.toList _ 0 L0 (by simpa using h);refine⟨o,?_,by simpa using L⟩;unfold SetTable.layClean;rw[<-Array.foldl_toList];have e':=congrArg (Option.map (·.1)) e;exact e'
theorem CZ(L:z_ M owner n):
  ((List.range M).filterMap fun j=>(owner.getD j none).map (j,·)).length=n/\∀q∈(List.range M).filterMap (fun j=>(owner.getD j none).map (j,·)),q.2<n:=by
 constructor
 .rw[<-L.cnt];have e:owner.toList=(List.range M).map fun j=>owner.getD j none:=by
   apply B5
   .simp[L.size]
   .intro i h1 h2;simp only[uw,BU,Array.getElem_toList];rw[xi,Bv (by simpa using h1)];rfl
  conv=>rhs;rw[e]
  rw[List.countP_map];generalize List.range M=l;induction l with
  |nil=>rfl
  |cons a l ih=>
   rw[qz,<-ih];cases hq:owner.getD a none with
   |none=>rw[List.filterMap_cons_none (by rw[hq];rfl),show (Option.isSome ∘ fun j=>owner.getD j none) a=false by show (owner.getD a none).isSome=false;rw[hq];rfl];simp
   |some x=>rw[IA (b:=(a,x)) (by rw[hq];rfl),show (Option.isSome ∘ fun j=>owner.getD j none) a=true by show (owner.getD a none).isSome=true;rw[hq];rfl];simp
 .intro q hq;obtain⟨j,_,e⟩:=qv.mp hq;cases hx:owner.getD j none with
  |none=>rw[hx] at e;cases e
  |some x=>
   rw[hx] at e;cases e;refine L.lt x ?_;rw[xi,<-nJ] at hx;cases hy:owner.toList[j]? with
   |none=>rw[hy] at hx;cases hx
   |some v=>rw[hy] at hx;obtain rfl:v=some x:=hx;exact dz hy
structure Ab(hs:rG)(t:ng):Prop where
 dm:t.dummies=#[]
 sz:t.place.size=hs.size
 ms:(t.mask=7/\hs.size<=4)\/(t.mask=31/\hs.size<=18)\/(t.mask=127/\hs.size<=76)\/(t.mask=511/\hs.size<=306)
theorem Ab.rnd(T:Ab hs t):Gr (t.mask+1):=by
 rcases T.ms with ⟨e,_⟩|⟨e,_⟩|⟨e,_⟩|⟨e,_⟩ <;> rw[e]
 .exact Z3
 .exact Pa
 .exact Jt
 .exact Ju
theorem nr(xs:Array α)(p:Nat)(x:α):(SetTable.insertAt xs p x).size=xs.size+1:=by
 unfold SetTable.insertAt;simp;lia
theorem pE(h:y∈(SetTable.insertAt xs p x).toList):y=x\/y∈xs.toList:=by
 unfold SetTable.insertAt at h;rw[gD,nV,BM,BM] at h;rcases cL.mp h with z|z
 .rcases cL.mp z with z|z
  .right;rw[List.extract_eq_drop_take] at z;exact ue (oZ z)
  .left;simpa using z
 .right;rw[List.extract_eq_drop_take] at z;exact ue (oZ z)
theorem C0{hs:rG}{t:ng}{h:Int}(T:Ab hs t)(hn:h∉hs.toList)(hl:hs.size<300):∃hs' t',ip hs t h=some (hs',t')/\Ab hs' t'/\hs'.size=hs.size+1/\∀x∈hs'.toList,x=h\/x∈hs.toList:=by
 have Uj:t.place.size<=t.mask:=by rw[T.sz];rcases T.ms with ⟨e,z⟩|⟨e,z⟩|⟨e,z⟩|⟨e,z⟩ <;> lia
 have hh:∀i,i<t.place.size->QL hs i≠h:=by
  intro i hi e;rw[T.sz] at hi;unfold QL at e;rw[Bv hi] at e;exact hn (by rw[<-e];simp)
 obtain⟨j,hp⟩:=CW (hashAt:=QL hs) (h:=h) T.rnd T.dm Uj hh;have hg:t.gaveWay=false:=by
  unfold SetTable.gaveWay;rcases T.ms with ⟨e,_⟩|⟨e,_⟩|⟨e,_⟩|⟨e,_⟩ <;> rw[e] <;> rfl
 have q1:(t.put j).1.place=SetTable.insertAt t.place (SetTable.below t.place j) j:=rfl;have q2:(t.put j).1.dummies=#[]:=by
  show (if SetTable.has t.dummies j=true then _ else t.dummies)=_;rw[T.dm];rfl
 have q3:(t.put j).1.mask=t.mask:=rfl;have s1:(SetTable.insertAt hs (t.put j).2 h).size=hs.size+1:=nr _ _ _;have s2:(t.put j).1.place.size=hs.size+1:=by rw[q1,nr,T.sz]
 have fl:(t.put j).1.fill=hs.size+1:=by unfold SetTable.fill;rw[s2,q2];rfl
 have fit:(t.put j).1.fits (SetTable.insertAt hs (t.put j).2 h).size=true:=by
  unfold SetTable.fits;rw[s1,s2,fl,q3];simp;rcases T.ms with ⟨e,z⟩|⟨e,z⟩|⟨e,z⟩|⟨e,z⟩ <;> lia
 unfold ip;rw[hg,ao di,hp];dsimp only;rw[ap (by rw[fit,s1];simp;lia)];by_cases hf:(t.put j).1.tooFull=true
 .rw[ap hf];have z9:=hf;unfold SetTable.tooFull at z9;rw[fl,q3] at z9;have O_:(hs.size+1)*5>=t.mask*3:=by simpa using z9
  have gr:SetTable.grown (hs.size+1)=(hs.size+1)*4:=by unfold SetTable.grown;rw[ao (by lia)]
  obtain⟨m2,em2,QR,R2⟩:∃m2,SetTable.sizeAbove (SetTable.grown (hs.size+1))=m2+1/\((m2=31/\hs.size+1<=18)\/(m2=127/\hs.size+1<=76)\/(m2=511/\hs.size+1<=306))/\Gr (m2+1):=by
   rw[gr];rcases T.ms with ⟨e,z⟩|⟨e,z⟩|⟨e,z⟩|⟨e,z⟩
   .have:hs.size=4:=by lia
    exact⟨31,by rw[this];rfl,.inl ⟨rfl,by lia⟩,Pa⟩
   .have:hs.size=18:=by lia
    exact⟨127,by rw[this];rfl,.inr (.inl ⟨rfl,by lia⟩),Jt⟩
   .have:hs.size=76:=by lia
    exact⟨511,by rw[this];rfl,.inr (.inr ⟨rfl,by lia⟩),Ju⟩
   .lia
  have hm3:(SetTable.insertAt hs (t.put j).2 h).size<=m2:=by rw[s1];rcases QR with ⟨e,z⟩|⟨e,z⟩|⟨e,z⟩ <;> lia
  obtain⟨owner,eo,L⟩:=Aa R2 (SetTable.insertAt hs (t.put j).2 h) hm3;obtain⟨VE,Z4⟩:=CZ L;rw[s1] at VE Z4;generalize VF:(List.range (m2+1)).filterMap (fun j=>(owner.getD j none).map (j,·))=live at VE Z4;have er:(t.put j).1.relaid (SetTable.insertAt hs (t.put j).2 h) (SetTable.grown (hs.size+1))=some ({ mask:=m2,place:=(live.map (·.1)).toArray,dummies:=#[],finger:=(t.put j).1.finger,led:=(t.put j).1.led,moves:=(t.put j).1.movedTo m2,plain:=(t.put j).1.plain },(live.map (·.2)).toArray):=by
   unfold SetTable.relaid SetTable.laid;rw[em2];simp only[Nat.add_sub_cancel];rw[eo];show some _=some _;rw[<-VF]
  rw[er];dsimp only;have CS:((live.map (·.2)).toArray.filterMap ((SetTable.insertAt hs (t.put j).2 h)[·]?)).size=hs.size+1:=by
   rw[<-lI,xo];show ((live.map (·.2)).filterMap _).length=_;rw[<-VE,List.filterMap_map];refine qZ fun q hq=>?_;show ((SetTable.insertAt hs (t.put j).2 h)[q.2]?).isSome=true;rw[Bv (by rw[s1];exact Z4 q hq)];rfl
  have emf:∀x,({ mask:=m2,place:=(live.map (·.1)).toArray,dummies:=#[],finger:=(t.put j).1.finger,led:=(t.put j).1.led,moves:=(t.put j).1.movedTo m2,plain:=(t.put j).1.plain }:ng).fits x=(decide (hs.size+1=x)&&decide (hs.size+1<=m2)):=by
   intro x;unfold SetTable.fits SetTable.fill;simp[VE];rw[kP];simp
  rw[ap (by
   rw[CS,s1,emf,em2];have:hs.size+1<=m2:=by rw[<-s1];exact hm3
   simp[this];rcases QR with ⟨e,z⟩|⟨e,z⟩|⟨e,z⟩ <;> lia)]
  refine⟨_,_,rfl,⟨rfl,?_,?_⟩,CS,fun x hx=>?_⟩
  .rw[CS];simp[VE]
  .rw[CS];exact .inr QR
  .rw[xo] at hx;obtain⟨k,_,ek⟩:=qv.mp hx;refine pE (p:=(t.put j).2) ?_;rw[<-nJ] at ek;exact dz ek
 .rw[ao hf];refine⟨_,_,rfl,⟨q2,by rw[s2,s1],?_⟩,s1,fun x hx=>pE hx⟩;have z9:¬ (hs.size+1)*5>=t.mask*3:=by
   intro z;refine hf ?_;unfold SetTable.tooFull;rw[fl,q3];simpa using z
  rw[s1,q3];rcases T.ms with ⟨e,z⟩|⟨e,z⟩|⟨e,z⟩|⟨e,z⟩ <;> lia
theorem rQ:∀ (l:dG) (hs:rG) (t:ng),Ab hs t->(∀x∈l,x∉hs.toList)->l.Nodup->hs.size+l.length<=300->∃hs' t',l.foldlM (fun q h=>ip q.1 q.2 h) (hs,t)=some (hs',t')/\hs'.size=hs.size+l.length
 |[],hs,t,_,_,_,_=>⟨hs,t,rfl,rfl⟩
 |h::l,hs,t,T,hn,nd,hl=>by
  rw[fj] at hl;obtain⟨n1,n2⟩:=gI.mp nd;obtain⟨Gm,t1,e1,T1,z1,m1⟩:=C0 T (hn h cK) (by lia);obtain⟨oP,t2,e2,z2⟩:=rQ l Gm t1 T1 (fun x hx hy=>by
   rcases m1 x hy with e|e
   .exact n1 (e ▸ hx)
   .exact hn x (dq _ hx) e) n2 (by lia)
  refine⟨oP,t2,?_,by rw[z2,z1,fj];lia⟩;rw[List.foldlM_cons];show (ip hs t h).bind _=_;rw[e1];exact e2
theorem Gs(led:Bool)(nd:l.Nodup)(hl:l.length<=300):∃hs t,yf led l=some (hs,t)/\hs.size=l.length:=by
 obtain⟨hs,t,e,z⟩:=rQ l #[] (SetTable.fresh 0 0 led) ⟨rfl,rfl,.inl ⟨rfl,by decide⟩⟩ (fun x _ h=>by simp at h) nd (by simpa using hl);exact⟨hs,t,e,by simpa using z⟩
def EH:List Nat->Nat->Bool
 |[],_=>true
 |x::xs,dN=>bif Nat.testBit dN x then false else EH xs (dN ||| (1 <<< x))
theorem Ad:∀ (l:aQ) (dN:Nat),EH l dN=true->l.Nodup/\∀x∈l,dN.testBit x=false
 |[],_,_=>⟨kQ,fun x h=>(nomatch h)⟩
 |x::xs,dN,h=>by
  unfold EH at h;cases hb:dN.testBit x with
  |true=>rw[hb] at h;cases h
  |false=>
   rw[hb] at h;obtain⟨nd,hx⟩:=Ad xs _ h;have hor:∀y∈xs,dN.testBit y=false/\y≠x:=by
    intro y hy;have:=hx y hy;rw[Nat.testBit_or,Nat.one_shiftLeft,Nat.testBit_two_pow] at this;rw[Bool.or_eq_false_iff] at this;exact⟨this.1,fun e=>by have:=this.2;simp[e] at this⟩
   refine⟨gI.mpr ⟨fun hm=>(hor x hm).2 rfl,nd⟩,fun y hy=>?_⟩;rcases bq.mp hy with z|z
   .rw[z];exact hb
   .exact(hor y z).1
def u7:List (Int×Int):=(List.range 32).flatMap fun a=>(List.range 32).map fun b=>(Int.ofNat a,Int.ofNat b)
def Pb(h:Int):Nat:=(h % 6554).toNat
theorem Gu(P:bL)(w:World):EH (u7.map fun y=>Pb (g9 P w y)) 0=true:=by kernel_rfl
theorem EI(h1:0<=y.1/\y.1<32)(h2:0<=y.2/\y.2<32):y∈u7:=by
 unfold u7;refine B4.mpr ⟨y.1.toNat,bY.mpr (by lia),bB.mpr ⟨y.2.toNat,bY.mpr (by lia),iG ?_ ?_⟩⟩
 .show ((y.1.toNat:Nat):Int)=y.1;lia
 .show ((y.2.toNat:Nat):Int)=y.2;lia
theorem nw:∀ {l:List α},(l.map f).Nodup->∀x∈l,∀y∈l,f x=f y->x=y
 |[],_,_,h,_,_,_=>by cases h
 |a::l,h,x,hx,y,hy,e=>by
  rw[gJ] at h;obtain⟨h1,h2⟩:=gI.mp h;rcases bq.mp hx with z|z <;> rcases bq.mp hy with z'|z'
  .rw[z,z']
  .exact absurd (bB.mpr ⟨y,z',by rw[<-e,z]⟩) h1
  .exact absurd (bB.mpr ⟨x,z,by rw[e,z']⟩) h1
  .exact nw h2 x z y z' e
theorem yh(hx:(0<=x.1/\x.1<32)/\(0<=x.2/\x.2<32))(hy:(0<=y.1/\y.1<32)/\(0<=y.2/\y.2<32))(e:g9 P w x=g9 P w y):x=y:=
 nw (Ad _ _ (Gu P w)).1 x (EI hx.1 hx.2) y (EI hy.1 hy.2) (congrArg Pb e)
theorem q8:∀ {l:List α},l.Nodup->(∀x∈l,∀y∈l,f x=f y->x=y)->(l.map f).Nodup
 |[],_,_=>kQ
 |a::l,h,hf=>by
  obtain⟨h1,h2⟩:=gI.mp h;rw[gJ];refine gI.mpr ⟨fun z=>?_,q8 h2 fun x hx y hy=>hf x (dq _ hx) y (dq _ hy)⟩;obtain⟨y,hy,e⟩:=bB.mp z;have:=hf y (dq _ hy) a cK e;exact h1 (this ▸ hy)
theorem Ae{P:bL}{w:World}(led:Bool){ys:oW}(nd:ys.Nodup)(hr:∀y∈ys,(0<=y.1/\y.1<32)/\(0<=y.2/\y.2<32))(hl:ys.length<=300):
  ∃hs t,yf led (ys.map (g9 P w))=some (hs,t)/\hs.size=ys.length:=by
 obtain⟨hs,t,e,z⟩:=Gs led (q8 nd fun x hx y hy e=>yh (P:=P) (w:=w) (hr x hx) (hr y hy) e) (by rw[aT];exact hl);exact⟨hs,t,e,by rw[z,aT]⟩
theorem yi:∀ {as:bR} {its:bw},ba (as.map V.ref) its->its=as.map Value.ref
 |[],_,r=>by cases r;rfl
 |a::as,_,r=>by
  cases r with
  |cons r rr=>
   obtain rfl:=(show _=Value.ref a from r)
   rw[yi rr];rfl
def ML(D:Addr)(n:Nat):HO:=.ext fun h=>∃hs t,l_ h D hs t/\hs.size=n
section
variable {X:Cx}
def VG(K:a_):List V->Hp->VK->Prop:=fun xs H Q=>∃ (l:Addr) (as:bR) (ys:oW),xs=[.ref l]/\a8 K H l (as.map V.ref)/\as.length=ys.length/\
 (∀i,i<ys.length->Jo K H (as.getD i 0) (ys.getD i (0,0)))/\ys.Nodup/\(∀y∈ys,(0<=y.1/\y.1<32)/\(0<=y.2/\y.2<32))/\ys.length<=300/\∀D,H D=none->Q (.ref D) (upd H D (ML D ys.length))
theorem Gv(hc:X.calm=true)(hu:X.A.units+8<cLine):gf X (.type "set") (VG X.K):=by
 intro af s σ H xs us Q I r h;obtain⟨l,as,ys,rfl,hl,e8,hp,nd,rg,h3,q⟩:=h;obtain⟨u1,rfl,r1⟩:=r.one;obtain rfl:u1=Value.ref l:=r1;obtain⟨its,rv,pl,hz⟩:=I.list hl;have e:=yi rv;subst e;have hpi:k_ s.heap (as.map Value.ref) ys:=⟨by rw[aT,e8],fun i v hv=>by
  rw[cA] at hv;cases ea:as[i]? with
  |none=>rw[ea] at hv;cases hv
  |some a=>
   rw[ea] at hv;obtain rfl:Value.ref a=v:=cB hv;have hi:i<as.length:=(eR.mp ea).1;obtain⟨o,n,t,u,e1,c,d⟩:=CO I (hp i (by lia));have eg:as.getD i 0=a:=by rw[cw,ea];rfl
   rw[eg] at e1;exact⟨a,o,n,t,u,rfl,e1,c,d⟩⟩
 have Gp:∀led,∃q:Array Int×SetTable,yf led (ys.map (g9 X.prog X.w))=some q/\q.1.size=ys.length:=fun led=>
  let ⟨hs,t,e,z⟩:=Ae (P:=X.prog) (w:=X.w) led nd rg h3;⟨(hs,t),e,z⟩
 refine Jq (I.ok.hd hc) hu pl.isList hpi (hsN:=fun led=>(Gp led).choose.1) (tN:=fun led=>(Gp led).choose.2) (fun led=>(Gp led).choose_spec.1) fun led h' tk S' k=>?_;refine⟨.ref s.heap.objs.size,_,I.z4 (t':=tk) (o:=ML s.heap.objs.size ys.length) (fun b u e=>k b u (aS e) e) (qt (aP _)) ⟨⟨_,_,S',(Gp led).choose_spec.2⟩,?_,fun h1 h2 ⟨hs,t,⟨o,es,ep,q1,q2⟩,z⟩ kk=>⟨hs,t,⟨o,es,ep,kk o q1,q2⟩,z⟩⟩,rfl,q _ I.fresh⟩;obtain⟨o,_,_,q1,_⟩:=S';exact⟨o,q1⟩
theorem Af:gf X (.builtin "len") (fun xs H Q=>∃D n,xs=[.ref D]/\H D=some (ML D n)/\n<=4096/\Q (.int n) H):=by
 intro af s σ H xs us Q I r h;obtain⟨D,n,rfl,e,hn,q⟩:=h;obtain⟨u1,rfl,r1⟩:=r.one;obtain rfl:u1=Value.ref D:=r1;obtain⟨⟨hs,t,⟨o,es,ep,q1,q2,q3,q4,q5,q6⟩,z⟩,_⟩:=(show dB X.prog X.w H s.heap D (ML D n) from I.cY D _ e)
 have iC:es.size=n:=by rw[<-z,<-q5,j7]
 exact call_len_set q1 ⟨q2,q3.1,q3.2⟩ q4 q6 (by rw[iC];lia) ⟨.int n,H,I.tok _,⟨_,by rw[iC]⟩,q⟩
theorem md:gf X (.type "range") (fun xs H Q=>∃n,xs=[.int n]/\∀p,H p=none->Q (.ref p) (upd H p (.Ef 0 n))):=by
 intro af s σ H xs us Q I r h;obtain⟨n,rfl,q⟩:=h;obtain⟨u1,rfl,t,rfl⟩:=r.one;refine call_range_1 ⟨.ref s.heap.objs.size,_,I.laid (o:=.Ef 0 n) (fun b u e=>bP _ e) (aP _) ⟨_,_,_,cX _ rfl⟩,rfl,q _ I.fresh⟩
theorem oq(hc:X.calm=true):gf X (.type "list") (fun xs H Q=>∃ (p:Addr) (n:Nat),xs=[.ref p]/\H p=some (.Ef 0 n)/\n<=1000/\∀l,H l=none->Q (.ref l) (upd H l (.lst ((List.range n).map fun (i:Nat)=>V.int i)))):=by
 intro af s σ H xs us Q I r h;obtain⟨p,n,rfl,e,hn,q⟩:=h;obtain⟨u1,rfl,r1⟩:=r.one;obtain rfl:u1=Value.ref p:=r1;obtain⟨t,u,v,hp⟩:=(show dB X.prog X.w H s.heap p (.Ef 0 n) from I.cY p _ e)
 refine call_list_range (n:=n) (I.ok.hd hc) (show IsRange s.heap p 0 n 1 t u v from hp) (small_one (by lia) (by lia) (by lia) (by lia)) (by rw[rangeSize_one];split <;> lia) (by lia) fun h' tk dN c k g it=>?_;obtain⟨i1,i2⟩:=it;refine⟨.ref s.heap.objs.size,_,I.z4 (t':=tk) (o:=.lst ((List.range n).map fun (i:Nat)=>V.int i)) (fun b u e=>k b u e) (qt (aP _)) ⟨?_,dN.toList,c,?_,by simpa using g⟩,rfl,q _ I.fresh⟩
 .rw[aT,dk];exact aZ hn (by decide)
 .have go:∀ (m:Nat) (l:bw),l.length=m->(∀ (j:Nat) v,l[j]?=some v->∃t,v=Value.int (0+(j:Int)*1) t)->ba ((List.range m).map fun (i:Nat)=>V.int i) l:=by
   intro m;induction m with
   |zero=>intro l hl _;cases l with
    |nil=>exact .nil
    |cons _ _=>cases hl
   |succ m ih=>
    intro l hl hv;have qd:l≠[]:=by intro z;rw[z] at hl;cases hl
    have el:l=l.dropLast++[l.getLast qd]:=(List.dropLast_concat_getLast qd).symm;rw[lu,dt,el];have Yy:l.dropLast.length=m:=by rw[List.length_dropLast,hl];rfl
    refine ba.append (ih _ Yy fun j v hj=>hv j v ?_) (.cons ?_ .nil)
    .rw[el];have VH:j<l.dropLast.length:=(eR.mp hj).1;rw[j3 VH];exact hj
    .obtain⟨t,ht⟩:=hv m (l.getLast qd) (by
      rw[List.getLast_eq_getElem,cz (by lia:m<l.length)];simp[hl])
     exact⟨t,by rw[ht];simp⟩
  exact go n dN.toList (by simpa using i1) fun j v hj=>i2 j v (by simpa using hj)
end
def ju(e:V->V->Bool):List V->List V->Bool
 |[],[]=>true
 |x::xs,y::ys=>e x y&&ju e xs ys
 |_,_=>false
theorem me:∀ {xs ys:bg},xs.length=ys.length->ju e xs ys=(List.range xs.length).all fun i=>e (xs.getD i .cI) (ys.getD i .cI)
 |[],[],_=>rfl
 |x::xs,y::ys,h=>by
  have h':xs.length=ys.length:=by simpa using h
  rw[ju,me h',fj,qm,lU,List.all_map];rfl
 |[],_::_,h=>by simp at h
 |_::_,[],h=>by simp at h
theorem wJ:∀ {xs ys:bg},xs.length≠ys.length->ju e xs ys=false
 |[],[],h=>absurd rfl h
 |x::xs,y::ys,h=>by
  have h':xs.length≠ys.length:=fun z=>h (by simp[z]);rw[ju,wJ h',Bool.and_false]
 |[],_::_,_=>rfl
 |_::_,[],_=>rfl
section
variable {X:Cx}
def VI(X:Cx)(H:Hp)(e:V->V->Bool)(x y:V):Prop:=∀ (af:cE) (s:aR) (σ:St) (A:br) (u v:Value),aU X af σ H s->A.units+1<cLine->bW x u->bW y v->SeqAt.EqAt A s u v (e x y)
def Z5(X:Cx)(Qz:Bool)(e:V->V->Bool):R2:=fun x y H Q=>∃p q xs ys,x=.ref p/\y=.ref q/\a8 X.K H p xs/\a8 X.K H q ys/\(∀i,i<xs.length->i<ys.length->VI X H e (xs.getD i .cI) (ys.getD i .cI))/\Q (.bl (if Qz then !ju e xs ys else ju e xs ys)) H
theorem Jx(I:aU X af σ H s)(hu:A.units+1<cLine)(rx:ba xs us)(ry:ba ys vs)(he:∀i,i<xs.length->i<ys.length->VI X H e (xs.getD i .cI) (ys.getD i .cI)):∀j (h1:j<us.toArray.size) (h2:j<vs.toArray.size),SeqAt.EqAt A s us.toArray[j] vs.toArray[j] (e (xs.getD j .cI) (ys.getD j .cI)):=by
 intro j h1 h2;have j1:j<xs.length:=by rw[rx.length];simpa using h1
 have j2:j<ys.length:=by rw[ry.length];simpa using h2
 have e1:xs[j]?=some (xs.getD j .cI):=by rw[cw,cz j1];rfl
 have e2:ys[j]?=some (ys.getD j .cI):=by rw[cw,cz j2];rfl
 obtain⟨u,VJ,ru⟩:=rx.get e1;obtain⟨v,QS,rv⟩:=ry.get e2;have eu:us.toArray[j]=u:=by
  have:us[j]?=some us.toArray[j]:=by simp at h1 |-
  rw[VJ] at this;exact(cB this).symm
 have ev:vs.toArray[j]=v:=by
  have:vs[j]?=some vs.toArray[j]:=by simp at h2 |-
  rw[QS] at this;exact(cB this).symm
 rw[eu,ev];exact he j j1 j2 af s σ A u v I hu ru rv
theorem Jy(hu:X.A.units+2<cLine):nh X (compareOp .Eq) (Z5 X false e):=by
 intro af s σ H x y v u Q I rx ry h;obtain⟨p,q,xs,ys,rfl,rfl,hp,hq,he,k⟩:=h;obtain rfl:v=Value.ref p:=rx;obtain rfl:u=Value.ref q:=ry;obtain⟨us,r1,p1,_⟩:=I.list hp;obtain⟨vs,r2,p2,_⟩:=I.list hq;by_cases hl:xs.length=ys.length
 .refine SeqAt.eq_listAt (e:=fun i=>e (xs.getD i .cI) (ys.getD i .cI)) p1.isList p2.isList (by simp only[ce];rw[<-r1.length,<-r2.length];exact hl) (by lia) (Jx I (by show X.A.units+1+1<cLine;lia) r1 r2 he) ⟨.bl _,H,I,rfl,?_⟩;rw[show us.toArray.size=xs.length by rw[ce,r1.length],<-me hl];exact k
 .refine SeqAt.eq_list_lengthsAt p1.isList p2.isList (by simp only[ce];rw[<-r1.length,<-r2.length];simpa using hl) (by lia) ⟨.bl _,H,I,rfl,?_⟩;have k':=k;rw[wJ hl] at k';exact k'
theorem wK(hc:X.calm=true):gf X (.builtin "any") (fun xs H Q=>∃ (p:Addr) (bs:List Bool),xs=[.ref p]/\a8 X.K H p (bs.map V.bl)/\Q (.bl (bs.any id)) H):=by
 intro af s σ H xs us Q I r h;obtain⟨p,bs,rfl,hp,q⟩:=h;obtain⟨u1,rfl,r1⟩:=r.one;obtain rfl:u1=Value.ref p:=r1;obtain⟨its,rv,pl,hz⟩:=I.list hp;have yj:its=bs.map Value.bool:=by
  have go:∀ (bs:List Bool) (its:bw),ba (bs.map V.bl) its->its=bs.map Value.bool:=by
   intro bs;induction bs with
   |nil=>intro its r;cases r;rfl
   |cons b bs ih=>
    intro its r;cases r with
    |cons r rr=>
     obtain rfl:=(show _=Value.bool b from r)
     rw[ih _ rr];rfl
  exact go bs its rv
 subst yj;obtain⟨ob,Z6,_⟩:=id pl.isList;have eX:p<s.heap.objs.size:=aS Z6;refine call_any_walk (ux pl.isList ⟨s.heap.objs.size,_,_,_,_,_,fun i=>bs.getD i false,rfl,Walks.list (show X.A.in1.handled=none from I.ok.hd hc) _ p (bf eX) _,⟨⟨_,cX _ rfl,rfl,rfl⟩,pl.isList.push _⟩,fun i v s1 Q' E' hv hq=>?_,fun h' tk k=>?_⟩)
 .have F8:(bs.map Value.bool)[i]?=some v:=by simpa using hv
  rw[cA] at F8;cases eb:bs[i]? with
  |none=>rw[eb] at F8;cases F8
  |some b=>
   rw[eb] at F8;obtain rfl:Value.bool b=v:=cB F8;have:bs.getD i false=b:=by rw[cw,eb];rfl
   have Jb:Q' b s1:=by rw[<-this];exact hq
   exact wpAny_pure Jb
 .have keep:∀b o,s.heap.get? b=some o->h'.get? b=some o:=fun b o e=>k b o (by simpa using bf (aS e)) (bP _ e);refine⟨.bl (bs.any id),H,I.kept (t':=tk) keep,?_,q⟩;show Value.bool _=Value.bool _;congr 1;have go:∀ (bs:List Bool),((List.range bs.length).any fun i=>bs.getD i false)=bs.any id:=by
   intro bs;induction bs with
   |nil=>rfl
   |cons b bs ih=>
    rw[fj,qm,lT,List.any_map,lT,<-ih];rfl
  rw[<-go bs];simp
end
def pF(c:Addr)(qual:Str):HO:=.ext fun h=>h.CodeRec (.ref c) qual
theorem Jz(x:h.CodeRec (.ref c) qual):dB Pzz w H h c (pF c qual):=by
 refine⟨x,?_,?_⟩
 .obtain⟨c',o,vs,t,e,ho,_⟩:=x;cases e;exact⟨o,ho⟩
 .rintro h1 h2 ⟨c',o,vs,t,e,ho,r⟩ k;cases e;exact⟨c,o,vs,t,rfl,k o ho,r⟩
def Pc(f:Addr)(qual:Str)(params:lX)(body:Expr)(scope:Scope)(cells:iO)(c:Addr)(h:Heap):Prop:=
 ∃ (dJ:iO) (pm Ag:Value),(∀x a,dJ.lookup x=some a->cells.lookup x=some a)/\(∀x,(x,NameKind.free)∈scope.names->∃a,dJ.lookup x=some a)/\
  h.get? f=some (W.kla_obj "<lambda>" qual params body scope dJ pm c Ag)
def vV(f:Addr)(qual:Str)(params:lX)(body:Expr)(scope:Scope)(cells:iO)(c:Addr):HO:=.ext (Pc f qual params body scope cells c)
theorem EJ(x:Pc f qual params body scope cells c h):
  dB Pzz w H h f (vV f qual params body scope cells c):=by
 refine⟨x,?_,?_⟩
 .obtain⟨_,_,_,_,_,e⟩:=x;exact⟨_,e⟩
 .rintro h1 h2 ⟨dJ,pm,Ag,a,b,e⟩ k;exact⟨dJ,pm,Ag,a,b,k _ e⟩
def dU(lp:Pos)(qual:Str)(P:Addr)(H:Hp):Prop:=H P=some (.jo #[])\/∃c,H P=some (.jo #[rawInt lp.line,rawInt lp.col,.ref c])/\H c=some (pF c qual)
structure MM(X:Cx)(c P:Addr):Prop where
 code:X.env.code=.ref c
 hd:W.CodeHd X.base c P
 bm:∃bm o,X.mg "__builtins__"=some (.ref bm)/\bm≠builtinsNs/\bm≠mainGlobals/\X.base.get? bm=some o/\o.cls=.type "module"/\o.dict=some builtinsNs/\o.data=.plain
def Z7(lp:Pos)(qual:Str)(P:Addr)(params:lX)(body:Expr)(scope:Scope)(cells:iO):TE:=fun _ H Q=>dU lp qual P H/\
 ∀ (f c:Addr) (H2:Hp),dU lp qual P H2->(∀b o,H b=some o->b≠P->H2 b=some o)->H2 c=some (pF c qual)->H2 f=some (vV f qual params body scope cells c)->Q (.ref f) H2
theorem Ah{lp:Pos}{c:Addr}:TriplesOk (#[rawInt lp.line,rawInt lp.col,.ref c]:bD).toList:=trivial
theorem Gw:codeAmong lp (#[rawInt lp.line,rawInt lp.col,.ref c]:bD).toList=some (.ref c):=by
 show (if ((lp.line:Int)==(lp.line:Int)&&(lp.col:Int)==(lp.col:Int))=true then some (Value.ref c) else _)=_;simp
section
variable {X:Cx} {c P:Addr} {params:lX} {body:Expr} {scope:Scope} {lp:Pos} {NB:bQ} {src:bA}
theorem MM.at(C:MM X c Pzz)(I:aU X af σ H s)(hP:H Pzz=some (.jo ps)):s.heap.BuiltinsAt X.mg Pzz:=by
 obtain⟨bm,o,b1,b2,b3,b4,b5,b6,b7⟩:=C.bm;refine⟨bm,o,b1,b2,b3,fun z=>?_,I.bk _ _ b4,b5,b6,b7⟩;have:=(I.bs _ _ b4).2;rw[z,hP] at this;cases this
theorem aU.Pd(I:aU X af σ H s):s.heap.Ns mainGlobals X.mg:=I.mod.glob.keeps I.bk
theorem u8(C:MM X c Pzz)(S:iw NB src scope X)(Z8:defaultsOf params X.env=([],[]):=by rfl):PE X (.Lambda params body scope lp) (Z7 lp (X.env.qual++"<lambda>") Pzz params body scope X.env.cells):=by
 intro af s σ H Q I h;obtain⟨tab,h⟩:=h;obtain⟨dJ,ecl,c1,c2⟩:=oo I.ok S;refine W.kla_eval Z8 ?_;have iC:∀b o,s.heap.get? b=some o->b<s.heap.objs.size:=fun b o e=>aS e;rcases tab with hP|⟨c',hP,zD⟩
 .-- the first time
  have VL:s.heap.get? Pzz=some (W.tabObj #[]):=I.cY Pzz _ hP;have hPL:X.env.locals≠Pzz:=fun z=>by have f:=I.free;rw[z,hP] at f;cases f
  have hPg:mainGlobals≠Pzz:=fun z=>by
   obtain⟨o,es,ep,e,d,_⟩:=I.mod.glob;have:=(I.bs _ _ e).2;rw[z,hP] at this;cases this
  refine W.kla_makeFunction (mg:=X.mg) ecl I.ok.glob I.Pd C.code (C.hd.keeps I.bk) VL (by trivial) rfl hPg (C.at I hP) fun c' Ag h' tk hx MN eX Z9 Yz=>?_;have MP:∀b o,b≠Pzz->s.heap.get? b=some o->(h'.push (W.kla_obj "<lambda>" (X.env.qual++"<lambda>") params body scope dJ ((X.mg "__name__").getD .none) c' Ag)).get? b=some o:=fun b o hb e=>bP _ (hx b o hb e);have hcP:c'≠Pzz:=gO (bv (iC _ _ VL) MN);have hfP:h'.objs.size≠Pzz:=gO (bv (iC _ _ VL) (aZ MN (kW eX)));have hfc:h'.objs.size≠c':=gO eX;have nf:H h'.objs.size=none:=I.cY.fresh (by lia);have nc:H c'=none:=I.cY.fresh MN
  let H2:Hp:=upd (upd (upd H Pzz (.jo #[rawInt lp.line,rawInt lp.col,.ref c'])) c' (pF c' (X.env.qual++"<lambda>"))) h'.objs.size (vV h'.objs.size (X.env.qual++"<lambda>") params body scope X.env.cells c')
  have eP:H2 Pzz=some (.jo #[rawInt lp.line,rawInt lp.col,.ref c']):=by
   show upd _ _ _ _=_;rw[aq hfP.symm,aq hcP.symm,ae]
  have ec:H2 c'=some (pF c' (X.env.qual++"<lambda>")):=by
   show upd _ _ _ _=_;rw[aq hfc.symm,ae]
  have ef:H2 h'.objs.size=some (vV h'.objs.size (X.env.qual++"<lambda>") params body scope X.env.cells c'):=ae;have eo:∀b,b≠Pzz->b≠c'->b≠h'.objs.size->H2 b=H b:=fun b h1 h2 h3=>by
   show upd _ _ _ _=_;rw[aq h3,aq h2,aq h1]
  have iz:∀b o,H b=some o->b≠Pzz->H2 b=some o:=fun b o e hb=>by
   rw[eo b hb (am e nc) (am e nf)];exact e
  have I2:aU X af σ H2 { s with heap:=h'.push (W.kla_obj "<lambda>" (X.env.qual++"<lambda>") params body scope dJ ((X.mg "__name__").getD .none) c' Ag),toks:=tk }:=by
   refine I.step (g':=s.gens) (d':=s.drawn) (ch:=[]) (fun _ z=>absurd z (by simp)) (fun b o _ _ _ e n=>MP b o (fun z=>by rw[z,hP] at n;cases n) e) (fun b o _ _ _ e n=>⟨o.slots,MP b o (fun z=>by rw[z,hP] at n;cases n) e⟩)
    (fun b o _ e n=>?_) (fun b o _ e=>?_) (fun b xs e=>iz b _ e fun z=>by rw[z,hP] at e;cases e) (fun b o u e=>iz b _ e fun z=>by rw[z,hP] at e;cases e) (fun b ps e=>?_) (fun m hm=>?_) (fun b o e=>?_) I.bare
   .rw[eo b (fun z=>by rw[z,hP] at n;cases n) (bf (bv (iC b o e) MN)) (bf (bv (iC b o e) (aZ MN (kW eX))))];exact n
   .by_cases hb:b=Pzz
    .exact⟨_,by rw[hb];exact bP _ Yz⟩
    .exact⟨o,MP b o hb e⟩
   .by_cases hb:b=Pzz
    .rw[hb] at e |-;rw[hP] at e;cases e;exact⟨#[rawInt lp.line,rawInt lp.col,.ref c'],by rw[eP];simp⟩
    .exact⟨#[],by rw[iz b _ e hb];simp⟩
   .exact(hm.extBut hx hPL).push _
   .by_cases hbf:b=h'.objs.size
    .subst hbf;rw[ef] at e;cases e;exact EJ ⟨dJ,_,Ag,c1,c2,cX _ rfl⟩
    .by_cases ZS:b=c'
     .subst ZS;rw[ec] at e;cases e;refine Jz ?_;obtain⟨c₂,oc,vs,t,e2,Yo,r⟩:=Z9;exact⟨c₂,oc,vs,t,e2,bP _ Yo,r⟩
     .by_cases Z_:b=Pzz
      .subst Z_;rw[eP] at e;cases e;exact bP _ Yz
      .rw[eo b Z_ ZS hbf] at e;refine(I.cY b o e).jO (fun d u hd q=>MP d u ?_ q) (fun d q=>iz d _ q fun z=>by rw[z,hP] at q;cases q) fun d xs q=>iz d _ q fun z=>by rw[z,hP] at q;cases q
       rintro rfl;rcases hd with z|z
       .exact Z_ z.symm
       .rw[hP] at z;cases z
  exact⟨.ref h'.objs.size,H2,I2,rfl,h _ c' H2 (.inr ⟨c',eP,ec⟩) iz ec ef⟩
 .-- again
  have VL:s.heap.get? Pzz=some (W.tabObj #[rawInt lp.line,rawInt lp.col,.ref c']):=I.cY Pzz _ hP;refine W.kla_makeFunctionHit (mg:=X.mg) ecl I.ok.glob I.Pd C.code (C.hd.keeps I.bk) VL Ah Gw (C.at I hP) fun Ag h' tk hk MN=>?_;have nf:H h'.objs.size=none:=I.cY.fresh MN
  let H2:Hp:=upd H h'.objs.size (vV h'.objs.size (X.env.qual++"<lambda>") params body scope X.env.cells c')
  have ef:H2 h'.objs.size=some (vV h'.objs.size (X.env.qual++"<lambda>") params body scope X.env.cells c'):=ae;have iz:∀b o,H b=some o->H2 b=some o:=fun b o e=>by
   show upd _ _ _ _=_;rw[aq (am e nf)];exact e
  have MP:∀b o,s.heap.get? b=some o->(h'.push (W.kla_obj "<lambda>" (X.env.qual++"<lambda>") params body scope dJ ((X.mg "__name__").getD .none) c' Ag)).get? b=some o:=fun b o e=>bP _ (hk b o e);have I2:aU X af σ H2 { s with heap:=h'.push (W.kla_obj "<lambda>" (X.env.qual++"<lambda>") params body scope dJ ((X.mg "__name__").getD .none) c' Ag),toks:=tk }:=by
   refine I.step (g':=s.gens) (d':=s.drawn) (ch:=[]) (fun _ z=>absurd z (by simp)) (fun b o _ _ _ e n=>MP b o e) (fun b o _ _ _ e n=>⟨o.slots,MP b o e⟩)
    (fun b o _ e n=>?_) (fun b o _ e=>⟨o,MP b o e⟩) (fun b xs e=>iz b _ e) (fun b o u e=>iz b _ e) (fun b ps e=>⟨#[],by rw[iz b _ e];simp⟩) (fun m hm=>(hm.keeps hk).push _) (I.cY.laid MP MN (EJ ⟨dJ,_,Ag,c1,c2,cX _ rfl⟩)) I.bare
   .show upd _ _ _ _=_;rw[aq (bf (bv (iC b o e) MN))];exact n
  exact⟨.ref h'.objs.size,H2,I2,rfl,h _ c' H2 (.inr ⟨c',iz _ _ hP,iz _ _ zD⟩) (fun b o e _=>iz b o e) (iz _ _ zD) ef⟩
end
def C1(X:Cx)(id:String)(ks:bQ)(r:St->List V->List V->Hp->VK->Prop):Prop:=
 ∀ (af:cE) (s:aR) (σ:St) (H:Hp) (vs zs:bg) (us ws:bw) (Q:VK),aU X af σ H s->ba vs us->ba zs ws->r σ vs zs H Q->
  wpAny (model X.prog X.w) X.A (call (.builtin id) us (ks.zip ws)) (EP X af σ Q) X.xe s
def aaa(r:St->List V->List V->Hp->VK->Prop)(t tk:TA):TE:=fun σ H Q=>t σ H fun vs H1=>tk σ H1 fun zs H2=>r σ vs zs H2 Q
section
variable {X:Cx} {x:Str} {p pos:Pos} {e:Expr} {es:gZ} {Jc:List Keyword} {t tk:TA} {id:String} {ks:bQ} {r:St->List V->List V->Hp->VK->Prop}
theorem km(hc:C1 X id ks r)(hg:Gl X x)(hm:X.mg x=none)(hv:bootBuiltins x=some (.builtin id))(ha:PA X (e::es) t)(hkw:PK X Jc tk)(hn:x≠"__name__":=by decide)(Ga:(x==("__debug__":Str))=false:=by decide)(hks:(backToKw pos (keywordEach Jc X.env)).filterMap (·.1)=ks:=by rfl)(he:backTo pos (starEach (e::es) X.env)=(false,eval e X.env)::backTo pos (starEach es X.env):=by rfl)(CJ:(backTo pos (starEach (e::es) X.env)).any (·.1)=false:=by rfl)(vS:(backToKw pos (keywordEach Jc X.env)).all (·.1.isSome)=true:=by rfl)(Mt:(backToKw pos (keywordEach Jc X.env)).any (·.1.isNone)=false:=by rfl):PE X (.Call (.Name x p) (e::es) Jc pos) (aaa r t tk):=by
 intro af s σ H Q I h;refine nQ (jP I hg hm hv ?_ hn Ga);refine PyProof.Rows.callWith_kw (eD (ha pos af s σ H _ I h) fun us s1 ⟨vs,H1,I1,r1,q1⟩=>?_) he CJ vS Mt;refine eD (hkw pos af s1 σ H1 _ I1 q1) fun ws s2 ⟨zs,H2,I2,rz,q2⟩=>?_;rw[hks];exact hc af s2 σ H2 vs zs us ws Q I2 r1 rz q2
end
def QT(za zb:Int)(ns out:dG):Prop:=∃ps:List (Int×Int),ps.Perm (ns.map fun z=>((z-za) % zb,z))/\out=ps.map (·.2)/\ps.Pairwise fun p q=>p.1<=q.1
def QU(X:Cx)(qual:Str)(params:lX)(body:Expr)(scope:Scope)(ia ib:Nat):St->List V->List V->Hp->VK->Prop:=fun σ vs zs H Q=>
 ∃ (l f c:Addr) (ns:dG) (za zb:Int),vs=[.ref l]/\zs=[.ref f]/\a8 X.K H l (ns.map V.int)/\ns.length<64/\H f=some (vV f qual params body scope X.env.cells c)/\H c=some (pF c qual)/\
  σ[ia]?=some (some (.int za))/\σ[ib]?=some (some (.int zb))/\0<zb/\∀ (r:Addr) (out:dG),H r=none->QT za zb ns out->Q (.ref r) (upd H r (.lst (out.map V.int)))
theorem wL:∀ {ns:dG} {vs:bw},ba (ns.map V.int) vs->IntsAre vs ns
 |[],_,.nil=>.nil
 |_::_,_,.cons ⟨t,e⟩ r=>by subst e;exact .cons _ t (wL r)
structure VM(X:Cx)(qual:Str)(params:lX)(body:Expr)(scope:Scope)(y a b:Str)(ia ib:Nat):Prop where
 bd:∃p1 p2 p3 p4 p5,body=.BinOp (.BinOp (.Name y p1) .Sub (.Name a p2) p3) .Mod (.Name b p4) p5
 bind:∀dJ pm c Ag v,bindArgs (W.kla_fn "<lambda>" qual params body scope dJ pm (.ref c) Ag) ⟨[v],[]⟩=pure [(y,v)]
 na:X.N[ia]?=some a
 nb:X.N[ib]?=some b
 ca:X.env.scope.names.lookup a=some .cell
 cb:X.env.scope.names.lookup b=some .cell
 ly:scope.names.lookup y=some .local
 fa:scope.names.lookup a=some .free
 fb:scope.names.lookup b=some .free
 ma:(a,NameKind.free)∈scope.names
 mb:(b,NameKind.free)∈scope.names
 yk:∀z∈scope.names,z.2≠.cell
 kind:scope.kind=.function
 co:scope.isCoroutine=false
 gen:scope.isGenerator=false
 dy:(y==("__debug__":Str))=false
 da:(a==("__debug__":Str))=false/\(a==("__classdict__":Str))=false
 db:(b==("__debug__":Str))=false/\(b==("__classdict__":Str))=false
theorem C2(S:VM X qual params body scope y a b ia ib)(hr:df k X.A):
  C1 X "sorted" ["key"] (QU X qual params body scope ia ib):=by
 intro af s σ H vs zs us ws Q I r rz h;obtain⟨l,f,c,ns,za,zb,rfl,rfl,hl,LY,hf,hc,sa,sb,hb0,q⟩:=h;obtain⟨u1,rfl,r1⟩:=r.one;obtain rfl:u1=Value.ref l:=r1;obtain⟨w1,rfl,rw1⟩:=rz.one;obtain rfl:w1=Value.ref f:=rw1;obtain⟨its,rv,pl,hz⟩:=I.list hl;have hI:=wL rv;obtain⟨m,F⟩:=I.fr;obtain⟨p1,p2,p3,p4,p5,rfl⟩:=S.bd;obtain⟨dJ,pm,Ag,c1,c2,QF⟩:=(I.cY f _ hf).1;have hcr:s.heap.CodeRec (.ref c) qual:=(I.cY c _ hc).1;obtain⟨m',UT,hlk⟩:=I.loc;have VN:∃ca ta,dJ.lookup a=some ca/\s.heap.IsCell ca (some (.int za ta)):=by
  obtain⟨u,⟨ta,rfl⟩,lk⟩:=hlk ia a (.int za) S.na sa (.inr (.inl S.ca));obtain⟨ca,e1⟩:=c2 a S.ma;rcases lk with ⟨z,_⟩|⟨_,ca',e2,e3⟩
  .have z':X.env.scope.names.lookup a=some .local:=z;rw[S.ca] at z';cases z'
  .have e4:=c1 a ca e1;rw[e2] at e4;cases e4;exact⟨ca,ta,e1,e3⟩
 have VO:∃cb tb,dJ.lookup b=some cb/\s.heap.IsCell cb (some (.int zb tb)):=by
  obtain⟨u,⟨tb,rfl⟩,lk⟩:=hlk ib b (.int zb) S.nb sb (.inr (.inl S.cb));obtain⟨cb,e1⟩:=c2 b S.mb;rcases lk with ⟨z,_⟩|⟨_,cb',e2,e3⟩
  .have z':X.env.scope.names.lookup b=some .local:=z;rw[S.cb] at z';cases z'
  .have e4:=c1 b cb e1;rw[e2] at e4;cases e4;exact⟨cb,tb,e1,e3⟩
 obtain⟨ca,ta,ea,ha⟩:=VN;obtain⟨cb,tb,eb,hb⟩:=VO;have YA:∀b' (o:Obj),s.heap.get? b'=some o->(∀es ep,o.data≠.dict es ep)->b'≠X.env.locals:=fun b' o e d z=>by
  obtain⟨o',es,ep,e',d',_⟩:=F.ns;rw[z,e'] at e;cases e;exact d _ _ d'
 have len:(ns.map fun z=>(z-za) % zb).length=its.length:=by rw[aT,hI.length]
 refine ksk_sorted (b:=false) (f:=.ref f) (kz:=ns.map fun z=>(z-za) % zb) F IK pl.isList len (by rw[hI.length];exact LY) (ksk_s1 _ _) (fun x=>ksk_l1 _ _) (fun x=>ksk_t1 _ _) ?_ ?_
 .-- one key
  intro i v k hv hk h tk own F' N';have at_:∀b' u,b'≠X.env.locals->s.heap.get? b'=some u->h.get? b'=some u:=fun b' u qd e=>by
   cases z:X.base.get? b' with
   |some o=>
    have:=I.bk b' o z;rw[e] at this;cases this;exact F'.keep b' _ z
   |none=>exact(N' (b',u) (gC _ (l0 qd z e))).1
  have aab:=at_ f _ (YA f _ QF (by intro es ep z;cases z)) QF;have aac:h.CodeRec (.ref c) qual:=by
   obtain⟨c0,o,vs0,t0,e0,ho,hd,hv0⟩:=hcr;refine⟨c0,o,vs0,t0,e0,at_ _ _ (YA _ _ ho (by rw[hd];intro es ep z;cases z)) ho,hd,hv0⟩
  have QE:h.IsCell ca (some (.int za ta)):=by
   obtain⟨o,ho,hd⟩:=ha;exact⟨o,at_ _ _ (YA _ _ ho (by rw[hd];intro es ep z;cases z)) ho,hd⟩
  have vW:h.IsCell cb (some (.int zb tb)):=by
   obtain⟨o,ho,hd⟩:=hb;exact⟨o,at_ _ _ (YA _ _ ho (by rw[hd];intro es ep z;cases z)) ho,hd⟩
  obtain⟨z,tz,rfl,rfl⟩:∃z tz,v=.int z tz/\k=(z-za) % zb:=by
   obtain⟨n,t,e⟩:=hI.all v (dz hv);refine⟨n,t,e,?_⟩;rw[cA] at hk;have hn:=hI.nums;have e1:(its.map numOf)[i]?=some n:=by rw[cA,hv,e];rfl
   rw[hn] at e1;rw[e1] at hk;exact(cB hk).symm
  have JA:X.A.in1.in1.depth<recursionLimit:=by
   have:=hr.dp;show X.A.depth<_;lia
  refine qN (W.kla_callFunE JA aab rfl S.co S.gen rfl aac ?_);rw[S.bind];refine wpAny_pure (wpAny_newFunctionEnv S.yk (fun x hx=>by rw[dA.mp hx];exact S.ly) (fun h₁ Ai VP=>⟨((I.ok.mod.nolimit).keeps F'.keep).fresh _ VP,?_⟩) S.kind);have QV:∀b o,h.get? b=some o->h₁.get? b=some o:=fun b o e=>VP.extBut b o (bf (aS e)) (bP _ e);have ha₁:=QE.keeps QV;have hb₁:=vW.keeps QV;refine W.kla_codeExpr ?_;refine wpAny_BinOp (wpAny_BinOp ?_);refine qO (BW S.kind S.ly Ai (v:=.int z tz) (by simp) ?_) S.dy;refine qO (B1 S.kind S.fa ea ha₁ ?_ S.da.2) S.da.1;refine sub_int ?_;refine qO (B1 S.kind S.fb eb hb₁ ?_ S.db.2) S.db.1;refine mod_int' (by lia) ?_;rw[Bs _ (by lia)];refine KskEnd.intro (news':=kY X.base s.heap X.env.locals++own) ⟨F'.ns.keeps QV,fun b o e=>QV b o (F'.keep b o e),F'.above⟩ (fun p hp=>⟨QV _ _ (N' p hp).1,(N' p hp).2⟩) fun p hp=>hp
 .-- the list
  intro D h' tk out cc F' N' eX aad;have hD:=vU I N' eX;obtain⟨ps,hp,ho,hs⟩:=aad;have CL:∀p∈ps,∃n t,p.2=.int n t:=fun p Uh=>by
   have:=hp.mem_iff.mp Uh;exact hI.all _ (nY this).2
  have hz':((ns.map fun z=>(z-za) % zb).zip its).map (fun p=>(p.1,numOf p.2))=ns.map fun z=>((z-za) % zb,z):=by
   have hn:=hI.nums;rw[<-hn];have go:∀ (l:bw),((((l.map numOf).map fun z=>(z-za) % zb).zip l).map fun p=>(p.1,numOf p.2))=(l.map numOf).map fun z=>((z-za) % zb,z):=by
    intro l;induction l with
    |nil=>rfl
    |cons x l ih=>simp only[gJ,List.zip_cons_cons,ih]
   exact go its
  have Ji:ba ((ps.map fun p=>(p.1,numOf p.2)).map (fun p=>V.int p.2)) (ps.map Prod.snd):=by
   have go:∀ (l:List (Int×Value)),(∀p∈l,∃n t,p.2=.int n t)->ba ((l.map fun p=>(p.1,numOf p.2)).map (fun p=>V.int p.2)) (l.map Prod.snd):=by
    intro l;induction l with
    |nil=>intro _;exact .nil
    |cons x l ih=>
     intro hx;refine .cons ?_ (ih fun p hp=>hx p (dq _ hp));obtain⟨n,t,e⟩:=hx x cK;show ∃t,x.2=Value.int (numOf x.2) t;rw[e];exact⟨t,rfl⟩
   exact go ps CL
  have Aj:QT za zb ns ((ps.map fun p=>(p.1,numOf p.2)).map (·.2)):=by
   refine⟨ps.map fun p=>(p.1,numOf p.2),?_,rfl,?_⟩
   .rw[<-hz'];exact hp.map _
   .refine gk.mpr (hs.imp fun {p q} z=>?_);simpa using z
  have hDo:h'.get? D=some (seqObj "list" out cc):=(N' _ cK).1;have I2:aU X af σ (upd H D (.lst (((ps.map fun p=>(p.1,numOf p.2)).map (·.2)).map V.int))) { s with heap:=h',toks:=tk }:=by
   refine I.Vy F F' (fun p hp=>N' p (dq _ hp)) hD ⟨?_,ps.map Prod.snd,cc,?_,?_⟩
   .have h1:=hp.length_eq;rw[qE,len,uH] at h1;simp only[aT];rw[h1,hI.length];exact aZ (kW LY) (by decide)
   .have ev:=Ji;simp only[dQ] at ev |-;exact ev
   .rw[hDo,<-ho]
  exact⟨.ref D,_,I2,rfl,q D _ (I.cY.uY hD) Aj⟩
def q9(mg:cr)(base:Heap):Prop:=∃bm o,mg "__builtins__"=some (.ref bm)/\bm≠builtinsNs/\bm≠mainGlobals/\base.get? bm=some o/\o.cls=.type "module"/\o.dict=some builtinsNs/\o.data=.plain
def EK(ts:bR)(H:Hp):Prop:=(∀P∈ts,H P=some (.jo #[]))/\∀b,H b=none\/(b∈ts/\H b=some (.jo #[]))\/∃o xs,H b=some (.zh o (.lst xs))
theorem Gx{P:bL}{w:World}{K:a_}{mg mb:cr}{CX:Be}{k:Nat}{fa a:Addr}{fd:eA}{x:Str}{sp:Sp}{s₁:aR}{vs:bw}{ns:dG}{ts:bR}(KX:K.In s₁.heap)(Ai:s₁.heap.Ns mainGlobals mg)(hb:s₁.heap.Ns builtinsNs mb)(hbb:∀x:Str,x≠"__name__"->mb x=bootBuiltins x)(aae:s₁.heap.NoLimit)(hg:s₁.gens=#[])(hbm:q9 mg s₁.heap)(VQ:∀P∈ts,s₁.heap.get? P=some (W.tabObj #[]))(wr:∀P∈ts,∃c,W.codeHdIn K c P=true)(hkt:∀P∈ts,K.lookup P=none)(ha:s₁.heap.get? a=some { cls:=.type "list",data:=.seq vs.toArray })(hi:IntsAre vs ns)(hl:ns.length<=sizeLine)(hr:df k callerA)(F:∀base:Heap,K.In base->base.Ns mainGlobals mg->q9 mg base->bU P w K mg base CX k fa fd [x] sp)(VR:∀ (s:aR) (u:Value),BindsTo s fd ⟨[u],[]⟩ [(x,u)])(LR:∀H:Hp,EK ts H->a8 K H a (ns.map V.int)->sp [.ref a] H (fun v _=>v=.bl true) fun _ _ _=>False)(hCX:∀H e s',CX [] H s₁ (fun _ _ _=>False) e s'->False):
  codeAny (model P w) callerA (.call (.ref fa) ⟨[.ref a],[]⟩) (fun r s'=>r=.ok (.ret (.bool true))/\OldK s₁.heap s'.heap/\s'.os=s₁.os/\AllBare s'.gens) s₁:=by
 have rv:=wE hi;have aaf:=hi.length;have hat:a∉ts:=fun z=>by
  have:=VQ a z;rw[ha] at this;cases this
 have VS:∀H:Hp,EK ts H->a8 K H a (ns.map V.int)->oh P w H s₁.heap->(∀b,H b≠none->b=a\/b∈ts)->(H a≠none->K.lookup a=none)->
   codeAny (model P w) callerA (.call (.ref fa) ⟨[.ref a],[]⟩) (fun r s'=>r=.ok (.ret (.bool true))/\OldK s₁.heap s'.heap/\s'.os=s₁.os/\AllBare s'.gens) s₁:=by
  intro H hO hS cY hA hK;have yl:∀ {b:Addr} {o:Obj},s₁.heap.get? b=some o->H b=none->(vM s₁.heap H).get? b=some o:=fun e n=>IJ e n;have Ue:∀ {b:Addr} {o:Obj},s₁.heap.get? b=some o->(∀v n,o.data≠.seq v n)->(∀v,o.data≠.fields v)->H b=none:=fun {b o} e d1 d2=>by
   cases q:H b with
   |none=>rfl
   |some u=>
    rcases hA b (by rw[q];simp) with e'|e'
    .subst e';rw[ha] at e;cases e;exact absurd rfl (d1 _ _)
    .rw[VQ b e'] at e;cases e;exact absurd rfl (d2 _)
  have YB:∀ {b:Addr} {m:cr},s₁.heap.Ns b m->(vM s₁.heap H).Ns b m:=fun {b m} ⟨o,es,ep,e,d,r⟩=>⟨o,es,ep,yl e (Ue e (by rw[d];intro v n z;cases z) (by rw[d];intro v z;cases z)),d,r⟩
  have hKb:K.In (vM s₁.heap H):=fun b o e=>yl (KX b o e) (by
   cases q:H b with
   |none=>rfl
   |some u=>
    rcases hA b (by rw[q];simp) with e'|e'
    .subst e';rw[hK (by rw[q];simp)] at e;cases e
    .rw[hkt b e'] at e;cases e)
  have hB:q9 mg (vM s₁.heap H):=by
   obtain⟨bm,o,b1,b2,b3,b4,b5,b6,b7⟩:=hbm;exact⟨bm,o,b1,b2,b3,yl b4 (Ue b4 (by rw[b7];intro v n z;cases z) (by rw[b7];intro v z;cases z)),b5,b6,b7⟩
  have hM:Mod K mg (vM s₁.heap H):=⟨hKb,YB Ai,⟨mb,YB hb,hbb⟩,let ⟨mc,h1,h2⟩:=aae;⟨mc,YB h1,h2⟩⟩
  have e0:CC P w K mg (vM s₁.heap H) callerA [] s₁ H:=⟨rfl,hM,fun b o e=>Md e,qJ (FY _ _),trivial,fun b hb=>absurd (show b∈([]:bR) from hb) (by simp),cY,.of_eq hg⟩
  refine qM ((F _ hKb (YB Ai) hB).run callerA [] s₁ H ⟨[.ref a],[]⟩ [.ref a] [.ref a] _ _ hr e0 (VR s₁ (.ref a)) (.cons rfl .nil) (LR H hO hS)) fun r s' h=>?_;cases r with
  |error e=>exact(hCX H e s' h).elim
  |ok fl=>
   cases fl with
   |next=>exact False.elim h
   |brk=>exact False.elim h
   |cont=>exact False.elim h
   |ret u=>
    obtain⟨v,H',os,bare,un,VT,r',q⟩:=h;have q':v=.bl true:=q;subst q';obtain rfl:u=Value.bool true:=r';refine⟨rfl,⟨fun b o e=>?_,fun b o e=>un.there b o e (by simp)⟩,os,bare⟩;cases q:H b with
    |none=>exact .inl (un.keep b o e q (by intro z;exact absurd (show b∈([]:bR) from z) (by simp)) (by simp))
    |some u=>
     rcases hO.2 b with z|⟨zt,z⟩|⟨ob,xs,z⟩
     .rw[q] at z;cases z
     .obtain⟨more,z2⟩:=un.xM b _ z;have e1:=VQ b zt;rw[e] at e1;cases e1;have e2:s'.heap.get? b=some { cls:=.none,data:=.fields (#[]++more) }:=VT b _ z2;obtain⟨c,hc⟩:=wr b zt;obtain⟨oc,vsc,_,_,_,_,_,_,_,g1,g2,g3,g4,_⟩:=W.codeHd_of_K KX hc;exact .inr (.inl ⟨⟨c,oc,vsc,g1,g2,g3,g4⟩,rfl,#[],more,rfl,e2⟩)
     .have z2:=un.xL b ob _ z;obtain⟨e1,_⟩:=cY b _ z;obtain⟨e2,_⟩:=VT b _ z2;rw[e] at e1;cases e1;exact .inl e2
 have acd:∀ (H:Hp),(∀P∈ts,H P=some (.jo #[]))->True:=fun _ _=>trivial
 classical
 cases hk:K.lookup a with
 |some o=>
  have e:=KX a o hk;rw[ha] at e;cases e;refine VS (fun b=>if b∈ts then some (.jo #[]) else none) ⟨fun P hP=>ap hP,fun b=>?_⟩ (.inr ⟨_,vs.toArray,_,hk,rfl,rfl,rfl,by rw[ce,aaf];exact hl,by simpa using rv⟩) (fun b u z=>?_) (fun b z=>?_) fun z=>absurd (ao hat) z
  .by_cases hb:b∈ts
   .exact .inr (.inl ⟨hb,ap hb⟩)
   .exact .inl (ao hb)
  .by_cases hb:b∈ts
   .have z':=(ap hb).symm.trans z;cases z';exact VQ b hb
   .have z':=(ao hb).symm.trans z;cases z'
  .by_cases hb:b∈ts
   .exact .inr hb
   .exact absurd (ao hb) z
 |none=>
  refine VS (fun b=>if b=a then some (.zh { cls:=.type "list",data:=.seq vs.toArray } (.lst (ns.map V.int))) else if b∈ts then some (.jo #[]) else none) ⟨fun P hP=>?_,fun b=>?_⟩ (.inl (.inr ⟨{ cls:=.type "list",data:=.seq vs.toArray },ap rfl⟩)) (fun b u z=>?_) (fun b z=>?_) fun _=>hk
  .have:P≠a:=fun z=>hat (z ▸ hP);show (if P=a then _ else if P∈ts then _ else _)=_;rw[ao this,ap hP]
  .by_cases hb:b=a
   .exact .inr (.inr ⟨_,_,ap hb⟩)
   .by_cases ht:b∈ts
    .exact .inr (.inl ⟨ht,by show (if b=a then _ else if b∈ts then _ else _)=_;rw[ao hb,ap ht]⟩)
    .exact .inl (by show (if b=a then _ else if b∈ts then _ else _)=_;rw[ao hb,ao ht])
  .by_cases hb:b=a
   .have z':=(ap hb).symm.trans z;cases z';subst hb;exact⟨ha,by rw[aT];exact hl,vs,_,rv,ha⟩
   .have z1:(if b∈ts then some (HO.jo #[]) else none)=some u:=(ao hb).symm.trans z;by_cases ht:b∈ts
    .rw[ap ht] at z1;cases z1;exact VQ b ht
    .rw[ao ht] at z1;cases z1
  .by_cases hb:b=a
   .exact .inl hb
   .by_cases ht:b∈ts
    .exact .inr ht
    .exact absurd (by show (if b=a then _ else if b∈ts then _ else _)=_;rw[ao hb,ao ht]) z
theorem JB{l:W.OpenLaw}{n k:Nat}{q:bL}{wD:bQ}{XP:(Str->Option Value)->Heap->Prop}{YP:ID}{d:DefRec}{K:Params->W.Frag}{CX:World->Be}{sp:World->Sp}{x:Str}{ts:bR}(hn:l.most=some n)(Ud:n<=sizeLine)(Vo:d.params.defaults=[])(hr:df k callerA)(hY:∀ (w:World) (h:Heap),YP w h->(K w.params).In h)(hT:∀ (w:World) (h:Heap),YP w h->∀Pzz∈ts,h.get? Pzz=some (W.tabObj #[]))(wr:∀ (w:World),∀Pzz∈ts,∃c,W.codeHdIn (K w.params) c Pzz=true)(hkt:∀ (w:World),∀Pzz∈ts,(K w.params).lookup Pzz=none)(F:∀ (w:World) (mg:cr) (fa:Addr) (h:Heap),(K w.params).In h->h.Ns mainGlobals mg->mg d.name=some (.ref fa)->
   ∃fd:FuncData,(∀ (s:aR) (u:Value),BindsTo s fd ⟨[u],[]⟩ [(x,u)])/\
    ∀base:Heap,(K w.params).In base->base.Ns mainGlobals mg->q9 mg base->bU l.prog w (K w.params) mg base (CX w) k fa fd [x] (sp w))(LR:∀ (w:World) (H:Hp) (a:Addr) (ns:dG),ns.length<=n->EK ts H->a8 (K w.params) H a (ns.map V.int)->sp w [.ref a] H (fun v _=>v=.bl true) fun _ _ _=>False)(hCX:∀ (w:World) (H:Hp) (s:aR) (e:Value) (s':aR),CX w [] H s (fun _ _ _=>False) e s'->False):
  W.WalkO q wD XP YP l.row.toRowW d [] (fun f vs=>PySem.call f vs):=by
 refine Att.zY hn Vo fun w s₀ s₁ mg mb fa o pm cd pi a vs ns G Y ho hd aci Vp QD Jj e8 hg=>?_;have KX:=hY w _ Y;obtain⟨fd,hb,hF⟩:=F w mg fa _ KX G.T.g Vp;have hB:q9 mg s₁.heap:=by
  obtain⟨bm,ob,b1,b2,b3,b4,b5,b6⟩:=G.T.bmain;refine⟨bm,ob,b1,b2,fun z=>?_,b3,b4,b5,b6⟩;obtain⟨o',es,ep,e,Mg,_⟩:=G.T.g;rw[z,e] at b3;cases b3;rw[Mg] at b6;cases b6
 exact Gx KX G.T.g G.T.b G.T.builtins G.T.nolimit hg hB (hT w _ Y) (wr w) (hkt w) QD Jj (aZ e8 Ud) hr hF hb (fun H hO hS=>LR w H a ns e8 hO hS) fun H e s'=>hCX w H s₁ e s'
structure sI(K:a_)(x qual:Str)(st:Stmt)(f:Addr)(fd:eA)(c:Addr):Prop where
 ex:∃ (oc:Value) (od:js) (kV pi pm:Value) (an:js) (ct:Value) (Bg:m_),
  fd=W.fnOf x qual (eE st) (cP st) (aw st) .none kV pi pm an (.ref c) ct/\K.lookup f=some ⟨oc,od,.func fd,Bg⟩/\W.codeIn K (.ref c) qual=true
 kp:W.keepIn K (.ref f)=true
theorem sI.fun{K:a_}{x qual:Str}{st:Stmt}{f:Addr}{fd:eA}{c:Addr}(F:sI K x qual st f fd c):iH K x qual st f fd:=by
 obtain⟨oc,od,kV,pi,pm,an,ct,Bg,e,lk,wr⟩:=F.ex;exact⟨⟨oc,od,kV,pi,pm,an,_,ct,Bg,e,lk,wr⟩,F.kp⟩
theorem sI.ok{x qual:Str}{st:Stmt}{f:Addr}{fd:eA}{c:Addr}{N ps:bQ}{k:Nat}{sp:Sp}(F:sI K x qual st f fd c)(S:aN N ps (aw st))(len:∀vs H Q E,sp vs H Q E->vs.length=ps.length)(zR:∀ (A:br) (outer:j8) (s:aR) (H:Hp) (vs:bg) (Q:VK) (E:XK),df k (A.deeper (envOfC qual (aw st) s.heap.objs.size f (.ref c)))->sp vs H Q E->
   ∃t,Ch (l8 bo P w K mg base N qual (aw st) f (.ref c) A outer s H E).Bd (cP st) t/\t { nx:=fun _ H'=>Q .cI H',rt:=Q } (start N vs) H):bU P w K mg base bo (k+1) f fd ps sp:=by
 obtain⟨oc,od,kV,pi,pm,an,ct,Bg,rfl,lk,wr⟩:=F.ex;refine O7 lk wr S len fun A outer s H vs Q E hr LR=>?_;obtain⟨t,h,q⟩:=zR A outer s H vs Q E hr LR;exact⟨t,h.Bd,q⟩
theorem EL{x qual:Str}{st:Stmt}{f c:Addr}{oc:Value}{od an:js}{Bg:m_}{kV pi pm ct:Value}(l:K.lookup f=some ⟨oc,od,.func (W.fnOf x qual (eE st) (cP st) (aw st) .none kV pi pm an (.ref c) ct),Bg⟩)(wr:W.codeIn K (.ref c) qual=true)(kp:W.keepIn K (.ref f)=true):sI K x qual st f (W.fnOf x qual (eE st) (cP st) (aw st) .none kV pi pm an (.ref c) ct) c:=⟨⟨oc,od,kV,pi,pm,an,ct,Bg,rfl,l,wr⟩,kp⟩
theorem pG(kb:K.In base)(hb:q9 mg base)(hc:W.codeHdIn K c P'=true):
  MM (l8 CX P w K mg base N qual scope f (.ref c) A outer s H E).Bd c P':=⟨rfl,W.codeHd_of_K kb hc,hb⟩
def tK(sc scX:Scope)(y:Str×NameKind):Bool:=match y.2 with
 |.cell=>(match sc.names.lookup y.1 with|some .cell=>true|_=>false)
 |.local=>(match sc.names.lookup y.1 with|some .local=>true|_=>false)
 |.free=>(match scX.names.lookup y.1 with|some .cell=>true|some .free=>true|_=>false)
 |_=>true
def JC(NB:bQ)(src:bA)(sc:Scope)(N:bQ)(i:Nat):Bool:=match NB[i]?,src[i]? with
 |some x,some (some j)=>(N[j]?==some x)&&(match sc.names.lookup x with|some .free=>true|_=>false)
 |_,_=>true
def EM(sc:Scope):Bool:=match sc.kind with|.function=>true|_=>false
def JD(NB:bQ)(src:bA)(sc scX:Scope)(N:bQ):Bool:=
 EM sc&&decide NB.Nodup&&(src.length==NB.length)&&(sc.names.all (tK sc scX))&&(List.range NB.length).all (JC NB src sc N)
theorem bz(h:JD NB src sc X.env.scope X.N=true):iw NB src sc X:=by
 unfold JD at h;simp only[gm,uk,gg,kM] at h;obtain⟨⟨⟨⟨h1,h2⟩,h3⟩,h4⟩,h5⟩:=h;refine⟨?_,h2,h3,fun y hy z=>?_,fun y hy z=>?_,fun y hy z=>?_,fun i x j e1 e2=>?_⟩
 .unfold EM at h1;split at h1
  .assumption
  .cases h1
 .have:=h4 y hy;obtain⟨n,k⟩:=y;obtain rfl:k=.cell:=z;dsimp only[tK] at this |-;split at this
  .assumption
  .cases this
 .have:=h4 y hy;obtain⟨n,k⟩:=y;obtain rfl:k=.local:=z;dsimp only[tK] at this |-;split at this
  .assumption
  .cases this
 .have:=h4 y hy;obtain⟨n,k⟩:=y;obtain rfl:k=.free:=z;dsimp only[tK] at this |-;split at this
  .exact .inl (by assumption)
  .exact .inr (by assumption)
  .cases this
 .have hi:i<NB.length:=(eR.mp e1).1;have:=h5 i (bY.mpr hi);unfold JC at this;rw[e1,e2] at this;simp only[gm,gg] at this;refine⟨this.1,?_⟩;have t2:=this.2;split at t2
  .assumption
  .cases t2
theorem fZ{K:a_}{a D:Addr}{xs:bg}{g:TG}{tt:TT}{te:TE}{d_:rL}{σB:St}{H0:Hp}(Pv:zE)(h0:Pv 0 [] σB H0)(hl:∀i ys σ H,i<=xs.length->Pv i ys σ H->a8 K H a xs)(hs:∀i x ys σ H (Kt:j9) (Kf:ir),xs[i]?=some x->Pv i ys σ H->
   (∀v σ2 H4,H4 D=some (.lst ys)->ys.length<sizeLine->Pv (i+1) (ys++[v]) σ2 (upd H4 D (.lst (ys++[v])))->Kt v σ2 H4)->(∀σ2 H3,Pv (i+1) ys σ2 H3->Kf σ2 H3)->
   g x σ H fun σ2 H2=>tt σ2 H2 fun b H3=>if b=true then te σ2 H3 fun v H4=>Kt v σ2 H4 else Kf σ2 H3)(hd:∀ys σ H,Pv xs.length ys σ H->d_ H):ix (IU K a) g tt te D d_ σB H0:=by
 refine⟨fun i m σ H=>m=xs.length-i/\i<=xs.length/\∃ys,Pv i ys σ H,⟨xs.length,by simp,cp _,[],h0⟩,?_⟩;rintro i m σ H ⟨rfl,hi,ys,p⟩;have q:=hl i ys σ H hi p;by_cases eX:i<xs.length
 .refine .inr ⟨⟨xs,xs[i],q,by simp[eX]⟩,?_⟩;rintro x H' ⟨rfl,y⟩;exact hs i x ys σ _ (fun v σ2 H4=>∃ys,H4 D=some (.lst ys)/\ys.length<sizeLine/\∃m',m'<xs.length-i/\m'=xs.length-(i+1)/\i+1<=xs.length/\∃vX,Pv (i+1) vX σ2 (upd H4 D (.lst (ys++[v]))))
   (fun σ2 H3=>∃m',m'<xs.length-i/\m'=xs.length-(i+1)/\i+1<=xs.length/\∃vX,Pv (i+1) vX σ2 H3) (y xs q) p
   (fun v σ2 H4 z1 z2 z3=>⟨ys,z1,z2,_,by lia,rfl,eX,_,z3⟩) (fun σ2 H3 z=>⟨_,by lia,rfl,eX,_,z⟩)
 .have e:i=xs.length:=by lia
  subst e;exact .inl ⟨⟨xs,q,aP _⟩,hd ys σ H p⟩
theorem fJ{lo:Int}{n:Nat}{D:Addr}{g:TG}{tt:TT}{te:TE}{d_:rL}{σB:St}{H0:Hp}(Pv:zE)(h0:Pv 0 [] σB H0)(hs:∀i ys σ H (Kt:j9) (Kf:ir),i<n->Pv i ys σ H->
   (∀v σ2 H4,H4 D=some (.lst ys)->ys.length<sizeLine->Pv (i+1) (ys++[v]) σ2 (upd H4 D (.lst (ys++[v])))->Kt v σ2 H4)->(∀σ2 H3,Pv (i+1) ys σ2 H3->Kf σ2 H3)->
   g (.int (lo+i)) σ H fun σ2 H2=>tt σ2 H2 fun b H3=>if b=true then te σ2 H3 fun v H4=>Kt v σ2 H4 else Kf σ2 H3)(hd:∀ys σ H,Pv n ys σ H->d_ H):ix (HV lo n) g tt te D d_ σB H0:=by
 refine⟨fun i m σ H=>m=n-i/\i<=n/\∃ys,Pv i ys σ H,⟨n,by simp,cp _,[],h0⟩,?_⟩;rintro i m σ H ⟨rfl,hi,ys,p⟩;by_cases eX:i<n
 .refine .inr ⟨eX,?_⟩;rintro x H' ⟨rfl,rfl⟩;exact hs i ys σ _ (fun v σ2 H4=>∃ys,H4 D=some (.lst ys)/\ys.length<sizeLine/\∃m',m'<n-i/\m'=n-(i+1)/\i+1<=n/\∃vX,Pv (i+1) vX σ2 (upd H4 D (.lst (ys++[v]))))
   (fun σ2 H3=>∃m',m'<n-i/\m'=n-(i+1)/\i+1<=n/\∃vX,Pv (i+1) vX σ2 H3) eX p
   (fun v σ2 H4 z1 z2 z3=>⟨ys,z1,z2,_,by lia,rfl,eX,_,z3⟩) (fun σ2 H3 z=>⟨_,by lia,rfl,eX,_,z⟩)
 .have e:i=n:=by lia
  subst e;exact .inl ⟨aP _,hd ys σ H p⟩
section
variable {κ:Type} [DecidableEq κ]
def iW(dR:List (κ×V))(k:κ):Option V:=(dR.find? fun kv=>decide (kv.1=k)).map (·.2)
def u9(dR:List (κ×V))(k:κ)(v:V):List (κ×V):=
 if (dR.any fun kv=>decide (kv.1=k))=true then dR.map (fun kv=>if kv.1=k then (kv.1,v) else kv) else dR++[(k,v)]
theorem fK{p:κ×V}{r:List (κ×V)}{k:κ}(e:p.1=k):iW (p::r) k=some p.2:=by simp[iW,lQ,e]
theorem fN{p:κ×V}{r:List (κ×V)}{k:κ}(e:¬ p.1=k):iW (p::r) k=iW r k:=by simp[iW,lQ,e]
theorem pH(k:κ):∀dR:List (κ×V),(dR.any fun kv=>decide (kv.1=k))=(iW dR k).isSome
 |[]=>rfl
 |p::r=>by
  rw[lT];by_cases e:p.1=k
  .simp only[fK e,iN e,Bool.true_or,Option.isSome_some]
  .rw[fN e,gY e,Bool.false_or];exact pH k r
theorem Al(k j:κ)(y:V):∀dR:List (κ×V),iW (dR.map fun kv=>if kv.1=k then (kv.1,y) else kv) j=(iW dR j).map fun x=>if j=k then y else x
 |[]=>rfl
 |p::r=>by
  have ih:=Al k j y r;rw[gJ];by_cases h:p.1=k
  .rw[ap h];by_cases e:p.1=j
   .rw[fK (p:=(p.1,y)) e,fK e,nW,ap (e.symm.trans h)]
   .rw[fN (p:=(p.1,y)) e,fN e,ih]
  .rw[ao h];by_cases e:p.1=j
   .rw[fK (p:=p) e,fK e,nW,ao (fun z=>h (e.trans z))]
   .rw[fN (p:=p) e,fN e,ih]
theorem wM(k j:κ)(y:V):∀dR:List (κ×V),iW dR k=none->iW (dR++[(k,y)]) j=if j=k then some y else iW dR j
 |[],_=>by
  by_cases e:k=j
  .rw[ap e.symm];exact fK (p:=(k,y)) e
  .rw[ao (fun z=>e z.symm)];exact fN (p:=(k,y)) e
 |p::r,hn=>by
  rw[List.cons_append];have hk:¬ p.1=k:=fun z=>by rw[fK z] at hn;cases hn
  rw[fN hk] at hn;have ih:=wM k j y r hn;by_cases e:p.1=j
  .rw[fK e,fK e,ao (fun z=>hk (e.trans z))]
  .rw[fN e,fN e,ih]
theorem JE(dR:List (κ×V))(k j:κ)(y:V):iW (u9 dR k y) j=if j=k then some y else iW dR j:=by
 unfold u9;by_cases a:(dR.any fun kv=>decide (kv.1=k))=true
 .rw[ap a,Al];rw[pH] at a;by_cases e:j=k
  .obtain⟨x,hx⟩:=xm.mp a;rw[ap e,e,hx,nW,ap rfl]
  .rw[ao e];cases iW dR j with
   |none=>rfl
   |some x=>rw[nW,ao e]
 .rw[ao a];refine wM k j y dR ?_;rw[pH] at a;cases q:iW dR k with
  |none=>rfl
  |some x=>rw[q] at a;exact(a rfl).elim
theorem Am(dR:List (κ×V))(k:κ)(v:V):(u9 dR k v).length<=dR.length+1:=by
 unfold u9;split
 .rw[aT];lia
 .rw[dh,fj,List.length_nil];lia
theorem o4.q_(r:o4 o u):o.isSome=u.isSome:=by
 cases o with
 |none=>cases u with
  |none=>rfl
  |some _=>exact(show False from r).elim
 |some _=>cases u with
  |none=>exact(show False from r).elim
  |some _=>rfl
theorem KV.val{dR:List (κ×V)}{vs:List (κ×Value)}(r:KV dR vs)(k:κ):o4 (iW dR k) (valueAt vs k):=by
 unfold KV at r;induction r with
 |nil=>exact True.intro
 |@cons p q ps qs h t ih=>
  obtain⟨h1,h2⟩:=h;by_cases e:p.1=k
  .have e':q.1=k:=h1.symm.trans e;have b:valueAt (q::qs) k=some q.2:=by simp[valueAt,lQ,e']
   rw[fK e,b];exact h2
  .have e':¬ q.1=k:=fun z=>e (h1.trans z);have b:valueAt (q::qs) k=valueAt qs k:=by simp[valueAt,lQ,e']
   rw[fN e,b];exact ih
end
theorem Pf(r:bW (kV k) u):(cZ Pzz w).is k u=true:=by
 cases k with
 |inl i=>obtain⟨t,e⟩:=(show ∃t,u=Value.int i t from r);subst e;exact zy Pzz w i t
 |inr x=>obtain⟨t,e⟩:=(show ∃t,u=Value.str x t from r);subst e;exact zA Pzz w x t
theorem wN:∀ {ks:List iV} {us:bw},ba (ks.map kV) us->ItemsAre (cZ Pzz w) ks us
 |[],_,r=>by rw[List.map_nil] at r;cases r;exact .nil
 |k::ks,_,r=>by
  rw[gJ] at r;cases r with
  |cons h t=>exact .cons (Pf h) (wN t)
abbrev KT(H:Hp):List (List iV×V)->List (List iV×Addr×Value)->Prop:=Paired fun p q=>p.1=q.1/\H q.2.1=some (.tup (p.1.map kV))/\bW p.2 q.2.2
theorem KT.val{H:Hp}{dR:List (List iV×V)}{xs:List (List iV×Addr×Value)}(r:KT H dR xs)(k:List iV):o4 (iW dR k) ((atKey xs k).map (·.2)):=by
 induction r with
 |nil=>exact True.intro
 |@cons p q ps qs h t ih=>
  obtain⟨h1,_,h2⟩:=h;by_cases e:p.1=k
  .have e':q.1=k:=h1.symm.trans e;have b:atKey (q::qs) k=some q.2:=by simp[atKey,lQ,e']
   rw[fK e,b];exact h2
  .have e':¬ q.1=k:=fun z=>e (h1.trans z);have b:atKey (q::qs) k=atKey qs k:=by simp[atKey,lQ,e']
   rw[fN e,b];exact ih
theorem KT.aag(r:KT H dR xs)(k:List iV)(ry:bW y u):
  KT H (dR.map fun kv=>if kv.1=k then (kv.1,y) else kv) (xs.map (putAt k u)):=by
 induction r with
 |nil=>exact .nil
 |@cons p q ps qs h t ih=>
  rw[gJ,gJ];refine .cons ?_ ih;obtain⟨h1,h2,h3⟩:=h;unfold putAt;by_cases e:p.1=k
  .rw[ap e,ap (h1.symm.trans e)];exact⟨h1,h2,ry⟩
  .rw[ao e,ao (fun z=>e (h1.trans z))];exact⟨h1,h2,h3⟩
theorem KT.put(r:KT H dR xs)(k:List iV)(hb:H b=some (.tup (k.map kV)))(ry:bW y u):
  KT H (u9 dR k y) (storedH xs k b u):=by
 have e:(dR.any fun kv=>decide (kv.1=k))=(atKey xs k).isSome:=by
  rw[pH,(r.val k).q_,Option.isSome_map]
 unfold u9 storedH;rw[e];by_cases q:(atKey xs k).isSome=true
 .rw[ap q,ap q];exact r.aag k ry
 .rw[ao q,ao q];exact Paired.snoc r ⟨rfl,hb,ry⟩
theorem KT.keeps(r:KT H dR xs)(ht:∀b ys,H b=some (.tup ys)->H' b=some (.tup ys)):KT H' dR xs:=
 Paired.Qh r fun _ _ z=>⟨z.1,ht _ _ z.2.1,z.2.2⟩
section
variable {P:bL} {w:World} {H:Hp} {h:Heap} {a:Addr}
theorem Pg(ok:oh Pzz w H h)(e:Rd H a u):dB Pzz w H h a u:=e.ok ok
theorem VU(ok:oh Pzz w H h)(e:Rd H a (.dK dR)):dR.length<=sizeLine/\(a==sysModules)=false/\∃vs,KV dR vs/\h.DictOf (cZ Pzz w) a vs:=
 show dB Pzz w H h a (.dK dR) from Pg ok e
theorem rc(ok:oh Pzz w H h)(e:H a=some (.tup (ks.map kV))):(tupleKind (cZ Pzz w)).is h ks a:=by
 obtain⟨_,its,r,o,h1,h2,n,h3,_⟩:=(show dB Pzz w H h a (.tup (ks.map kV)) from ok a _ e)
 exact⟨o,its.toArray,n,h1,h2,h3,by simpa using wN r⟩
theorem VV(ok:oh Pzz w H h)(e:Rd H a (.dT dR)):dR.length<=sizeLine/\(a==sysModules)=false/\
  ∃xs,KT H dR xs/\h.DictOfH (tupleKind (cZ Pzz w)) a xs:=by
 obtain⟨z,y,xs,r,o,es,ep,h1,h2,h3,h4,h5⟩:=(show dB Pzz w H h a (.dT dR) from Pg ok e)
 refine⟨z,y,xs,r,o,es,ep,h1,h2,h3,h4,fun x hx=>?_,h5⟩;have all:∀ {l:List (List iV×V)} {m:List (List iV×Addr×Value)},KT H l m->∀x∈m,(tupleKind (cZ Pzz w)).is h x.1 x.2.1:=by
  intro l m q;induction q with
  |nil=>intro x hx;exact nomatch hx
  |@cons p q ps qs hq t ih=>
   intro x hx;rcases bq.mp hx with e|hx
   .subst e;exact rc ok (by rw[<-hq.1];exact hq.2.1)
   .exact ih x hx
 exact all r x hx
end
def JF(H:Hp)(a:Addr)(y:V)(r:Option V):Prop:=
 (∃dR k,Rd H a (.dK dR)/\y=kV k/\r=iW dR k)\/∃dR k b,Rd H a (.dT dR)/\y=.ref b/\H b=some (.tup (k.map kV))/\r=iW dR k
theorem JF.t(e:H a=some (.dT dR))(eb:H b=some (.tup (k.map kV))):JF H a (.ref b) (iW dR k):=.inr ⟨dR,k,b,.inl e,rfl,eb,rfl⟩
section
variable {X:Cx} {af:cE} {σ:St} {H:Hp} {s:aR} {a:Addr} {y v:V} {u r:Value} {o:Option V} {A:br} {E:bV}
theorem aah(hu:A.units+1<cLine)(I:aU X af σ H s)(g:JF H a y o)(ry:bW y u)(h:∀s',aU X af σ H s'->Q (.bool o.isSome) s'):
  wpAny (model X.prog X.w) A (compareOp .In u (.ref a)) Q E s:=by
 rcases g with ⟨dR,k,e,ey,l⟩|⟨dR,k,b,e,ey,eb,l⟩
 .subst ey;obtain⟨z,hd,vs,VW,dd⟩:=VU I.cY e;refine wpAny_in_of (Pf ry) hd dd.mapOf ?_;rw[<-(VW.val k).q_,<-l];exact h _ (I.tok _)
 .subst ey;cases (show u=Value.ref b from ry);obtain⟨z,hd,xs,VW,dd⟩:=VV I.cY e;refine wpAny_in_heap (tupleKind_room_in1 hu) (rc I.cY eb) hd dd ?_;have q:=(VW.val k).q_;rw[Option.isSome_map] at q;rw[<-q,<-l];exact h _ (I.tok _)
end
section
variable {X:Cx} {af:cE} {σ:St} {H:Hp} {s:aR} {a:Addr} {dR:List (iV×V)} {k:iV} {u:Value} {A:br} {E:bV}
end
def VX(ty td:TE):TE:=fun σ H Q=>ty σ H fun y H1=>td σ H1 fun x H2=>∃a o,x=.ref a/\JF H2 a y o/\Q (.bl o.isSome) H2
section
variable {X:Cx} {o i e value:Expr} {pos FZ Mr:Pos} {td ty tv:TE}
theorem QW(hu:X.A.units+1<cLine)(hi:PE X i ty)(ho:PE X o td):PC X .In i o (VX ty td):=by
 intro af s σ H Q I h;refine eD (hi af s σ H _ I h) fun iv s1 ⟨y,H1,I1,ry,q1⟩=>eD (ho af s1 σ H1 _ I1 q1) fun u s2 ⟨x,H2,I2,rx,a,ov,ex,g,q2⟩=>?_;subst ex;obtain rfl:u=Value.ref a:=rx;exact aah hu I2 g ry fun s3 I3=>⟨.bl ov.isSome,H2,I3,rfl,q2⟩
end
section
variable {X:Cx} {pos:Pos}
end
section
variable {X:Cx} {af:cE} {σ:St} {H:Hp} {s:aR} {a:Addr} {y d:V} {u r:Value} {o:Option V} {A:br} {E:bV}
end
section
variable {X:Cx} {o e f:Expr} {xR xZ:Pos} {td ty tx:TE}
end
section
variable {X:Cx} {af:cE} {σ:St} {H:Hp} {s:aR} {a:Addr} {dR:List (iV×V)} {A:br} {E:bV}
end
section
variable {X:Cx} {af:cE} {σ:St} {H:Hp} {s:aR} {a:Addr} {y:V} {u:Value} {A:br} {E:bV}
end
section
variable {X:Cx}
end
section
variable {κ:Type} [DecidableEq κ]
end
section
variable {X:Cx}
theorem u_:∀ {xs:bg} {its:bw},ba xs its->xs.all g7=true->its.countP (xW x)=xs.countP (fun z=>uT z x)
 |[],_,.nil,_=>rfl
 |y::xs,_,.cons (b:=u) r rr,f=>by
  have fy:g7 y=true:=by rw[lU,gm] at f;exact f.1
  have fx:xs.all g7=true:=by rw[lU,gm] at f;exact f.2
  have h1:[u].any (xW x)=[y].any (fun z=>uT z x):=mL (.cons r .nil) (by simp[fy]);have h2:xW x u=uT y x:=by simpa using h1
  rw[qz,qz,u_ rr fx,h2]
def QX:V->List V->Hp->VK->Prop:=fun x vs H Q=>∃ (l:Addr) (xs:bg) (y:V),x=.ref l/\vs=[y]/\H l=some (.lst xs)/\g7 y=true/\xs.all g7=true/\Q (.int (xs.countP fun z=>uT z y)) H
theorem An:Yu X "list.count" QX:=by
 intro af s σ H x vs v us Q I rx rv h;obtain⟨l,xs,y,rfl,rfl,hH,fy,fs,q⟩:=h;cases rx;obtain⟨u,rfl,ru⟩:=rv.one;obtain⟨z,its,n,r,hl,e⟩:=I.x_ hH;refine og F.slot_list_count ⟨_,e,rfl⟩ F.entry_list_count (F.args_list_count_2 _ _) (SeqAt.list_countAt l its.toArray n none #[] u (xW y)) ⟨e,fun w hw=>kh ru fy r fs w (by simpa using hw),?_⟩;refine⟨.int _,H,I.tok _,⟨s.toks,?_⟩,q⟩;rw[show its.toArray.toList=its by simp,u_ r fs]
end
theorem aU.MQ(I:aU X af σ H s)(fe:hZ X af H e)(fi:hZ X af H it)(k:∀b o,b≠e->b≠it->s.heap.get? b=some o->h'.get? b=some o)(ke:∃o,h'.get? e=some o)(ki:∃o,h'.get? it=some o)(hp:s.heap.objs.size<=p)(hl:xs.length<=sizeLine)(r:ba xs its)(ht:h'.get? p=some { cls:=.type "tuple",data:=.seq its.toArray }):aU X af σ (upd H p (.tup xs)) { s with heap:=h',toks:=t' }:=by
 have hn:=I.cY.fresh hp;obtain⟨e0,e1,e2,e3,e4,e5⟩:=fe;obtain⟨i0,i1,i2,i3,i4,i5⟩:=fi;have ne:∀b o,s.heap.get? b=some o->b≠p:=fun b o q=>bf (bv (aS q) hp);have EN:∀b o,H b=some o->b≠e/\b≠it:=fun b o q=>⟨(fun z=>by rw[z,e0] at q;cases q),(fun z=>by rw[z,i0] at q;cases q)⟩
 refine I.step (g':=s.gens) (d':=s.drawn) (ch:=[e,it]) (fun b hb=>?_) (fun b o _ _ hb q _=>?_) (fun b o _ _ hb q _=>⟨o.slots,?_⟩) (fun b o hb q n=>by rw[aq (ne b o q)];exact n) (fun b o hb q=>⟨o,?_⟩)
  (fun b ys q=>by rw[aq (am q hn)];exact q) (fun b o u q=>by rw[aq (am q hn)];exact q) (fun b ps q=>⟨#[],by rw[aq (am q hn),q];simp⟩) (fun m hm=>?_) (fun b o q=>?_) I.bare
 .rcases bq.mp hb with rfl|hb
  .exact⟨e3,e1,e4,e5⟩
  .rw[dA.mp hb];exact⟨i3,i1,i4,i5⟩
 .exact k b o (fun z=>hb (z ▸ cK)) (fun z=>hb (z ▸ dq _ cK)) q
 .exact k b o (fun z=>hb (z ▸ cK)) (fun z=>hb (z ▸ dq _ cK)) q
 .exact k b o (fun z=>hb (z ▸ cK)) (fun z=>hb (z ▸ dq _ cK)) q
 .obtain⟨o,es,ep,q,d,r'⟩:=hm;exact⟨o,es,ep,k _ _ e1.symm i1.symm q,d,r'⟩
 .by_cases hb:b=p
  .subst hb;rw[ae] at q;cases q;exact⟨hl,its,r,_,ht,rfl,_,rfl,rfl⟩
  .rw[aq hb] at q;refine(I.cY b o q).jO (fun c u hc z=>k c u ?_ ?_ z) (fun c z=>by rw[aq (am z hn)];exact z) fun c ys z=>by rw[aq (am z hn)];exact z
   .rcases hc with rfl|hc
    .exact(EN _ _ q).1
    .exact(EN _ _ hc).1
   .rcases hc with rfl|hc
    .exact(EN _ _ q).2
    .exact(EN _ _ hc).2
section
variable {X:Cx}
end
section
variable {prog:bL} {w:World} {A:br} {E:bV} {s:aR}
theorem ot(zj:s.heap.IsTupleIter it t i)(ht:s.heap.IsTuple t xs)(hx:xs[i]?=some x)(q:∀h',h'.IsTupleIter it t (i+1)->Heap.SameBut it s.heap h'->Q x { s with heap:=h' }):wpAny (model prog w) A (Builtin.SmallTypes.nextOf (.ref it)) Q E s:=by
 obtain⟨o,h1,h2,h3⟩:=id zj;obtain⟨p,k1,_,n,k3⟩:=ht;unfold Builtin.SmallTypes.nextOf;refine au (oY (name:=Str.ofString "__next__") zj.typeIs F.slot_tuple_iterator_next (lM F.slot_tuple_iterator_next zj.typeIs F.entry_tuple_iterator_next ?_ (F.args_tuple_iterator_next_1 _)));change wpAny _ _ (field (.ref it) 0 >>= _) _ _ s;refine au (gc h1 h3 (x:=.ref t) rfl ?_);change wpAny _ _ (if (Value.ref t==Value.none)=true then _ else _) _ _ s;rw[ao (by exact di)];change wpAny _ _ (field (.ref it) 1 >>= _) _ _ s;refine au (gc h1 h3 (x:=.int i 0) rfl ?_);change wpAny _ _ (seqItems? (.ref t) >>= _) _ _ s;refine au (iE k1 k3 ?_);simp only[gE,hx];refine au (wpAny_setField h1 h3 (by simp) (wpAny_pure ⟨x,rfl,wpAny_pure (q _ ?_ (qw ..))⟩));refine⟨_,nL _ h1 (Obj.isFreed_of_fields (Obj.data_mapFields h3 _)),(Obj.cls_mapFields ..).trans h2,?_⟩;rw[Obj.data_mapFields h3];simp[rawInt]
theorem re(hh:A.handled=none)(zj:s.heap.IsTupleIter it t i)(ht:s.heap.IsTuple t xs)(hx:xs[i]?=none)(q:∀h' e,Heap.ExtBut it s.heap h'->(∃o,h'.get? e=some o/\o.cls=.type "StopIteration")->E (.ref e) { s with heap:=h' }):wpAny (model prog w) A (Builtin.SmallTypes.nextOf (.ref it)) Q E s:=by
 obtain⟨o,h1,h2,h3⟩:=id zj;obtain⟨p,k1,_,n,k3⟩:=ht;unfold Builtin.SmallTypes.nextOf;refine au (oY (name:=Str.ofString "__next__") zj.typeIs F.slot_tuple_iterator_next (lM F.slot_tuple_iterator_next zj.typeIs F.entry_tuple_iterator_next ?_ (F.args_tuple_iterator_next_1 _)));change wpAny _ _ (field (.ref it) 0 >>= _) _ _ s;refine au (gc h1 h3 (x:=.ref t) rfl ?_);change wpAny _ _ (if (Value.ref t==Value.none)=true then _ else _) _ _ s;rw[ao (by exact di)];change wpAny _ _ (field (.ref it) 1 >>= _) _ _ s;refine au (gc h1 h3 (x:=.int i 0) rfl ?_);change wpAny _ _ (seqItems? (.ref t) >>= _) _ _ s;refine au (iE k1 k3 ?_);simp only[gE,hx];refine au (fv (au (wpAny_setField h1 h3 (by simp) ?stop)));case stop=>
  change wpAny _ _ (newExc (.type "StopIteration") [] >>= _) _ _ _;refine au ?_;simp only[newExc,newTuple];refine au (kJ (au (m:=firstArgMember _ _) (wpAny_of_eq (a:=Value.none) (by simp only[firstArgMember];rfl) (kJ ?_ (by size_fits)))) (by size_fits));simp only[raiseNew];refine au (wpAny_handled ?_);rw[show A.in1.handled=none from hh];exact au (wpAny_pure (wpAny_throw (q _ _ (fun b u hb z=>bP _ (bP _ ((nI _ _ (dI hb)).trans z))) ⟨_,cX _ rfl,rfl⟩)))
theorem Ao(hh:A.handled=none)(it t:Addr)(qd:t≠it)(xs:bD):Draws prog w A it [it,t] xs.size (fun i v=>xs[i]?=some v) (fun i h=>h.IsTupleIter it t i/\h.IsTuple t xs) where
 live:=fun _ _ st=>let ⟨o,ho,_⟩:=st.1;⟨o,ho⟩
 frame:=fun _ _ _ st hk=>⟨st.1.at fun o e=>hk it (by simp) o e,let ⟨o,e,r⟩:=st.2;⟨o,hk t (by simp) o e,r⟩⟩
 item:=fun i s Q E hi st q=>by
  refine ot st.1 st.2 (x:=xs[i]) (by simp[hi]) fun h' a b=>?_;obtain⟨o,e,r⟩:=st.2;exact q _ h' s.toks (by simp[hi]) ⟨a,o,(b.2 t qd).trans e,r⟩ b
 done:=fun s Q E st q=>re hh st.1 st.2 (by simp) q
end
theorem Gz(t:Addr)(xs:bD):
  Meets (Builtin.«enumerate.__new__» ⟨[.type "enumerate",.ref t],[]⟩) (fun _ R s=>s.heap.IsTuple t xs/\
   R (.ok (.ret (.ref (s.heap.push { cls:=.type "tuple_iterator",data:=.fields #[.ref t,.int 0 0] }).objs.size)))
    { s with heap:=(s.heap.push { cls:=.type "tuple_iterator",data:=.fields #[.ref t,.int 0 0] }).push { cls:=.type "enumerate",data:=.fields #[.none,.bool false,.ref s.heap.objs.size,rawInt 0,.none,.none] } }):=
 .of_wp fun prog w A R s h=>by
  obtain⟨hp,g,d,tk,os⟩:=s;obtain⟨hT,h⟩:=h;have hs:=sub_enumerate
  wp_walk
  refine wpAny_stack_any fun st=>wpAny_pure ?_;split
  .rename_i c _ _ _ _ _;cases (c==Value.type "enumerate") <;> (wp_walk using ut hT;exact⟨_,rfl,h⟩)
  .wp_walk using ut hT
   exact⟨_,rfl,h⟩
theorem C3(ht:s.heap.IsTuple t xs)(h:∀h',IsEnum h' (s.heap.objs.size+1) s.heap.objs.size 0 .none->h'.IsTupleIter s.heap.objs.size t 0->(∀b o,s.heap.get? b=some o->h'.get? b=some o)->Q (.ref (s.heap.objs.size+1)) { s with heap:=h' }):
  wpAny (model prog w) A (call (.type "enumerate") [.ref t]) Q E s:=by
 refine callType_new F.called_enumerate (by decide) (F.typeCall_enumerate_1 _) (F.newCall_enumerate_1 _) (fun obj=>F.args_object_init_2 obj _) F.entry_enumerate_new (Gz t xs) ⟨ht,?_⟩;have hz:(s.heap.push { cls:=.type "tuple_iterator",data:=.fields #[.ref t,.int 0 0] }).objs.size=s.heap.objs.size+1:=jb ..;have he:IsEnum ((s.heap.push { cls:=.type "tuple_iterator",data:=.fields #[.ref t,.int 0 0] }).push
   { cls:=.type "enumerate",data:=.fields #[.none,.bool false,.ref s.heap.objs.size,rawInt 0,.none,.none] }) (s.heap.objs.size+1) s.heap.objs.size 0 .none:=by
  have q:=cX (s.heap.push { cls:=.type "tuple_iterator",data:=.fields #[.ref t,.int 0 0] }) (o:={ cls:=.type "enumerate",data:=.fields #[.none,.bool false,.ref s.heap.objs.size,rawInt 0,.none,.none] }) rfl;rw[hz] at q;exact q
 show _/\_;rw[hz];exact⟨⟨_,he,rfl⟩,h _ he ⟨_,bP _ (cX _ rfl),rfl,rfl⟩ fun b o x=>bP _ (bP _ x)⟩
def GA(K:a_)(a:Addr):It:=
 ⟨fun i H=>∃xs x,cu K H a xs/\xs[i]?=some x,fun i H x H'=>∃p v,x=.ref p/\H p=none/\H'=upd H p (.tup [.int i,v])/\∀xs,cu K H a xs->xs[i]?=some v,fun i H=>∃xs,cu K H a xs/\xs.length<=i⟩
theorem C4{P:bL}{w:World}{K:a_}{es:gZ}{x1:Nat}{pos:Pos}(a e it:Addr)(qd:e≠it)(hae:a≠e)(hai:a≠it):
  zJ P w K (.Tuple es x1 pos) (GA K a) [e,it] e (fun i h=>(∃iz,IsEnum h e it (i:Int) iz)/\h.IsTupleIter it a i) where
 mem:=by simp
 obj:=fun i h st b hb=>by
  obtain⟨⟨iz,he⟩,⟨o,q,c,d⟩⟩:=st;rcases bq.mp hb with rfl|hb
  .exact⟨_,he,fun v z=>by
    have z':Data.fields _=Data.cell v:=z;cases z'⟩
  .rw[dA.mp hb];exact⟨o,q,fun v z=>by rw[d] at z;cases z⟩
 keep:=fun i h h' st k=>by
  obtain⟨⟨iz,he⟩,hi⟩:=st;exact⟨⟨iz,k e (by simp) _ he⟩,hi.at fun o q=>k it (by simp) o q⟩
 item:=by
  intro X hP hw hK hc i af s σ H E I hf st hg;subst hP hw hK;obtain⟨xs,x,hq,hx⟩:=hg;obtain⟨its,rv,p,hz⟩:=I.tuple hq;obtain⟨u,hu,ru⟩:=rv.get hx;obtain⟨⟨iz,he⟩,hi⟩:=st;have eX:i<its.toArray.size:=by
   have:=(eR.mp hu).1;simpa using this
  have D:=Ao (prog:=X.prog) (w:=X.w) (A:=X.A.in1) (I.ok.hd hc) it a hai its.toArray;refine wpAny_pyNext_enum_itemD D he ⟨hi,p⟩ eX qd (by simp[qd,hae.symm]) fun u' h' tk sw ho qc ht iC k=>?_;have eu:u'=u:=by
   have h1:its.toArray[i]?=some u:=by simpa using hu
   rw[h1] at sw;exact(cB sw).symm
  subst eu;refine⟨_,rfl,wpAny_letOwnedTupleGo_enum ho fun h2 VY oP=>?_⟩;have hpe:s.heap.objs.size≠e:=gO (aS he);have z7:h2.IsTupleIter it a (i+1):=qc.1.at fun o q=>(oP.2 it qd.symm).trans q;have fe:=hf e (by simp);have fi:=hf it (by simp);have I2:aU X af σ (upd H s.heap.objs.size (.tup [.int i,x])) { s with heap:=h2,toks:=tk+1 }:=by
   refine I.MQ (its:=[.int i tk,u']) fe fi (fun b o h1 h3 q=>(oP.2 b h1).trans (k b o h1 h3 q)) ⟨_,VY⟩ ?_ (aP _) (by show 2<=sizeLine;decide) (.cons ⟨_,rfl⟩ (.cons ru .nil)) ((oP.2 _ hpe).trans ht);obtain⟨o,q,_⟩:=z7;exact⟨o,q⟩
  refine⟨.ref s.heap.objs.size,_,I2,rfl,⟨_,x,rfl,I.cY.fresh (aP _),rfl,fun ys hy=>by rw[I.ij hy hq];exact hx⟩,⟨⟨u',VY⟩,z7⟩,fun b hb=>?_⟩;have f0:=(hf b hb).1;rw[aq]
  .exact f0
  .rcases bq.mp hb with rfl|hb
   .exact hpe.symm
   .rw[dA.mp hb];obtain⟨o,q,_⟩:=hi;exact bf (aS q)
 done:=by
  intro X hP hw hK hc i af s σ H E I hf st hg;subst hP hw hK;obtain⟨xs,hq,hx⟩:=hg;obtain⟨its,rv,p,hz⟩:=I.tuple hq;obtain⟨f0,f1,f2,f3,f4,f5⟩:=hf it (by simp);obtain⟨⟨iz,he⟩,hi⟩:=st;have hl:=rv.length;unfold pyNext;have hT:s.TypeIs (.ref e) "enumerate":=⟨_,he,rfl⟩
  refine au (kU (oY (name:=Str.ofString "__next__") hT F.slot_enumerate_next (lM F.slot_enumerate_next hT F.entry_enumerate_next ?_ (F.args_enumerate_next_1 _))));change wpAny _ _ (field (.ref e) 2 >>= _) _ _ _;refine au (gc he rfl (x:=.ref it) rfl (au (re (I.ok.hd hc) hi p (by simp;lia) fun h' x eb qQ=>?_)));obtain⟨o,ho,H_⟩:=qQ;exact au (Ce (T:="StopIteration") (b:=true) ⟨o,ho,H_⟩ isSubtype_stop (wpAny_pure ⟨rfl,I.turned (t':=s.toks) (fun b o hb e=>eb b o hb e) f0 f1 f3 f4 f5⟩))
 self:=fun _ _ _ _ _ st h=>by
  obtain⟨⟨iz,he⟩,_⟩:=st;exact wpAny_pyIter_enum he h
section
variable {X:Cx}
def QY(K:a_)(ta:TA):TI:=fun σ H R=>ta σ H fun vs H1=>∃a xs,vs=[.ref a]/\cu K H1 a xs/\R (GA K a) H1
theorem Ap(hg:Gl X "enumerate")(hm:X.mg "enumerate"=none)(ha:PA X [a] ta)(hs:starEach [a] X.env=[(false,eval a X.env)]:=by rfl):
  PI X (.Tuple es x1 Mr) (.Call (.Name "enumerate" p) [a] [] pos) (QY X.K ta):=by
 intro af s σ H R I h;refine Call_ (jP I hg hm (by decide +kernel:bootBuiltins "enumerate"=some (.type "enumerate")) (qf (eD (ha pos af s σ H _ I h) fun us s1 ⟨vs,H1,I1,r1,q1⟩=>?_) hs rfl));obtain⟨l,xs,rfl,hl,q⟩:=q1;obtain⟨u1,rfl,VZ⟩:=r1.one;obtain rfl:u1=Value.ref l:=VZ;obtain⟨its,rv,pt,hz⟩:=I1.tuple hl;have eX:l<s1.heap.objs.size:=by obtain⟨o,e,_⟩:=pt;exact aS e
 refine C3 (show s1.heap.IsTuple l its.toArray from pt) fun h' he hi k=>?_;have qd:s1.heap.objs.size+1≠s1.heap.objs.size:=Nat.succ_ne_self _;refine wpAny_pyIter_enum he ?_;have I2:aU X af σ H1 { s1 with heap:=h' }:=I1.kept (t':=s1.toks) k;refine⟨s1.heap.objs.size+1,[s1.heap.objs.size+1,s1.heap.objs.size],_,_,H1,rfl,I2,C4 l _ _ qd (bf (dH eX)) (bf eX),⟨⟨_,he⟩,hi⟩,fun b hb=>?_,q⟩;have vW:s1.heap.objs.size<=b:=by
  rcases bq.mp hb with rfl|hb
  .exact xK _
  .rw[dA.mp hb];exact aP _
 exact I1.zI vW (I1.cY.fresh vW)
theorem GB{K:a_}{a:Addr}{xs:bg}{g:TG}{tb:TS}{D:Cg}{σ:St}{H:Hp}(Pv:IN)(h0:Pv 0 σ H)(hl:∀i σ H,i<=xs.length->Pv i σ H->cu K H a xs)(hs:∀i x p σ H,xs[i]?=some x->Pv i σ H->H p=none->g (.ref p) σ (upd H p (.tup [.int i,x])) fun σ2 H2=>tb { D with nx:=Pv (i+1),ct:=Pv (i+1),bk:=D.nx } σ2 H2)(hd:∀σ H,Pv xs.length σ H->D.nx σ H):
  ∃W:Nat->Nat->St->Hp->Prop,(∃m,W 0 m σ H)/\∀i m σ H,W i m σ H->
   ((GA K a).stop i H/\D.nx σ H)\/((GA K a).go i H/\∃N:St->Hp->Prop,(∀σ' H',N σ' H'->∃m',m'<m/\W (i+1) m' σ' H')/\∀x H',(GA K a).Uc i H x H'->g x σ H' fun σ2 H2=>tb { D with nx:=N,ct:=N,bk:=D.nx } σ2 H2):=by
 refine⟨fun i m σ H=>m=xs.length-i/\i<=xs.length/\Pv i σ H,⟨xs.length,by simp,cp _,h0⟩,?_⟩;rintro i m σ H ⟨rfl,hi,p⟩;have q:=hl i σ H hi p;by_cases eX:i<xs.length
 .refine .inr ⟨⟨xs,xs[i],q,by simp[eX]⟩,Pv (i+1),fun σ' H' p'=>⟨xs.length-(i+1),by lia,rfl,eX,p'⟩,fun x H' y=>?_⟩;obtain⟨pp,v,rfl,hn,rfl,hv⟩:=y;exact hs i v pp σ _ (hv xs q) p hn
 .have e:i=xs.length:=by lia
  subst e;exact .inl ⟨⟨xs,q,aP _⟩,hd σ H p⟩
theorem C5{K:a_}{a D:Addr}{xs:bg}{g:TG}{tt:TT}{te:TE}{d_:rL}{σB:St}{H0:Hp}(Pv:zE)(h0:Pv 0 [] σB H0)(hl:∀i ys σ H,i<=xs.length->Pv i ys σ H->cu K H a xs)(hs:∀i x p ys σ H (Kt:j9) (Kf:ir),xs[i]?=some x->Pv i ys σ H->H p=none->
   (∀v σ2 H4,H4 D=some (.lst ys)->ys.length<sizeLine->Pv (i+1) (ys++[v]) σ2 (upd H4 D (.lst (ys++[v])))->Kt v σ2 H4)->(∀σ2 H3,Pv (i+1) ys σ2 H3->Kf σ2 H3)->
   g (.ref p) σ (upd H p (.tup [.int i,x])) fun σ2 H2=>tt σ2 H2 fun b H3=>if b=true then te σ2 H3 fun v H4=>Kt v σ2 H4 else Kf σ2 H3)(hd:∀ys σ H,Pv xs.length ys σ H->d_ H):ix (GA K a) g tt te D d_ σB H0:=by
 refine⟨fun i m σ H=>m=xs.length-i/\i<=xs.length/\∃ys,Pv i ys σ H,⟨xs.length,by simp,cp _,[],h0⟩,?_⟩;rintro i m σ H ⟨rfl,hi,ys,p⟩;have q:=hl i ys σ H hi p;by_cases eX:i<xs.length
 .refine .inr ⟨⟨xs,xs[i],q,by simp[eX]⟩,?_⟩;rintro x H' ⟨pp,v,rfl,hn,rfl,hv⟩;exact hs i v pp ys σ _ (fun v σ2 H4=>∃ys,H4 D=some (.lst ys)/\ys.length<sizeLine/\∃m',m'<xs.length-i/\m'=xs.length-(i+1)/\i+1<=xs.length/\∃vX,Pv (i+1) vX σ2 (upd H4 D (.lst (ys++[v]))))
   (fun σ2 H3=>∃m',m'<xs.length-i/\m'=xs.length-(i+1)/\i+1<=xs.length/\∃vX,Pv (i+1) vX σ2 H3) (hv xs q) p hn
   (fun v σ2 H4 z1 z2 z3=>⟨ys,z1,z2,_,by lia,rfl,eX,_,z3⟩) (fun σ2 H3 z=>⟨_,by lia,rfl,eX,_,z⟩)
 .have e:i=xs.length:=by lia
  subst e;exact .inl ⟨⟨xs,q,aP _⟩,hd ys σ H p⟩
end
section
variable {X:Cx} {tg:Expr}
end
theorem ym:typeLookup (.type "list") "keys"=pure none:=by rw[xF,xr];kernel_rfl
theorem sJ:typeLookup (.type "list") "__getattr__"=pure none:=by rw[xF,xr];kernel_rfl
theorem va(l:Addr)(u:Tok)(items:bD)(n:Nat):
  Meets (Builtin.«object.__getattribute__» ⟨[.ref l,.str "keys" u],[]⟩) (fun A R s=>s.heap.get? l=some { cls:=.type "list",data:=.seq items n }/\raisesAttr (.ref l) "keys" A R s):=
 Meets.of_wp fun prog w A R s hs=>by
  obtain⟨hp,g,d,tk,os⟩:=s;obtain⟨hl,hs⟩:=hs;have hT:(⟨hp,g,d,tk,os⟩:aR).TypeIs (.ref l) "list":=⟨_,hl,rfl⟩
  have f1:=ym;unfold Builtin.«object.__getattribute__»;repeat (any_goals (first|assumption|wp_step))
  exact wpAny_raiseAttrError hs.1 hs.2 (attrMsg_fits (by decide +kernel) (by decide +kernel))
theorem QZ(hA:A.handled=none)(hl:s.heap.get? l=some { cls:=.type "list",data:=.seq items n })(h:∀h' tk,(∀b o,s.heap.get? b=some o->h'.get? b=some o)->Q none { s with heap:=h',toks:=tk }):wpAny (model prog w) A (getAttr? (.ref l) "keys") Q E s:=by
 obtain⟨hp,g,d,tk,os⟩:=s;have hT:∀tk,(⟨hp,g,d,tk,os⟩:aR).TypeIs (.ref l) "list":=fun _=>⟨_,hl,rfl⟩
 have f1:=sub_AttributeError;have f3:=F.slot_list_getattribute.lookup;have f4:=F.slot_list_getattribute.bind (.ref l);have f5:=sJ;unfold getAttr? getAttrBy?;refine au (wpAny_mkText ?_);refine au (kU ?_);unfold getAttrBy;repeat (any_goals (first|assumption|((with_reducible show wpAny _ _ (call (Value.builtin "list.__getattribute__") _ _) _ _ _);refine og F.slot_list_getattribute (hT _) F.entry_list_ga (F.args_list_getattribute_2 _ _) (va l _ items n) ⟨hl,hA,fun h' tk' e hx=>?_⟩)|wp_step))
 obtain⟨t',u',he⟩:=hx.there;show wpAny _ _ (getattributeRaised _ _ _ _ _ _ _) _ _ _;unfold getattributeRaised;repeat (any_goals (first|assumption|wp_step))
 exact h _ _ hx.keeps
theorem rR:entryFor table "dict.update.loop"=some Builtin.«dict.update.loop»:=entryFor_of_tree (by kernel_rfl)
theorem jv:plainId "dict.update.loop"=true:=by decide +kernel
section
variable {prog:bL} {w:World} {A:br} {E:bV} {s:aR} {R:zu} {l d Ia:Addr}
end
section
variable {prog:bL} {w:World} {A:br} {E:bV} {s:aR} {l:Addr}
end
section
variable {X:Cx}
theorem GE(hc:X.calm=true):gf X (.builtin "all") (fun xs H Q=>∃ (p:Addr) (bs:List Bool),xs=[.ref p]/\a8 X.K H p (bs.map V.bl)/\Q (.bl (bs.all id)) H):=by
 intro af s σ H xs us Q I r h;obtain⟨p,bs,rfl,hp,q⟩:=h;obtain⟨u1,rfl,r1⟩:=r.one;obtain rfl:u1=Value.ref p:=r1;obtain⟨its,rv,pl,hz⟩:=I.list hp;have yj:its=bs.map Value.bool:=by
  have go:∀ (bs:List Bool) (its:bw),ba (bs.map V.bl) its->its=bs.map Value.bool:=by
   intro bs;induction bs with
   |nil=>intro its r;cases r;rfl
   |cons b bs ih=>
    intro its r;cases r with
    |cons r rr=>
     obtain rfl:=(show _=Value.bool b from r)
     rw[ih _ rr];rfl
  exact go bs its rv
 subst yj;obtain⟨ob,Z6,_⟩:=id pl.isList;have eX:p<s.heap.objs.size:=aS Z6;refine call_all_walk (ux pl.isList ⟨s.heap.objs.size,_,_,_,_,_,fun i=>bs.getD i true,rfl,Walks.list (show X.A.in1.handled=none from I.ok.hd hc) _ p (bf eX) _,⟨⟨_,cX _ rfl,rfl,rfl⟩,pl.isList.push _⟩,fun i v s1 Q' E' hv hq=>?_,fun h' tk k=>?_⟩)
 .have F8:(bs.map Value.bool)[i]?=some v:=by simpa using hv
  rw[cA] at F8;cases eb:bs[i]? with
  |none=>rw[eb] at F8;cases F8
  |some b=>
   rw[eb] at F8;obtain rfl:Value.bool b=v:=cB F8;have:bs.getD i true=b:=by rw[cw,eb];rfl
   have Jb:Q' b s1:=by rw[<-this];exact hq
   exact wpAny_pure Jb
 .have keep:∀b o,s.heap.get? b=some o->h'.get? b=some o:=fun b o e=>k b o (by simpa using bf (aS e)) (bP _ e);refine⟨.bl (bs.all id),H,I.kept (t':=tk) keep,?_,q⟩;show Value.bool _=Value.bool _;congr 1;have go:∀ (bs:List Bool),((List.range bs.length).all fun i=>bs.getD i true)=bs.all id:=by
   intro bs;induction bs with
   |nil=>rfl
   |cons b bs ih=>
    rw[fj,qm,lU,List.all_map,lU,<-ih];rfl
  rw[<-go bs];simp
end
structure d9(P:bL)(w:World)(K:a_)(mg:cr)(base:Heap)(CX:Be)(k:Nat)(x:Str)(ps:bQ)(sp:Sp):Prop where
 ex:∃f fd,mg x=some (.ref f)/\W.keepIn K (.ref f)=true/\lw K fd ps []/\bU P w K mg base CX k f fd ps sp
theorem aH(C:d9 X.prog X.w X.K X.mg X.base CX k x ps sp)(hr:df k X.A)(hx:om CX X E)(ha:PA X (e::es) t)(hg:Gl X x:=by rfl)(Ga:(x==("__debug__":Str))=false:=by decide)(he:starEach (e::es) X.env=(false,eval e X.env)::starEach es X.env:=by rfl)(HX:(backTo pos (starEach es X.env)).any (·.1)=false:=by rfl):
  PE X (.Call (.Name x p) (e::es) [] pos) (rN sp [] E t):=by
 obtain⟨f,fd,a,b,c,d⟩:=C.ex;exact Ms d hr hg a b c .nil hx ha Ga he HX
theorem aj(h:H D=none):aI H (upd H D o):=fun b u e=>by rw[aq (am e h)];exact e
def aO(p:Addr)(H H':Hp):Prop:=∀b o,H b=some o->b≠p->H' b=some o
theorem aO.refl:aO p H H:=fun _ _ h _=>h
theorem aO.trans(a:aO p H H1)(b:aO p H1 H2):aO p H H2:=fun c o h n=>b c o (a c o h n) n
theorem aO.upd:aO p H (upd H p o):=fun b u h n=>by rw[aq n];exact h
theorem aO.of(s:aI H H'):aO p H H':=fun b o h _=>s b o h
theorem aO.free(s:aO p H H')(hp:H' p≠none)(h:H' q=none):H q=none:=by
 cases z:H q with
 |none=>rfl
 |some o=>
  by_cases e:q=p
  .subst e;exact absurd h hp
  .rw[s q o z e] at h;cases h
theorem eJ(h:j<n):Je n (j:Int)=some j:=by
 unfold Je;rw[ap (by lia),ap (by lia)];simp
theorem GJ(h:as.length=n):(as++[t]).getD j 0=if j=n then t else as.getD j 0:=by
 rw[cw,cw];by_cases hj:j=n
 .subst hj;subst h;rw[ap rfl,rJ (aP _),uG];rfl
 .rw[ao hj];by_cases eX:j<as.length
  .rw[j3 eX]
  .rw[rJ (by lia),f9 (by simp;lia),f9 (by lia)]
def Holds(H:Hp)(as:bR)(n:Nat)(o:Nat->HO):Prop:=as.length=n/\∀j,j<n->H (as.getD j 0)=some (o j)
theorem Holds.nil:Holds H [] 0 o:=⟨rfl,fun j hj=>absurd hj (by lia)⟩
theorem Holds.snoc(h:Holds H as n o)(ht:H t=some (o n)):Holds H (as++[t]) (n+1) o:=by
 refine⟨by rw[dh,h.1];rfl,fun j hj=>?_⟩;rw[GJ h.1];by_cases e:j=n
 .rw[ap e,e];exact ht
 .rw[ao e];exact h.2 j (by lia)
theorem Holds.mono(h:Holds H as n o)(e:∀j,j<n->H (as.getD j 0)=some (o j)->H' (as.getD j 0)=some (o j)):Holds H' as n o:=⟨h.1,fun j hj=>e j hj (h.2 j hj)⟩
end
end L2
namespace PyProof.Rows
open PySem
def jw:Bool->Keyed->Array Keyed->Nat->Nat->Nat->StateT SortSt Sem (Option Nat):=sortPriv% PySem.Builtin.gallop
def vc:Array Keyed->Array Keyed->StateT SortSt Sem (Array Keyed):=sortPriv% PySem.Builtin.mergeLo
def vd:Array Keyed->Array Keyed->StateT SortSt Sem (Array Keyed):=sortPriv% PySem.Builtin.mergeHi
def jT:Nat->StateT SortSt Sem Unit:=sortPriv% PySem.Builtin.setMinGallop
def LZ(prog:bL)(w:World)(A:br)(s:aR)(κ:SortKind)(a₀:bu)(key:lY):Prop:=
 ∀x y,x∈a₀.toList->y∈a₀.toList->∀ (Q:IF) (E:bV),Q (decide (key x<key y)) s->wpAny (model prog w) A (keyLt' κ x.1 y.1) Q E s
structure SQ(κ:SortKind)(a₀:bu)(pd:i6)(st:bZ):Prop where
 perm:(arrOf st).Perm a₀
 kind:kindOf st=κ
 failed:failedOf st=none
 pend:pendingOf st=pd
def kk(key:lY)(a:bu)(i:Nat):Int:=(a[i]?.map key).getD 0
def So(key:lY)(a:bu)(lo hi:Nat):Prop:=∀i j,lo<=i->i<=j->j<hi->kk key a i<=kk key a j
theorem mf(h:i<a.size):kk key a i=key a[i]:=by unfold kk;rw[eL a i h];rfl
theorem Aq(h:a[i]?=b[j]?):kk key a i=kk key b j:=by unfold kk;rw[h]
section
variable {prog:bL} {w:World} {A:br} {E:bV} {s:aR} {κ:SortKind} {a₀:bu} {pd:i6} {key:lY}
theorem SQ.size{st:bZ}(h:SQ κ a₀ pd st):(arrOf st).size=a₀.size:=h.perm.size_eq
theorem SQ.setArr{st:bZ}(h:SQ κ a₀ pd st){xs:bu}(hp:xs.Perm (arrOf st)):SQ κ a₀ pd (setArr st xs):=⟨hp.trans h.perm,h.kind,h.failed,h.pend⟩
theorem SQ.at{st:bZ}(h:SQ κ a₀ pd st){i:Nat}(hi:i<a₀.size):∃p,(arrOf st)[i]?=some p/\p∈a₀.toList:=by
 have vJ:i<(arrOf st).size:=by rw[h.size];exact hi
 exact⟨(arrOf st)[i],eL _ i vJ,(jZ.mp h.perm).mem_iff.mp (by simp)⟩
theorem Q3{st:bZ}{x y:Keyed}{Q:zw}(hC:LZ prog w A s κ a₀ key)(hk:kindOf st=κ)(hx:x∈a₀.toList)(hy:y∈a₀.toList)(h:Q (some (decide (key x<key y))) st):wpS (model prog w) A E s (lt' x y) Q st:=by
 rw[lt'_eq];refine aB (fz ?_);rw[hk];refine aB (jN (kU (hC x y hx hy _ _ ⟨rfl,?_⟩)));exact aK h
theorem bE{st:bZ}{arr:bu}{i:Nat}{p:Keyed}{Q:Keyed->SortSt->Prop}(hi:arr[i]?=some p)(h:Q p st):wpS (model prog w) A E s (elem' arr i) Q st:=by
 rw[elem'_eq,hi];exact aK h
theorem pI{st:bZ}{i j:Nat}{Q:zw}(hC:LZ prog w A s κ a₀ key)(hB:SQ κ a₀ pd st)(hi:i<a₀.size)(hj:j<a₀.size)(h:∀b,b=decide (kk key (arrOf st) i<kk key (arrOf st) j)->Q (some b) st):wpS (model prog w) A E s (ltAt' i j) Q st:=by
 obtain⟨p,e1,m1⟩:=hB.at hi;obtain⟨q,e2,m2⟩:=hB.at hj;rw[ltAt'_eq];refine aB (fz ?_);refine aB (bE e1 (aB (bE e2 (Q3 hC hB.kind m1 m2 (h _ ?_)))));unfold kk;rw[e1,e2];rfl
theorem tL{st:bZ}{i j:Nat}{Q:wm}(hB:SQ κ a₀ pd st)(hj:j<=a₀.size)(h:∀aF,SQ κ a₀ pd aF->(∀k,(arrOf aF)[k]?=if i<=k/\k<j then (arrOf st)[i+j-1-k]? else (arrOf st)[k]?)->Q () aF):wpS (model prog w) A E s (reverseSlice' i j) Q st:=by
 rw[reverseSlice'_eq];exact gh (h _ (hB.setArr (mirror_perm _ _ _ _)) (getElem?_mirror_all (by rw[hB.size];exact hj)))
theorem JG{st:bZ}{i j:Nat}{Q:wm}(hB:SQ κ a₀ pd st)(hi:i<a₀.size)(hj:j<=i)(h:∀aF,SQ κ a₀ pd aF->(∀k,(arrOf aF)[k]?=if k=j then (arrOf st)[i]? else if j<k/\k<=i then (arrOf st)[k-1]? else (arrOf st)[k]?)->Q () aF):wpS (model prog w) A E s (moveDown' i j) Q st:=by
 rw[moveDown'_eq];refine gh (h _ (hB.setArr (bubble_perm _ _ _)) fun k=>?_);have:=getElem?_bubble (xs:=arrOf st) (src:=i) (by rw[hB.size];exact hi) (i-j) (by lia) k;rw[show i-(i-j)=j by lia] at this;exact this
end
def Q4(lo dv n:Nat):StateT SortSt Sem (Option Nat):=do
 reverseSlice' lo (lo+n)
 let mut n:=n
 for _ in [n:dv] do
  let some lc <- ltAt' (lo+n) (lo+n-1)|return none
  if lc then break
  n:=n+1
 return some n
def Q5(lo dv n:Nat):StateT SortSt Sem (Option Nat):=do
 rule "list.sort.descending-run"
 let mut n:=n+1
 let mut neq:=0
 for _ in [n:dv] do
  let some lc <- ltAt' (lo+n) (lo+n-1)|return none
  if lc then
   if neq > 0 then reverseSlice' (lo+n-(neq+1)) (lo+n)
   neq:=0
  else
   let some Q6 <- ltAt' (lo+n-1) (lo+n)|return none
   if Q6 then break
   neq:=neq+1
  n:=n+1
 if neq > 0 then reverseSlice' (lo+n-(neq+1)) (lo+n)
 Q4 lo dv n
theorem vY(lo dv:Nat):countRun' lo dv=(do
 let mut n:=1
 for _ in [1:dv] do
  let some lc <- ltAt' (lo+n) (lo+n-1)|return none
  if lc then break
  n:=n+1
 if n==dv then return some n
 if n > 1 then
  let some aai <- ltAt' lo (lo+n-1)|return none
  if aai then return some n
  reverseSlice' lo (lo+n)
 Q5 lo dv n):=rfl
section
variable {prog:bL} {w:World} {A:br} {E:bV} {s:aR} {κ:SortKind} {a₀:bu} {pd:i6} {key:lY} {ar:bu}
theorem gj(h:∀k,b[k]?=if i<=k/\k<j then a[i+j-1-k]? else a[k]?)(k:Nat):kk key b k=if i<=k/\k<j then kk key a (i+j-1-k) else kk key a k:=by
 unfold kk;rw[h k];split <;> rfl
end
section
variable {prog:bL} {w:World} {A:br} {E:bV} {s:aR} {κ:SortKind} {a₀:bu} {pd:i6} {ck nu:lY}
structure Nu(nu:lY)(a₀:bu):Prop where
 up:∀i j,i<j->j<a₀.size->kk nu a₀ i<kk nu a₀ j
 bd:∀x∈a₀.toList,0<=nu x/\nu x<64
structure SK(κ:SortKind)(a₀:bu)(pd:i6)(nu:lY)(k:Nat)(st:bZ):Prop where
 q:SQ κ a₀ pd st
 rest:∀j,k<=j->(arrOf st)[j]?=a₀[j]?
 nu:∀i j,i<k->k<=j->j<a₀.size->kk nu (arrOf st) i<kk nu (arrOf st) j
theorem SK.bd{k:Nat}{st:bZ}(N:Nu nu a₀)(h:SK κ a₀ pd nu k st){i:Nat}(hi:i<a₀.size):0<=kk nu (arrOf st) i/\kk nu (arrOf st) i<64:=by
 obtain⟨p,e,m⟩:=h.q.at hi;unfold kk;rw[e];exact N.bd p m
theorem SK.later{k:Nat}{st:bZ}(N:Nu nu a₀)(h:SK κ a₀ pd nu k st){i j:Nat}(hi:k<=i)(zG:i<j)(hj:j<a₀.size):kk nu (arrOf st) i<kk nu (arrOf st) j:=by
 rw[Aq (h.rest i hi),Aq (h.rest j (by lia))];exact N.up i j zG hj
theorem SK.up{k:Nat}{st:bZ}(N:Nu nu a₀)(h:SK κ a₀ pd nu k st){m:Nat}(hm:k<=m):SK κ a₀ pd nu m st:=
 ⟨h.q,fun j hj=>h.rest j (by lia),fun i j hi hj hz=>by
  by_cases c:i<k
  .exact h.nu i j c (by lia) hz
  .exact h.later N (by lia) (by lia) hz⟩
theorem SK.lt{k:Nat}{st:bZ}(N:Nu nu a₀)(h:SK κ a₀ pd nu k st){i j:Nat}(hi:i<j)(hk:k<=j)(hj:j<a₀.size):kk nu (arrOf st) i<kk nu (arrOf st) j:=by
 by_cases c:i<k
 .exact h.nu i j c hk hj
 .exact h.later N (by lia) hi hj
def zk(ck nu:lY)(a:bu)(hi:Nat):Prop:=∀i j,i<=j->j<hi->64*kk ck a i+kk nu a i<=64*kk ck a j+kk nu a j
def Ig(ck nu:lY)(a:bu)(hi:Nat):Prop:=∀i j,i<=j->j<hi->64*kk ck a j+kk nu a j<=64*kk ck a i+kk nu a i
theorem JI{st:bZ}{n ok:Nat}{Q:IG}(hC:LZ prog w A s κ a₀ ck)(N:Nu nu a₀)(hn:n<=a₀.size)(h1:1<=ok)(cY:ok<=n)(hB:SK κ a₀ pd nu ok st)(hs:zk ck nu (arrOf st) ok)(h:∀aF,SK κ a₀ pd nu n aF->zk ck nu (arrOf aF) n->Q true aF):wpS (model prog w) A E s (binarySort' 0 n ok) Q st:=by
 rw[binarySort'_eq];simp only[jI];rw[show max ok 1=ok by lia];refine aB (dL (fm (I:=fun k c aF=>c=(none,())/\SK κ a₀ pd nu k aF/\zk ck nu (arrOf aF) k) (Q:=fun c aF=>c=(none,())/\SK κ a₀ pd nu n aF/\zk ck nu (arrOf aF) n) ?_ (fun c aF hh=>?_) ⟨rfl,hB,hs⟩) ?_)
 .rintro k c aF hk1 Ph ⟨rfl,Ar,so⟩;refine aB (dL (fm (I:=fun x c rf=>(∃l r,c=(none,l,r)/\l<=r/\r<=k/\r<=l+(k-x)/\(∀i,i<l->64*kk ck (arrOf aF) i+kk nu (arrOf aF) i<=64*kk ck (arrOf aF) k+kk nu (arrOf aF) k)/\(∀i,r<=i->i<k->64*kk ck (arrOf aF) k+kk nu (arrOf aF) k<=64*kk ck (arrOf aF) i+kk nu (arrOf aF) i))/\rf=aF)
   (Q:=fun c rf=>(∃l r,c=(none,l,r)/\l<=k/\(∀i,i<l->64*kk ck (arrOf aF) i+kk nu (arrOf aF) i<=64*kk ck (arrOf aF) k+kk nu (arrOf aF) k)/\(∀i,l<=i->i<k->64*kk ck (arrOf aF) k+kk nu (arrOf aF) k<=64*kk ck (arrOf aF) i+kk nu (arrOf aF) i))/\rf=aF) ?_ ?_ ⟨⟨_,_,rfl,cp _,aP _,by lia,fun i h=>by lia,fun i h h'=>by lia⟩,rfl⟩) ?_)
  .rintro x c lC _ hx ⟨⟨l,r,rfl,aaj,hr,Uk,f1,f2⟩,rfl⟩;dsimp only;by_cases As:l>=r
   .rw[ap As];exact aK ⟨⟨_,_,rfl,by lia,f1,fun i hi vJ=>f2 i (by lia) vJ⟩,rfl⟩
   .rw[ao As];refine aB (pI hC Ar.q (by lia) (by lia) fun b eb=>?_);have nn:=Ar.lt N (i:=(l+r) / 2) (j:=k) (by lia) (aP _) (by lia);have b1:=Ar.bd N (i:=(l+r) / 2) (by lia);have b2:=Ar.bd N (i:=k) (by lia);cases b
    .have e:=uh eb.symm;refine aK ⟨⟨_,_,rfl,by lia,hr,by lia,fun i hi=>?_,f2⟩,rfl⟩;have:=so i ((l+r) / 2) (by lia) (by lia);lia
    .have e:=fu eb.symm;refine aK ⟨⟨_,_,rfl,by lia,by lia,by lia,f1,fun i hi vJ=>?_⟩,rfl⟩;have:=so ((l+r) / 2) i (by lia) (by lia);lia
  .rintro c lC ⟨⟨l,r,rfl,aaj,hr,Uk,f1,f2⟩,rfl⟩;exact⟨⟨_,_,rfl,by lia,f1,fun i hi vJ=>f2 i (by lia) vJ⟩,rfl⟩
  .rintro c lC ⟨⟨l,r,rfl,hl,f1,f2⟩,rfl⟩;dsimp only;refine aB (JG Ar.q (by lia) (by lia) fun jp iZ hg=>aK ?_);have ee:∀ (key:lY) i,kk key (arrOf jp) i=if i=l then kk key (arrOf lC) k else if l<i/\i<=k then kk key (arrOf lC) (i-1) else kk key (arrOf lC) i:=fun key i=>by
    unfold kk;rw[hg i];split
    .rfl
    .split <;> rfl
   refine⟨rfl,⟨iZ,fun j hj=>?_,fun i j hi hj hz=>?_⟩,fun i j h2 h3=>?_⟩
   .rw[hg j,ao (by lia),ao (by lia)];exact Ar.rest j (by lia)
   .rw[ee nu j,ao (by lia),ao (by lia),ee nu i];split
    .exact Ar.lt N (by lia) (by lia) hz
    .split
     .exact Ar.lt N (by lia) (by lia) hz
     .exact Ar.lt N (by lia) (by lia) hz
   .rw[ee ck,ee ck,ee nu,ee nu];by_cases c1:i=l
    .rw[ap c1,ap c1];by_cases c2:j=l
     .rw[ap c2,ap c2];exact n_ _
     .have c4:l<j/\j<=k:=by lia
      rw[ao c2,ao c2,ap c4,ap c4];exact f2 (j-1) (by lia) (by lia)
    .rw[ao c1,ao c1];by_cases c3:l<i/\i<=k
     .have c2:¬ j=l:=by lia
      have c4:l<j/\j<=k:=by lia
      rw[ap c3,ap c3,ao c2,ao c2,ap c4,ap c4];exact so _ _ (by lia) (by lia)
     .rw[ao c3,ao c3];by_cases c2:j=l
      .rw[ap c2,ap c2];exact f1 i (by lia)
      .rw[ao c2,ao c2];by_cases c4:l<j/\j<=k
       .rw[ap c4,ap c4];exact so _ _ (by lia) (by lia)
       .rw[ao c4,ao c4];exact so _ _ (by lia) (by lia)
 .obtain⟨h2,h3,h4⟩:=hh;have e:max ok n=n:=by lia
  rw[e] at h3 h4;exact⟨h2,h3,h4⟩
 .rintro c aF ⟨rfl,Ar,so⟩;exact aK (h aF Ar so)
theorem At{st:bZ}{dv n:Nat}{Q:Option (Option Nat)×Nat->SortSt->Prop}(hC:LZ prog w A s κ a₀ ck)(N:Nu nu a₀)(hn:dv<=a₀.size)(h1:1<=n)(h2:n<=dv)(hB:SK κ a₀ pd nu n st)(so:zk ck nu (arrOf st) n)(h:∀m,n<=m->m<=dv->zk ck nu (arrOf st) m->(m=dv\/kk ck (arrOf st) m<kk ck (arrOf st) (m-1))->Q (none,m) st):
  wpS (model prog w) A E s (forIn [n:dv] ((none:Option (Option Nat)),n) fun _ r=>do
   let some lc <- ltAt' r.2 (r.2-1)|pure (ForInStep.done (some none,r.2))
   if lc then pure (ForInStep.done (none,r.2)) else pure (ForInStep.yield (none,r.2+1))) Q st:=by
 refine dL (fm (I:=fun i c aF=>aF=st/\c=(none,i)/\zk ck nu (arrOf st) i) (Q:=fun c aF=>aF=st/\∃m,c=(none,m)/\n<=m/\m<=dv/\zk ck nu (arrOf st) m/\(m=dv\/kk ck (arrOf st) m<kk ck (arrOf st) (m-1))) ?_ ?_ ⟨rfl,rfl,so⟩) ?_
 .rintro i c Bj Pk z7 ⟨rfl,rfl,Pl⟩;dsimp only;have nn:=hB.lt N (i:=i-1) (j:=i) (by lia) (by lia) (by lia);refine aB (pI hC hB.q (by lia) (by lia) fun b eb=>?_);cases b
  .have e:=uh eb.symm;refine aK ⟨rfl,rfl,fun x y wO hy=>?_⟩;by_cases c1:y<i
   .exact Pl x y wO c1
   .have:y=i:=by lia
    subst this;by_cases c2:x=y
    .rw[c2];exact n_ _
    .have:=Pl x (y-1) (by lia) (by lia);lia
  .exact aK ⟨rfl,_,rfl,by lia,by lia,Pl,.inr (fu eb.symm)⟩
 .rintro c Bj ⟨rfl,rfl,Pl⟩;have:max n dv=dv:=by lia
  rw[this] at Pl |-;exact⟨rfl,_,rfl,by lia,by lia,Pl,.inl rfl⟩
 .rintro c Bj ⟨rfl,m,rfl,m1,m2,Pl,e⟩;exact h m m1 m2 Pl e
theorem SK.rev{st aF:bZ}{b i:Nat}(N:Nu nu a₀)(hB:SK κ a₀ pd nu b st)(hb:b<=i)(hi:i<=a₀.size)(hq:SQ κ a₀ pd aF)(hg:∀k,(arrOf aF)[k]?=if b<=k/\k<i then (arrOf st)[b+i-1-k]? else (arrOf st)[k]?):SK κ a₀ pd nu i aF:=
 ⟨hq,fun j hj=>by rw[hg j,ao (by lia)];exact hB.rest j (by lia),fun x j hx hj hz=>by
  rw[gj hg,gj hg,ao (by lia:¬ (b<=j/\j<i))];split
  .exact hB.lt N (by lia) (by lia) hz
  .exact hB.lt N (by lia) (by lia) hz⟩
theorem Ig.rev{st aF:bZ}{b i:Nat}(N:Nu nu a₀)(hB:SK κ a₀ pd nu b st)(hb:b<=i)(hi:i<=a₀.size)(hg:∀k,(arrOf aF)[k]?=if b<=k/\k<i then (arrOf st)[b+i-1-k]? else (arrOf st)[k]?)(de:Ig ck nu (arrOf st) b)(d1:∀x y,x<b->b<=y->y<i->kk ck (arrOf st) y<kk ck (arrOf st) x)(d2:∀x,b<=x->x<i->kk ck (arrOf st) x=kk ck (arrOf st) (i-1)):Ig ck nu (arrOf aF) i:=fun x y wO hy=>by
 rw[gj hg,gj hg,gj hg,gj hg];by_cases cy:b<=y
 .rw[ap (by lia:b<=y/\y<i),ap (by lia:b<=y/\y<i)];have by1:=hB.bd N (i:=b+i-1-y) (by lia);by_cases cx:b<=x
  .rw[ap (by lia:b<=x/\x<i),ap (by lia:b<=x/\x<i)];have e1:=d2 (b+i-1-x) (by lia) (by lia);have e2:=d2 (b+i-1-y) (by lia) (by lia);by_cases c:x=y
   .rw[c];exact n_ _
   .have:=hB.later N (i:=b+i-1-y) (j:=b+i-1-x) (by lia) (by lia) (by lia);lia
  .rw[ao (by lia:¬ (b<=x/\x<i)),ao (by lia:¬ (b<=x/\x<i))];have:=d1 x (b+i-1-y) (by lia) (by lia) (by lia);have bx:=hB.bd N (i:=x) (by lia);lia
 .rw[ao (by lia:¬ (b<=y/\y<i)),ao (by lia:¬ (b<=y/\y<i)),ao (by lia:¬ (b<=x/\x<i)),ao (by lia:¬ (b<=x/\x<i))];exact de x y wO (by lia)
theorem yn{a:bu}{b:Nat}:∀k,a[k]?=if b<=k/\k<b+1 then a[b+(b+1)-1-k]? else a[k]?:=fun k=>by
 split
 .rename_i c;rw[show b+(b+1)-1-k=k by lia]
 .rfl
theorem Au{st:bZ}{dv n:Nat}{Q:zx}(hC:LZ prog w A s κ a₀ ck)(N:Nu nu a₀)(hn:dv<=a₀.size)(h1:1<=n)(h2:n<=dv)(hB:SK κ a₀ pd nu n st)(de:Ig ck nu (arrOf st) n)(h:∀n aF,SK κ a₀ pd nu n aF->1<=n->n<=dv->zk ck nu (arrOf aF) n->Q (some n) aF):wpS (model prog w) A E s (Q4 0 dv n) Q st:=by
 unfold Q4;simp only[jI];refine aB (tL hB.q (by lia) fun lC Ic hg=>?_);have qe:SK κ a₀ pd nu n lC:=⟨Ic,fun j hj=>by rw[hg j,ao (by lia)];exact hB.rest j hj,fun i j hi hj hz=>by
  rw[gj hg,gj hg,ao (by lia:¬ (0<=j/\j<n))];split
  .exact hB.nu _ _ (by lia) hj hz
  .exact hB.nu _ _ hi hj hz⟩
 refine aB (At hC N hn h1 h2 qe (fun i j zG hj=>?_) fun m m1 m2 so _=>?_)
 .rw[gj hg,gj hg,gj hg,gj hg,ap (by lia),ap (by lia),ap (by lia),ap (by lia)];exact de _ _ (by lia) (by lia)
 .exact aK (h m lC (qe.up N m1) (by lia) m2 so)
theorem Av{st:bZ}{dv n:Nat}{Q:zx}(hC:LZ prog w A s κ a₀ ck)(N:Nu nu a₀)(hn:dv<=a₀.size)(h1:1<=n)(h2:n<dv)(hB:SK κ a₀ pd nu n st)(de:Ig ck nu (arrOf st) n)(d1:∀x,x<n->kk ck (arrOf st) n<kk ck (arrOf st) x)(h:∀n aF,SK κ a₀ pd nu n aF->1<=n->n<=dv->zk ck nu (arrOf aF) n->Q (some n) aF):wpS (model prog w) A E s (Q5 0 dv n) Q st:=by
 unfold Q5;simp only[jI];refine aB (jN (fv ⟨rfl,?_⟩));refine aB (dL (fm (I:=fun i c aF=>∃q b,c=(none,i,q)/\i=b+(q+1)/\SK κ a₀ pd nu b aF/\Ig ck nu (arrOf aF) b/\(∀x y,x<b->b<=y->y<i->kk ck (arrOf aF) y<kk ck (arrOf aF) x)/\∀x,b<=x->x<i->kk ck (arrOf aF) x=kk ck (arrOf aF) (i-1))
  (Q:=fun c aF=>∃i q b,c=(none,i,q)/\i<=dv/\i=b+(q+1)/\SK κ a₀ pd nu b aF/\Ig ck nu (arrOf aF) b/\(∀x y,x<b->b<=y->y<i->kk ck (arrOf aF) y<kk ck (arrOf aF) x)/\∀x,b<=x->x<i->kk ck (arrOf aF) x=kk ck (arrOf aF) (i-1)) ?_ ?_ ⟨0,n,rfl,rfl,hB,de,fun x y hx hy YC=>by rw[show y=n by lia];exact d1 x hx,fun x hx qQ=>by rw[show x=n by lia];rfl⟩) ?_)
 .rintro i c jp Pk z7 ⟨q,b,rfl,rfl,iZ,Pm,d3,e3⟩;dsimp only;have step:∀aF,SQ κ a₀ pd aF->(∀k,(arrOf aF)[k]?=if b<=k/\k<b+(q+1) then (arrOf jp)[b+(b+(q+1))-1-k]? else (arrOf jp)[k]?)->kk ck (arrOf jp) (b+(q+1))<kk ck (arrOf jp) (b+(q+1)-1)->
    SK κ a₀ pd nu (b+(q+1)) aF/\Ig ck nu (arrOf aF) (b+(q+1))/\(∀x y,x<b+(q+1)->b+(q+1)<=y->y<b+(q+1)+1->kk ck (arrOf aF) y<kk ck (arrOf aF) x):=fun aF hq hg lt=>by
   refine⟨iZ.rev N (by lia) (by lia) hq hg,Ig.rev N iZ (by lia) (by lia) hg Pm d3 e3,fun x y hx hy YC=>?_⟩;rw[show y=b+(q+1) by lia,gj hg,gj hg,ao (by lia)];split
   .rw[e3 (b+(b+(q+1))-1-x) (by lia) (by lia)];exact lt
   .have:=d3 x (b+(q+1)-1) (by lia) (by lia) (by lia);lia
  refine aB (pI hC iZ.q (by lia) (by lia) fun b3 eb3=>?_);cases b3
  .have e3':=uh eb3.symm;dsimp only;rw[ao (by decide)];refine aB (pI hC iZ.q (by lia) (by lia) fun b4 eb4=>?_);cases b4
   .have e4':=uh eb4.symm;have eq:kk ck (arrOf jp) (b+(q+1))=kk ck (arrOf jp) (b+(q+1)-1):=by lia
    refine aK ⟨q+1,b,rfl,rfl,iZ,Pm,fun x y hx hy YC=>?_,fun x hx qQ=>?_⟩
    .by_cases c:y<b+(q+1)
     .exact d3 x y hx hy c
     .rw[show y=b+(q+1) by lia,eq];exact d3 x _ hx (by lia) (by lia)
    .rw[show b+(q+1)+1-1=b+(q+1) by lia];by_cases c:x<b+(q+1)
     .rw[e3 x hx c,eq]
     .rw[show x=b+(q+1) by lia]
   .exact aK ⟨_,_,_,rfl,by lia,rfl,iZ,Pm,d3,e3⟩
  .have e3':=fu eb3.symm;dsimp only;rw[ap rfl];split
   .rename_i cq;rw[show b+(q+1)-(q+1)=b by lia];refine aB (tL iZ.q (by lia) fun sM hq4 hg=>aK ?_);obtain⟨s1,s2,s3⟩:=step sM hq4 hg e3';exact⟨0,b+(q+1),rfl,rfl,s1,s2,s3,fun x hx qQ=>by rw[show x=b+(q+1) by lia];rfl⟩
   .rename_i cq;have cq:q=0:=by lia
    subst cq;obtain⟨s1,s2,s3⟩:=step jp iZ.q yn e3';exact aK ⟨0,b+(0+1),rfl,rfl,s1,s2,s3,fun x hx qQ=>by rw[show x=b+(0+1) by lia];rfl⟩
 .rintro c jp ⟨q,b,rfl,e,iZ,Pm,d3,e3⟩;have:max (n+1) dv=dv:=by lia
  rw[this] at e d3 e3 |-;exact⟨_,_,_,rfl,by lia,e,iZ,Pm,d3,e3⟩
 .rintro c jp ⟨i,q,b,rfl,hi,rfl,iZ,Pm,d3,e3⟩;dsimp only;split
  .rename_i cq;rw[show b+(q+1)-(q+1)=b by lia];refine aB (tL iZ.q (by lia) fun sM hq4 hg=>?_);exact Au hC N hn (by lia) hi (iZ.rev N (by lia) (by lia) hq4 hg) (Ig.rev N iZ (by lia) (by lia) hg Pm d3 e3) h
  .rename_i cq;have cq:q=0:=by lia
   subst cq;exact Au hC N hn (by lia) hi (iZ.rev N (by lia) (by lia) iZ.q yn) (Ig.rev N iZ (by lia) (by lia) yn Pm d3 e3) h
theorem C6{st:bZ}{dv:Nat}{Q:zx}(hC:LZ prog w A s κ a₀ ck)(N:Nu nu a₀)(hn:dv<=a₀.size)(h1:1<=dv)(hB:SK κ a₀ pd nu 0 st)(h:∀n aF,SK κ a₀ pd nu n aF->1<=n->n<=dv->zk ck nu (arrOf aF) n->Q (some n) aF):wpS (model prog w) A E s (countRun' 0 dv) Q st:=by
 rw[vY];simp only[jI];refine aB (At hC N hn (aP 1) h1 (hB.up N (cp 1)) (fun i j zG hj=>by rw[show i=j by lia];exact n_ _) fun n n1 n2 so e=>?_);dsimp only;by_cases e1:(n==dv)=true
 .rw[ap e1];exact aK (h n st (hB.up N (by lia)) n1 n2 so)
 rw[ao e1];have g1:¬ (n=dv):=by simpa using e1
 have eX:kk ck (arrOf st) n<kk ck (arrOf st) (n-1):=e.resolve_left g1;by_cases e2:n > 1
 .rw[ap e2];refine aB (pI hC hB.q (by lia) (by lia) fun b2 eb=>?_);cases b2
  .have e3:=uh eb.symm;dsimp only;rw[ao (by decide)];have eq:∀k,0<=k->k<n->kk ck (arrOf st) k=kk ck (arrOf st) (n-1):=fun k _ Ph=>by
    have a1:=so 0 k (by lia) Ph;have a2:=so k (n-1) (by lia) (by lia);have c0:=hB.bd N (i:=0) (by lia);have c1:=hB.bd N (i:=k) (by lia);have c2:=hB.bd N (i:=n-1) (by lia);lia
   refine aB (tL hB.q (by lia) fun lC Ic hg=>?_);have YD:∀k,(arrOf lC)[k]?=if 0<=k/\k<n then (arrOf st)[0+n-1-k]? else (arrOf st)[k]?:=hg
   refine Av hC N hn n1 (by lia) (hB.rev N (by lia) (by lia) Ic YD) (Ig.rev N hB (by lia) (by lia) YD (fun i j zG hj=>by lia) (fun x y hx _ _=>by lia) eq) (fun x hx=>?_) h;rw[gj YD,gj YD,ao (by lia:¬ (0<=n/\n<n)),ap (by lia:0<=x/\x<n),eq (0+n-1-x) (by lia) (by lia)];exact eX
  .exact aK (h n st (hB.up N (by lia)) n1 n2 so)
 .rw[ao e2];have:n=1:=by lia
  subst this;refine Av hC N hn n1 (by lia) (hB.up N (by lia)) (fun i j zG hj=>by rw[show i=j by lia];exact n_ _) (fun x hx=>?_) h;rw[show x=1-1 by lia];exact eX
theorem ve{st:bZ}{Q:wm}(hC:LZ prog w A s κ a₀ ck)(N:Nu nu a₀)(ha:arrOf st=a₀)(hk:kindOf st=κ)(hf:failedOf st=none)(Q7:pendingOf st=#[])(h2:2<=a₀.size)(LY:a₀.size<64)(h:∀aF,(arrOf aF).Perm a₀->failedOf aF=none->zk ck nu (arrOf aF) a₀.size->Q () aF):wpS (model prog w) A E s sortRuns' Q st:=by
 rw[sortRuns'_eq];refine aB (fz ?_);dsimp only;have hmr:minRun' a₀.size a₀.size 0=a₀.size:=by
  obtain⟨f,hf⟩:∃f,a₀.size=f+1:=⟨a₀.size-1,by lia⟩
  have:minRun' (f+1) a₀.size 0=a₀.size:=by rw[minRun'_succ,ap LY];rfl
  rwa [<-hf] at this
 rw[ha];simp only[hmr];have hB:SK κ a₀ #[] nu 0 st:=⟨⟨by rw[ha],hk,hf,Q7⟩,fun j _=>by rw[ha],fun i j hi _ _=>absurd hi (nX _)⟩
 refine aB (dL (fm
  (I:=fun x c aF=>(x=0/\c=(none,0)/\SK κ a₀ #[] nu 0 aF)\/(1<=x/\c=(none,a₀.size)/\SQ κ a₀ #[(0,a₀.size,0)] aF/\zk ck nu (arrOf aF) a₀.size))
  (Q:=fun c aF=>c=(none,a₀.size)/\SQ κ a₀ #[(0,a₀.size,0)] aF/\zk ck nu (arrOf aF) a₀.size) ?step ?d_ (.inl ⟨rfl,rfl,hB⟩)) ?post)
 case d_=>
  rintro c aF (⟨hx,_,_⟩|⟨_,hc,hD⟩)
  .lia
  .exact⟨hc,hD⟩
 case step=>
  rintro x c aF _ hx (⟨rfl,rfl,Ar⟩|⟨hx1,rfl,hD⟩)
  .dsimp only;rw[ao (by lia)];simp only[uF,uH,jI];have d_:∀ {jp:bZ},SK κ a₀ #[] nu a₀.size jp->zk ck nu (arrOf jp) a₀.size->SQ κ a₀ #[(0,a₀.size,0)] (setPending jp ((pendingOf jp).push (0,a₀.size,0)))/\zk ck nu (arrOf (setPending jp ((pendingOf jp).push (0,a₀.size,0)))) a₀.size:=fun {jp} k so=>⟨⟨k.q.perm,k.q.kind,k.q.failed,by show (pendingOf jp).push _=_;rw[k.q.pend];rfl⟩,so⟩
   refine aB (C6 hC N (aP _) (by lia) Ar fun m lC qe hm1 QR oP=>?_);dsimp only;by_cases eX:m<a₀.size
   .rw[ap eX];refine aB (jN (fv ⟨rfl,?_⟩));refine aB (JI hC N (aP _) hm1 QR qe oP fun jp iZ QI=>?_);simp only[uC,iL,eG];refine aB (fz ?_);have hb:(pendingOf jp).back?=none:=by rw[iZ.q.pend];rfl
    rw[hb];dsimp only;exact aB (gh (aK (.inr ⟨by lia,rfl,d_ iZ QI⟩)))
   .rw[ao eX];have hm:m=a₀.size:=by lia
    subst hm;refine aB (fz ?_);have hb:(pendingOf lC).back?=none:=by rw[qe.q.pend];rfl
    rw[hb];dsimp only;exact aB (gh (aK (.inr ⟨by lia,rfl,d_ qe oP⟩)))
  .dsimp only;rw[ap (aP _)];exact aK ⟨rfl,hD⟩
 case post=>
  rintro c aF ⟨rfl,hD⟩;dsimp only;refine aB (dL (fm (I:=fun _ c rf=>rf=aF/\c=(none,())) (Q:=fun c rf=>rf=aF/\c=(none,())) ?_ (fun _ _ hh=>hh) ⟨rfl,rfl⟩) ?_)
  .rintro x c rf _ _ ⟨rfl,rfl⟩;refine aB (fz ?_);rw[ap (by rw[hD.1.pend];exact aP 1)];exact aK ⟨rfl,rfl⟩
  .rintro c rf ⟨rfl,rfl⟩;exact aK (h _ hD.1.perm hD.1.failed hD.2)
end
def mh(prog:bL)(w:World)(A:br)(s:aR)(κ:SortKind)(a₀:bu):Prop:=
 ∀x y,x∈a₀.toList->y∈a₀.toList->∀ (Q:IF) (E:bV),(∀b,Q b s)->wpAny (model prog w) A (keyLt' κ x.1 y.1) Q E s
section
variable {prog:bL} {w:World} {A:br} {E:bV} {s:aR} {κ:SortKind} {a₀:bu} {pd:i6}
theorem pJ{st:bZ}{x y:Keyed}{Q:zw}(hC:mh prog w A s κ a₀)(hk:kindOf st=κ)(hx:x∈a₀.toList)(hy:y∈a₀.toList)(h:∀b,Q (some b) st):wpS (model prog w) A E s (lt' x y) Q st:=by
 rw[lt'_eq];refine aB (fz ?_);rw[hk];refine aB (jN (kU (hC x y hx hy _ _ fun b=>⟨rfl,?_⟩)));exact aK (h b)
theorem fP{st:bZ}{i j:Nat}{Q:zw}(hC:mh prog w A s κ a₀)(hB:SQ κ a₀ pd st)(hi:i<a₀.size)(hj:j<a₀.size)(h:∀b,Q (some b) st):wpS (model prog w) A E s (ltAt' i j) Q st:=by
 obtain⟨p,e1,m1⟩:=hB.at hi;obtain⟨q,e2,m2⟩:=hB.at hj;rw[ltAt'_eq];refine aB (fz ?_);exact aB (bE e1 (aB (bE e2 (pJ hC hB.kind m1 m2 h))))
theorem g_{st:bZ}{i j:Nat}{Q:wm}(hB:SQ κ a₀ pd st)(h:∀aF,SQ κ a₀ pd aF->Q () aF):wpS (model prog w) A E s (reverseSlice' i j) Q st:=by
 rw[reverseSlice'_eq];exact gh (h _ (hB.setArr (mirror_perm _ _ _ _)))
theorem GK{st:bZ}{i j:Nat}{Q:wm}(hB:SQ κ a₀ pd st)(h:∀aF,SQ κ a₀ pd aF->Q () aF):wpS (model prog w) A E s (moveDown' i j) Q st:=by
 rw[moveDown'_eq];exact gh (h _ (hB.setArr (bubble_perm _ _ _)))
theorem JJ{st:bZ}{lo n ok:Nat}{Q:IG}(hC:mh prog w A s κ a₀)(hn:lo+n<=a₀.size)(hB:SQ κ a₀ pd st)(h:∀aF,SQ κ a₀ pd aF->Q true aF):wpS (model prog w) A E s (binarySort' lo n ok) Q st:=by
 rw[binarySort'_eq];refine aB (dL (fm (I:=fun _ c aF=>c=(none,())/\SQ κ a₀ pd aF) (Q:=fun c aF=>c=(none,())/\SQ κ a₀ pd aF) ?_ (fun c aF hh=>hh) ⟨rfl,hB⟩) ?_)
 .rintro k c aF hk1 Ph ⟨rfl,Ar⟩;dsimp only;refine aB (dL (fm (I:=fun _ c rf=>(∃l r,c=(none,l,r)/\r<=k)/\SQ κ a₀ pd rf) (Q:=fun c rf=>(∃l r,c=(none,l,r)/\r<=k)/\SQ κ a₀ pd rf) ?_ (fun c aF hh=>hh) ⟨⟨_,_,rfl,aP _⟩,Ar⟩) ?_)
  .rintro x c lC _ _ ⟨⟨l,r,rfl,hr⟩,qe⟩;dsimp only;by_cases As:l>=r
   .rw[ap As];exact aK ⟨⟨_,_,rfl,hr⟩,qe⟩
   .rw[ao As];refine aB (fP hC qe (by lia) (by lia) fun b=>?_);cases b
    .exact aK ⟨⟨_,_,rfl,hr⟩,qe⟩
    .exact aK ⟨⟨_,_,rfl,by lia⟩,qe⟩
  .rintro c lC ⟨⟨l,r,rfl,hr⟩,qe⟩;dsimp only;exact aB (GK qe fun jp iZ=>aK ⟨rfl,iZ⟩)
 .rintro c aF ⟨rfl,Ar⟩;exact aK (h aF Ar)
end
theorem C7(left:Bool)(key:Keyed)(arr:bu)(base n ow:Nat):jw left key arr base n ow=(do
 let yo (i:Nat):StateT SortSt Sem (Option Bool):=do
  let x <- elem' arr (base+i)
  if left then lt' x key else return (<-lt' key x).map (!·)
 let mut lastofs:=0
 let mut ofs:=1
 let mut lo:=0
 let mut hi:=0
 let some right <- yo ow|return none
 if right then
  let vf:=n-ow
  for _ in [0:n] do
   if ofs>=vf then break
   let some more <- yo (ow+ofs)|return none
   if !more then break
   lastofs:=ofs
   ofs:=2*ofs+1
  lo:=ow+lastofs+1
  hi:=ow+min ofs vf
 else
  let vf:=ow+1
  for _ in [0:n] do
   if ofs>=vf then break
   let some JK <- yo (ow-ofs)|return none
   if JK then break
   lastofs:=ofs
   ofs:=2*ofs+1
  lo:=ow+1-min ofs vf
  hi:=ow-lastofs
 for _ in [0:n] do
  if lo>=hi then break
  let m:=lo+(hi-lo) / 2
  let some more <- yo m|return none
  if more then lo:=m+1 else hi:=m
 return some hi):=rfl
section
variable {prog:bL} {w:World} {A:br} {E:bV} {s:aR} {κ:SortKind} {a₀:bu} {pd:i6}
theorem jg{st:bZ}{left:Bool}{key:Keyed}{arr:bu}{j:Nat}{Q:zw}(hC:mh prog w A s κ a₀)(hk:kindOf st=κ)(vP:key∈a₀.toList)(wP:∀x∈arr.toList,x∈a₀.toList)(hj:j<arr.size)(h:∀b,Q (some b) st):
  wpS (model prog w) A E s (do
  let x <- elem' arr j
  if left then lt' x key else return (<-lt' key x).map (!·)) Q st:=by
 have hm:arr[j]∈a₀.toList:=wP _ (by simp);refine aB (bE (eL arr j hj) ?_);cases left
 .rw[ao (by decide)];exact aB (pJ hC hk vP hm fun b=>aK (h (!b)))
 .rw[ap rfl];exact pJ hC hk hm vP h
theorem ik{st:bZ}{left:Bool}{key:Keyed}{arr:bu}{base n ow:Nat}{Q:zx}(hC:mh prog w A s κ a₀)(hk:kindOf st=κ)(vP:key∈a₀.toList)(wP:∀x∈arr.toList,x∈a₀.toList)(hn:base+n<=arr.size)(hh:ow<n)(h:∀k,k<=n->Q (some k) st):wpS (model prog w) A E s (jw left key arr base n ow) Q st:=by
 rw[C7];refine aB (jg hC hk vP wP (by lia) fun right=>?_);cases right
 .dsimp only;rw[ao (by decide)];refine aB (dL (fm (I:=fun _ c aF=>(∃l o,c=(none,l,o))/\st=aF) (Q:=fun c aF=>(∃l o,c=(none,l,o))/\st=aF) ?_ (fun c aF hh=>hh) ⟨⟨_,_,rfl⟩,rfl⟩) ?_)
  .rintro x c aF _ _ ⟨⟨l,o,rfl⟩,rfl⟩;dsimp only;by_cases As:o>=ow+1
   .rw[ap As];exact aK ⟨⟨_,_,rfl⟩,rfl⟩
   .rw[ao As];refine aB (jg hC hk vP wP (by lia) fun JK=>?_);cases JK
    .exact aK ⟨⟨_,_,rfl⟩,rfl⟩
    .exact aK ⟨⟨_,_,rfl⟩,rfl⟩
  .rintro c aF ⟨⟨l,o,rfl⟩,rfl⟩;dsimp only;refine aB (dL (fm (I:=fun _ c aF=>(∃l u,c=(none,l,u)/\u<=n)/\st=aF) (Q:=fun c aF=>(∃l u,c=(none,l,u)/\u<=n)/\st=aF) ?_ (fun c aF hh=>hh) ⟨⟨_,_,rfl,by lia⟩,rfl⟩) ?_)
   .rintro x c aF _ _ ⟨⟨l,u,rfl,hu⟩,rfl⟩;dsimp only;by_cases As:l>=u
    .rw[ap As];exact aK ⟨⟨_,_,rfl,hu⟩,rfl⟩
    .rw[ao As];refine aB (jg hC hk vP wP (by lia) fun more=>?_);cases more
     .exact aK ⟨⟨_,_,rfl,by lia⟩,rfl⟩
     .exact aK ⟨⟨_,_,rfl,hu⟩,rfl⟩
   .rintro c aF ⟨⟨l,u,rfl,hu⟩,rfl⟩;exact aK (h u hu)
 .dsimp only;rw[ap rfl];refine aB (dL (fm (I:=fun _ c aF=>(∃l o,c=(none,l,o))/\st=aF) (Q:=fun c aF=>(∃l o,c=(none,l,o))/\st=aF) ?_ (fun c aF hh=>hh) ⟨⟨_,_,rfl⟩,rfl⟩) ?_)
  .rintro x c aF _ _ ⟨⟨l,o,rfl⟩,rfl⟩;dsimp only;by_cases As:o>=n-ow
   .rw[ap As];exact aK ⟨⟨_,_,rfl⟩,rfl⟩
   .rw[ao As];refine aB (jg hC hk vP wP (by lia) fun more=>?_);cases more
    .exact aK ⟨⟨_,_,rfl⟩,rfl⟩
    .exact aK ⟨⟨_,_,rfl⟩,rfl⟩
  .rintro c aF ⟨⟨l,o,rfl⟩,rfl⟩;dsimp only;refine aB (dL (fm (I:=fun _ c aF=>(∃l u,c=(none,l,u)/\u<=n)/\st=aF) (Q:=fun c aF=>(∃l u,c=(none,l,u)/\u<=n)/\st=aF) ?_ (fun c aF hh=>hh) ⟨⟨_,_,rfl,by lia⟩,rfl⟩) ?_)
   .rintro x c aF _ _ ⟨⟨l,u,rfl,hu⟩,rfl⟩;dsimp only;by_cases As:l>=u
    .rw[ap As];exact aK ⟨⟨_,_,rfl,hu⟩,rfl⟩
    .rw[ao As];refine aB (jg hC hk vP wP (by lia) fun more=>?_);cases more
     .exact aK ⟨⟨_,_,rfl,by lia⟩,rfl⟩
     .exact aK ⟨⟨_,_,rfl,hu⟩,rfl⟩
   .rintro c aF ⟨⟨l,u,rfl,hu⟩,rfl⟩;exact aK (h u hu)
end
structure SM(κ:SortKind)(ar:bu)(pd:i6)(st:bZ):Prop where
 arr:arrOf st=ar
 kind:kindOf st=κ
 failed:failedOf st=none
 pend:pendingOf st=pd
abbrev sO:=Option (Array Keyed)
abbrev wQ:=StateT SortSt Sem
def Aw{τ:Type}(c:Bool)(d:Prop)[Decidable d](r:bu)(t:τ):wQ (ForInStep (sO×τ)):=if c then pure (.done (some r,t)) else if d then pure (.done (none,t)) else pure (.yield (none,t))
def mgO{α β γ:Type}(N:Nat)(f:Nat->sO×α×β×γ×Nat×Nat->wQ (ForInStep (sO×α×β×γ×Nat×Nat)))(g:sO×α×β×γ×Nat×Nat×Nat->wQ (ForInStep (sO×α×β×γ×Nat×Nat×Nat)))(s:sO×α×β×γ×Nat):wQ (ForInStep (sO×α×β×γ×Nat)):=do
 let t <- forIn [0:N] ((none,s.2.1,s.2.2.1,s.2.2.2.1,0,0):sO×α×β×γ×Nat×Nat) fun _ t=>f s.2.2.2.2 t
 match t.1 with
 |some r=>pure (.done (some r,t.2.1,t.2.2.1,t.2.2.2.1,s.2.2.2.2))
 |none=>do
  liftM (rule "list.sort.gallop")
  let u <- forIn [0:N] ((none,t.2.1,t.2.2.1,t.2.2.2.1,s.2.2.2.2+1,t.2.2.2.2.1,t.2.2.2.2.2):sO×α×β×γ×Nat×Nat×Nat) fun _ u=>g u
  match u.1 with
  |some r=>pure (.done (some r,u.2.1,u.2.2.1,u.2.2.2.1,u.2.2.2.2.1))
  |none=>do
   jT (u.2.2.2.2.1+1)
   pure (.yield (none,u.2.1,u.2.2.1,u.2.2.2.1,u.2.2.2.2.1+1))
def YE{α β γ:Type}(N:Nat)(f:Nat->sO×α×β×γ×Nat×Nat->wQ (ForInStep (sO×α×β×γ×Nat×Nat)))(g:sO×α×β×γ×Nat×Nat×Nat->wQ (ForInStep (sO×α×β×γ×Nat×Nat×Nat)))(x:α)(y:β)(z:γ):wQ (Array Keyed):=do
 let st <- get
 let s <- forIn [0:N] ((none,x,y,z,gallopOf st):sO×α×β×γ×Nat) fun _ s=>mgO N f g s
 match s.1 with
 |some r=>pure r
 |none=>liftM (unsupported "internal:list.sort.merge-bound")
section
variable {prog:bL} {w:World} {A:br} {E:bV} {s:aR} {κ:SortKind} {a₀:bu} {pd:i6} {ar:bu} {F:Array Keyed->Prop}
def GP{τ:Type}(κ:SortKind)(ar:bu)(pd:i6)(F:Array Keyed->Prop)(D J:τ->Prop)(r:ForInStep (sO×τ))(st:bZ):Prop:=SM κ ar pd st/\
 ((∃x t,r=.done (some x,t)/\F x)\/(∃t,r=.done (none,t)/\D t)\/∃t,r=.yield (none,t)/\J t)
theorem hU{τ:Type}{D J:τ->Prop}{st:bZ}{x:bu}{t:τ}(m:SM κ ar pd st)(h:F x):wpS (model prog w) A E s (pure (.done (some x,t))) (GP κ ar pd F D J) st:=aK ⟨m,.inl ⟨_,_,rfl,h⟩⟩
theorem kr{τ:Type}{D J:τ->Prop}{c:Bool}{d:Prop}[Decidable d]{r:bu}{t:τ}{st:bZ}(m:SM κ ar pd st)(h1:c=true->F r)(h2:c=false->D t/\J t):wpS (model prog w) A E s (Aw c d r t) (GP κ ar pd F D J) st:=by
 unfold Aw;cases c
 .rw[ao di];split
  .exact aK ⟨m,.inr (.inl ⟨_,rfl,(h2 rfl).1⟩)⟩
  .exact aK ⟨m,.inr (.inr ⟨_,rfl,(h2 rfl).2⟩)⟩
 .rw[ap rfl];exact hU m (h1 rfl)
theorem rh{τ:Type}{D:τ->Prop}{J:Nat->τ->Prop}{N:Nat}{f:sO×τ->wQ (ForInStep (sO×τ))}{t:τ}{st:bZ}{Q:sO×τ->SortSt->Prop}(m:SM κ ar pd st)(hJ:J 0 t)(up:∀t,J N t->D t)(b:∀t st,SM κ ar pd st->∀i,J i t->wpS (model prog w) A E s (f (none,t)) (GP κ ar pd F D (J (i+1))) st)(h1:∀x t aF,SM κ ar pd aF->F x->Q (some x,t) aF)(h2:∀t aF,SM κ ar pd aF->D t->Q (none,t) aF):wpS (model prog w) A E s (forIn [0:N] ((none,t):sO×τ) fun _ c=>f c) Q st:=by
 refine fm (I:=fun i c aF=>c.1=none/\SM κ ar pd aF/\J i c.2) ?_ ?_ ⟨rfl,m,hJ⟩
 .rintro i ⟨_,t⟩ aF _ _ ⟨rfl,m',j⟩;refine dL (b t aF m' i j) ?_;rintro r lC ⟨m2,⟨x,t,rfl,h⟩|⟨t,rfl,h⟩|⟨t,rfl,h⟩⟩
  .exact h1 _ _ _ m2 h
  .exact h2 _ _ m2 h
  .exact⟨rfl,m2,h⟩
 .rintro⟨_,t⟩ aF ⟨rfl,m',j⟩;rw[Nat.max_eq_right (cp _)] at j;exact h2 _ _ m' (up _ j)
theorem EO{α β γ:Type}{N:Nat}{f:Nat->sO×α×β×γ×Nat×Nat->wQ (ForInStep (sO×α×β×γ×Nat×Nat))}{g:sO×α×β×γ×Nat×Nat×Nat->wQ (ForInStep (sO×α×β×γ×Nat×Nat×Nat))}{x:α}{y:β}{z:γ}{J:Nat->α->β->γ->Prop}{st:bZ}{Q:II}(m:SM κ ar pd st)(h0:J 0 x y z)(dn:∀i k x y z,J (i+k) x y z->J i x y z)(no:∀x y z,¬ J N x y z)(N1:1<=N)(hf:∀mg n k x y z p st,SM κ ar pd st->J (n+k) x y z->wpS (model prog w) A E s (f mg (none,x,y,z,p)) (GP κ ar pd F (fun t=>J (n+1) t.1 t.2.1 t.2.2.1) fun t=>J (n+(k+1)) t.1 t.2.1 t.2.2.1) st)(hg:∀n x y z p st,SM κ ar pd st->J n x y z->wpS (model prog w) A E s (g (none,x,y,z,p)) (GP κ ar pd F (fun t=>J n t.1 t.2.1 t.2.2.1) fun t=>J n t.1 t.2.1 t.2.2.1) st)(h:∀x aF,F x->SM κ ar pd aF->Q x aF):wpS (model prog w) A E s (YE N f g x y z) Q st:=by
 unfold YE;refine aB (fz ?_);refine aB (rh (F:=F) (D:=fun _=>False) (J:=fun n (t:α×β×γ×Nat)=>J n t.1 t.2.1 t.2.2.1) m h0 (fun t h=>no _ _ _ h) ?_ (fun x t st m hx=>aK (h _ _ hx m)) fun t st m j=>j.elim);intro t st m i j;unfold mgO;refine aB (rh (F:=F) (D:=fun t=>J (i+1) t.1 t.2.1 t.2.2.1) (J:=fun n (t:α×β×γ×Nat×Nat)=>J (i+n) t.1 t.2.1 t.2.2.1) m j (fun t h=>dn _ (N-1) _ _ _ (by rw[show i+1+(N-1)=i+N by lia];exact h)) (fun t st m n j=>hf _ _ _ _ _ _ _ _ m j) (fun x t st m hx=>hU m hx) ?_);intro t st m j;refine aB (jN (fv ⟨rfl,?_⟩));refine aB (rh (F:=F) (D:=fun t=>J (i+1) t.1 t.2.1 t.2.2.1) (J:=fun n (t:α×β×γ×Nat×Nat×Nat)=>J (i+1) t.1 t.2.1 t.2.2.1) m j (fun _ h=>h) (fun t st m n j=>hg _ _ _ _ _ _ m j) (fun x t st m hx=>hU m hx) ?_);intro t st m j;refine aB (gh ?_);exact aK ⟨⟨m.arr,m.kind,m.failed,m.pend⟩,.inr (.inr ⟨_,rfl,j⟩)⟩
end
abbrev mi(a b out:bu)(ia ib:Nat):=out++a.extract ia a.size++b.extract ib b.size
abbrev yp(a b out:bu)(ia ib:Nat):=out++b.extract ib b.size++a.extract ia a.size
abbrev Pn ρ:=sO×Array Keyed×Nat×Nat×ρ
def loW(a b:bu)(mg:Nat)(t:Pn (Nat×Nat)):wQ (ForInStep (Pn (Nat×Nat))):=do
 let x <- elem' b t.2.2.2.1
 let y <- elem' a t.2.2.1
 let some w <- lt' x y|pure (.done (some (mi a b t.2.1 t.2.2.1 t.2.2.2.1),t.2.1,t.2.2.1,t.2.2.2.1,t.2.2.2.2.1,t.2.2.2.2.2))
 if w then do
  let x <- elem' b t.2.2.2.1
  Aw (t.2.2.2.1+1==b.size) (t.2.2.2.2.2+1>=mg) (mi a b (t.2.1.push x) t.2.2.1 (t.2.2.2.1+1)) (t.2.1.push x,t.2.2.1,t.2.2.2.1+1,0,t.2.2.2.2.2+1)
 else do
  let x <- elem' a t.2.2.1
  Aw (t.2.2.1+1+1==a.size) (t.2.2.2.2.1+1>=mg) (yp a b (t.2.1.push x) (t.2.2.1+1) t.2.2.2.1) (t.2.1.push x,t.2.2.1+1,t.2.2.2.1,t.2.2.2.2.1+1,0)
def loC(a b out:bu)(ia ib mg ac bc:Nat):wQ (ForInStep (Pn (Nat×Nat×Nat))):=do
 let x <- elem' a ia
 Aw (ia+1+1==a.size) ((ac<7&&bc<7)=true) (yp a b (out.push x) (ia+1) ib) (out.push x,ia+1,ib,mg,ac,bc)
def loB(a b out:bu)(ia ib mg ac bc:Nat):wQ (ForInStep (Pn (Nat×Nat×Nat))):=do
 let x <- elem' b ib
 if ib+1==b.size then pure (.done (some (mi a b (out.push x) ia (ib+1)),out.push x,ia,ib+1,mg,ac,bc))
 else do
  let y <- elem' a ia
  let some k <- jw true y b (ib+1) (b.size-(ib+1)) 0|pure (.done (some (mi a b (out.push x) ia (ib+1)),out.push x,ia,ib+1,mg,ac,bc))
  if k > 0 then
   if ib+1+k==b.size then pure (.done (some (mi a b (out.push x++b.extract (ib+1) (ib+1+k)) ia (ib+1+k)),out.push x++b.extract (ib+1) (ib+1+k),ia,ib+1+k,mg,ac,k))
   else loC a b (out.push x++b.extract (ib+1) (ib+1+k)) ia (ib+1+k) mg ac k
  else loC a b (out.push x) ia (ib+1) mg ac k
def loA(a b out:bu)(ia ib mg ac bc:Nat):wQ (ForInStep (Pn (Nat×Nat×Nat))):=do
 jT mg
 let y <- elem' b ib
 let some k <- jw false y a ia (a.size-ia) 0|pure (.done (some (mi a b out ia ib),out,ia,ib,mg,ac,bc))
 if k > 0 then
  if ia+k+1==a.size then pure (.done (some (yp a b (out++a.extract ia (ia+k)) (ia+k) ib),out++a.extract ia (ia+k),ia+k,ib,mg,k,bc))
  else if ia+k==a.size then pure (.done (some (mi a b (out++a.extract ia (ia+k)) (ia+k) ib),out++a.extract ia (ia+k),ia+k,ib,mg,k,bc))
  else loB a b (out++a.extract ia (ia+k)) (ia+k) ib mg k bc
 else loB a b out ia ib mg k bc
def loG(a b:bu)(t:Pn (Nat×Nat×Nat)):wQ (ForInStep (Pn (Nat×Nat×Nat))):=
 if t.2.2.2.2.1 > 1 then loA a b t.2.1 t.2.2.1 t.2.2.2.1 (t.2.2.2.2.1-1) t.2.2.2.2.2.1 t.2.2.2.2.2.2 else loA a b t.2.1 t.2.2.1 t.2.2.2.1 t.2.2.2.2.1 t.2.2.2.2.2.1 t.2.2.2.2.2.2
theorem Ax(a b:bu):vc a b=(do
 liftM (rule "list.sort.merge-lo")
 let x <- elem' b 0
 if 1==b.size then pure (mi a b #[x] 0 1) else if 0+1==a.size then pure (yp a b #[x] 0 1) else YE (a.size+b.size) (loW a b) (loG a b) #[x] 0 1):=by kernel_rfl
def PI(a b out:bu)(ia ib:Nat):Prop:=out.toList.Perm (a.toList.take ia++b.toList.take ib)
theorem Ay{l:List Keyed}{i:Nat}(h:i<l.length):l.take (i+1)=l.take i++[l[i]]:=by rw[gW,cz h];rfl
theorem PI.wR{a b out:bu}{ia ib:Nat}(h:PI a b out ia ib)(hi:ia<a.size):PI a b (out.push a[ia]) (ia+1) ib:=by
 unfold PI at h |-;rw[nV,Ay (by simpa using hi),dP];refine(h.append_right _).trans ?_;rw[dP];refine lG _ ?_;have:a.toList[ia]'(by simpa using hi)=a[ia]:=by simp
 rw[this];exact j4
theorem PI.wS{a b out:bu}{ia ib:Nat}(h:PI a b out ia ib)(hi:ib<b.size):PI a b (out.push b[ib]) ia (ib+1):=by
 unfold PI at h |-;rw[nV,Ay (by simpa using hi),<-dP];have:b.toList[ib]'(by simpa using hi)=b[ib]:=by simp
 rw[this];exact h.append_right _
theorem fQ{a:bu}{i j:Nat}:(a.extract i j).toList=(a.toList.drop i).take (j-i):=by
 rw[BM,List.extract_eq_take_drop]
theorem PI.GN{a b out:bu}{ia ib:Nat}(h:PI a b out ia ib)(k:Nat):PI a b (out++a.extract ia (ia+k)) (ia+k) ib:=by
 unfold PI at h |-;rw[gD,fQ,Nat.add_sub_cancel_left,List.take_add,dP];refine(h.append_right _).trans ?_;rw[dP];exact lG _ j4
theorem PI.GQ{a b out:bu}{ia ib:Nat}(h:PI a b out ia ib)(k:Nat):PI a b (out++b.extract ib (ib+k)) ia (ib+k):=by
 unfold PI at h |-;rw[gD,fQ,Nat.add_sub_cancel_left,List.take_add,<-dP];exact h.append_right _
theorem PI.done{a b out:bu}{ia ib:Nat}(h:PI a b out ia ib):(out++a.extract ia a.size++b.extract ib b.size).Perm (a++b):=by
 rw[jZ];unfold PI at h;rw[gD,gD,gD,fQ,fQ];have e1:(a.toList.drop ia).take (a.size-ia)=a.toList.drop ia:=qk (by simp);have e2:(b.toList.drop ib).take (b.size-ib)=b.toList.drop ib:=qk (by simp);rw[e1,e2];refine((h.append_right _).append_right _).trans ?_;conv=>rhs;rw[<-nG ia a.toList,<-nG ib b.toList]
 rw[dP,dP,dP];refine lG _ ?_;rw[<-dP,<-dP];exact xn _ j4
theorem PI.last{a b out:bu}{ia ib:Nat}(h:PI a b out ia ib):(out++b.extract ib b.size++a.extract ia a.size).Perm (a++b):=by
 refine Array.Perm.trans ?_ h.done;rw[jZ];rw[gD,gD,gD,gD,dP,dP];exact lG _ j4
section
variable {prog:bL} {w:World} {A:br} {E:bV} {s:aR} {κ:SortKind} {a₀:bu} {pd:i6} {ar:bu} {a b out:bu} {ia ib mg ac bc n:Nat} {st:bZ}
def JL(a b:bu)(n:Nat)(out:bu)(ia ib:Nat):Prop:=PI a b out ia ib/\ia+1<a.size/\ib<b.size/\n<=ia+ib
abbrev GL{ρ:Type}(κ:SortKind)(ar:bu)(pd:i6)(a b:bu)(n m:Nat):ForInStep (Pn ρ)->SortSt->Prop:=GP κ ar pd (fun x=>x.Perm (a++b)) (fun t=>JL a b n t.1 t.2.1 t.2.2.1) fun t=>JL a b m t.1 t.2.1 t.2.2.1
theorem EQ(hB:SM κ ar pd st)(h:JL a b n out ia ib):wpS (model prog w) A E s (loC a b out ia ib mg ac bc) (GL κ ar pd a b n n) st:=by
 obtain⟨p,la,lb,li⟩:=h;refine aB (bE (eL a ia (by lia)) ?_);have p:=p.wR (show ia<a.size by lia);refine kr hB (fun _=>p.last) fun f=>?_;have g:=qD f;have j:JL a b n (out.push a[ia]) (ia+1) ib:=⟨p,by lia,lb,by lia⟩
 exact⟨j,j⟩
theorem ER(hC:mh prog w A s κ a₀)(ha:∀x∈a.toList,x∈a₀.toList)(hb:∀x∈b.toList,x∈a₀.toList)(hB:SM κ ar pd st)(h:JL a b n out ia ib):wpS (model prog w) A E s (loB a b out ia ib mg ac bc) (GL κ ar pd a b n n) st:=by
 obtain⟨p,la,lb,li⟩:=h;refine aB (bE (eL b ib lb) ?_);have p:=p.wS lb;split
 .exact hU hB p.done
 next f=>
 have g:ib+1≠b.size:=by simpa using f
 refine aB (bE (eL a ia (by lia)) ?_);refine aB (ik hC hB.kind (ha _ (by simp)) hb (by lia) (by lia) fun k hk=>?_);dsimp only;split
 .split
  .exact hU hB (p.GQ k).done
  next f=>
  have g:ib+1+k≠b.size:=by simpa using f
  exact EQ hB ⟨p.GQ k,la,by lia,by lia⟩
 .exact EQ hB ⟨p,la,by lia,by lia⟩
theorem MR(hC:mh prog w A s κ a₀)(ha:∀x∈a.toList,x∈a₀.toList)(hb:∀x∈b.toList,x∈a₀.toList)(hB:SM κ ar pd st)(h:JL a b n out ia ib):wpS (model prog w) A E s (loA a b out ia ib mg ac bc) (GL κ ar pd a b n n) st:=by
 obtain⟨p,la,lb,li⟩:=h;refine aB (gh ?_);refine aB (bE (eL b ib lb) ?_);have qe:SM κ ar pd (SortSt.mk' (kindOf st) (arrOf st) (pendingOf st) mg (failedOf st)):=⟨hB.arr,hB.kind,hB.failed,hB.pend⟩
 refine aB (ik hC qe.kind (hb _ (by simp)) ha (by lia) (by lia) fun k hk=>?_);dsimp only;split
 .split
  .exact hU qe (p.GN k).last
  next f=>
  split
  .exact hU qe (p.GN k).done
  next f'=>
  have g:ia+k+1≠a.size:=by simpa using f
  have g':ia+k≠a.size:=by simpa using f'
  exact ER hC ha hb qe ⟨p.GN k,by lia,lb,by lia⟩
 .exact ER hC ha hb qe ⟨p,la,lb,li⟩
theorem MS{k:Nat}(hC:mh prog w A s κ a₀)(ha:∀x∈a.toList,x∈a₀.toList)(hb:∀x∈b.toList,x∈a₀.toList)(hB:SM κ ar pd st)(h:JL a b (n+k) out ia ib){q:Nat×Nat}:wpS (model prog w) A E s (loW a b mg (none,out,ia,ib,q)) (GL κ ar pd a b (n+1) (n+(k+1))) st:=by
 obtain⟨p,la,lb,li⟩:=h;refine aB (bE (eL b ib lb) (aB (bE (eL a ia (by lia)) (aB (pJ hC hB.kind (hb _ (by simp)) (ha _ (by simp)) fun w=>?_)))));cases w
 .refine aB (bE (eL a ia (by lia)) ?_);have p:=p.wR (show ia<a.size by lia);refine kr hB (fun _=>p.last) fun f=>?_;have g:=qD f;exact⟨⟨p,by dsimp only;lia,lb,by dsimp only;lia⟩,p,by dsimp only;lia,lb,by dsimp only;lia⟩
 .refine aB (bE (eL b ib lb) ?_);have p:=p.wS lb;refine kr hB (fun _=>p.done) fun f=>?_;have g:=qD f;exact⟨⟨p,la,by dsimp only at g |-;lia,by dsimp only;lia⟩,p,la,by dsimp only at g |-;lia,by dsimp only;lia⟩
theorem Az{Q:II}(hC:mh prog w A s κ a₀)(hB:SM κ ar pd st)(ha:∀x∈a.toList,x∈a₀.toList)(hb:∀x∈b.toList,x∈a₀.toList)(a1:1<=a.size)(b1:1<=b.size)(h:∀out aF,out.Perm (a++b)->SM κ ar pd aF->Q out aF):wpS (model prog w) A E s (vc a b) Q st:=by
 rw[Ax];refine aB (jN (fv ⟨rfl,?_⟩));refine aB (bE (eL b 0 (by lia)) ?_);have p0:PI a b #[b[0]] 0 1:=by
  have:PI a b #[] 0 0:=by unfold PI;simp
  exact this.wS (by lia)
 split
 .exact aK (h _ _ p0.done hB)
 next f=>
 split
 .exact aK (h _ _ p0.last hB)
 next f'=>
 have g:1≠b.size:=by simpa using f
 have g':0+1≠a.size:=by simpa using f'
 refine EO (J:=JL a b) hB ⟨p0,by lia,by lia,by lia⟩ (fun i k x y z h=>⟨h.1,h.2.1,h.2.2.1,by have:=h.2.2.2;lia⟩) (fun x y z h=>by have:=h.2;lia) (by lia) (fun mg n k x y z p st m j=>MS hC ha hb m j) (fun n x y z p st m j=>?_) h;unfold loG;split <;> exact MR hC ha hb m j
end
abbrev mj(a b out:bu)(na nb:Nat):=a.extract 0 na++b.extract 0 nb++out.reverse
abbrev tP(a b out:bu)(na nb:Nat):=b.extract 0 nb++a.extract 0 na++out.reverse
abbrev Po ρ:=sO×Nat×Nat×Array Keyed×ρ
def hiW(a b:bu)(mg:Nat)(t:Po (Nat×Nat)):wQ (ForInStep (Po (Nat×Nat))):=do
 let x <- elem' b (t.2.2.1-1)
 let y <- elem' a (t.2.1-1)
 let some w <- lt' x y|pure (.done (some (mj a b t.2.2.2.1 t.2.1 t.2.2.1),t.2.1,t.2.2.1,t.2.2.2.1,t.2.2.2.2.1,t.2.2.2.2.2))
 if w then do
  let x <- elem' a (t.2.1-1)
  Aw (t.2.1-1==0) (t.2.2.2.2.1+1>=mg) (mj a b (t.2.2.2.1.push x) (t.2.1-1) t.2.2.1) (t.2.1-1,t.2.2.1,t.2.2.2.1.push x,t.2.2.2.2.1+1,0)
 else do
  let x <- elem' b (t.2.2.1-1)
  Aw (t.2.2.1-1==1) (t.2.2.2.2.2+1>=mg) (tP a b (t.2.2.2.1.push x) t.2.1 (t.2.2.1-1)) (t.2.1,t.2.2.1-1,t.2.2.2.1.push x,0,t.2.2.2.2.2+1)
def hiC(a b:bu)(na nb:Nat)(out:bu)(mg ac bc:Nat):wQ (ForInStep (Po (Nat×Nat×Nat))):=do
 let x <- elem' a (na-1)
 Aw (na-1==0) ((ac<7&&bc<7)=true) (mj a b (out.push x) (na-1) nb) (na-1,nb,out.push x,mg,ac,bc)
def hiB(a b:bu)(na nb:Nat)(out:bu)(mg ac bc:Nat):wQ (ForInStep (Po (Nat×Nat×Nat))):=do
 let x <- elem' b (nb-1)
 if nb-1==1 then pure (.done (some (tP a b (out.push x) na (nb-1)),na,nb-1,out.push x,mg,ac,bc))
 else do
  let y <- elem' a (na-1)
  let some k <- jw true y b 0 (nb-1) (nb-1-1)|pure (.done (some (mj a b (out.push x) na (nb-1)),na,nb-1,out.push x,mg,ac,bc))
  if nb-1-k > 0 then
   if k==1 then pure (.done (some (tP a b (out.push x++(b.extract k (nb-1)).reverse) na k),na,k,out.push x++(b.extract k (nb-1)).reverse,mg,ac,nb-1-k))
   else if k==0 then pure (.done (some (mj a b (out.push x++(b.extract k (nb-1)).reverse) na k),na,k,out.push x++(b.extract k (nb-1)).reverse,mg,ac,nb-1-k))
   else hiC a b na k (out.push x++(b.extract k (nb-1)).reverse) mg ac (nb-1-k)
  else hiC a b na (nb-1) (out.push x) mg ac (nb-1-k)
def hiA(a b:bu)(na nb:Nat)(out:bu)(mg ac bc:Nat):wQ (ForInStep (Po (Nat×Nat×Nat))):=do
 jT mg
 let y <- elem' b (nb-1)
 let some k <- jw false y a 0 na (na-1)|pure (.done (some (mj a b out na nb),na,nb,out,mg,ac,bc))
 if na-k > 0 then
  if k==0 then pure (.done (some (mj a b (out++(a.extract k na).reverse) k nb),k,nb,out++(a.extract k na).reverse,mg,na-k,bc))
  else hiB a b k nb (out++(a.extract k na).reverse) mg (na-k) bc
 else hiB a b na nb out mg (na-k) bc
def hiG(a b:bu)(t:Po (Nat×Nat×Nat)):wQ (ForInStep (Po (Nat×Nat×Nat))):=
 if t.2.2.2.2.1 > 1 then hiA a b t.2.1 t.2.2.1 t.2.2.2.1 (t.2.2.2.2.1-1) t.2.2.2.2.2.1 t.2.2.2.2.2.2 else hiA a b t.2.1 t.2.2.1 t.2.2.2.1 t.2.2.2.2.1 t.2.2.2.2.2.1 t.2.2.2.2.2.2
theorem AA(a b:bu):vd a b=(do
 liftM (rule "list.sort.merge-hi")
 let x <- elem' a (a.size-1)
 if a.size-1==0 then pure (mj a b #[x] (a.size-1) b.size) else if b.size==1 then pure (tP a b #[x] (a.size-1) b.size) else YE (a.size+b.size) (hiW a b) (hiG a b) (a.size-1) b.size #[x]):=by kernel_rfl
def PH(a b out:bu)(na nb:Nat):Prop:=out.toList.Perm (a.toList.drop na++b.toList.drop nb)
theorem PH.wR{a b out:bu}{na nb:Nat}(h:PH a b out na nb)(h1:1<=na)(hi:na-1<a.size):PH a b (out.push a[na-1]) (na-1) nb:=by
 unfold PH at h |-;have e:a.toList.drop (na-1)=a[na-1]::a.toList.drop na:=by
  have:=qh (l:=a.toList) (i:=na-1) (by simpa using hi);rw[this,Nat.sub_add_cancel h1];simp
 rw[nV,e];refine(h.append_right _).trans ?_;exact j4
theorem PH.wS{a b out:bu}{na nb:Nat}(h:PH a b out na nb)(h1:1<=nb)(hi:nb-1<b.size):PH a b (out.push b[nb-1]) na (nb-1):=by
 unfold PH at h |-;have e:b.toList.drop (nb-1)=b[nb-1]::b.toList.drop nb:=by
  have:=qh (l:=b.toList) (i:=nb-1) (by simpa using hi);rw[this,Nat.sub_add_cancel h1];simp
 rw[nV,e];refine(h.append_right _).trans ?_;rw[dP];exact lG _ j4
theorem pK{l:List Keyed}{i j:Nat}(h:i<=j):l.drop i=(l.drop i).take (j-i)++l.drop j:=by
 have:=(nG (j-i) (l.drop i)).symm;rw[List.drop_drop,show i+(j-i)=j by lia] at this;exact this
theorem PH.GN{a b out:bu}{na nb:Nat}(h:PH a b out na nb){k:Nat}(hk:k<=na):PH a b (out++(a.extract k na).reverse) k nb:=by
 unfold PH at h |-;rw[gD,BL,fQ];conv=>rhs;rw[pK hk]
 refine((h.append_left _).trans ?_ |> fun z=>(List.Perm.trans j4 ((BY _).append_right _)).trans z);rw[dP]
theorem PH.GQ{a b out:bu}{na nb:Nat}(h:PH a b out na nb){k:Nat}(hk:k<=nb):PH a b (out++(b.extract k nb).reverse) na k:=by
 unfold PH at h |-;rw[gD,BL,fQ];conv=>rhs;rw[pK hk]
 refine(h.append_right _).trans ?_;rw[dP];refine lG _ ?_;exact j4.trans ((BY _).append_right _)
theorem V0{a:bu}{j:Nat}:(a.extract 0 j).toList=a.toList.take j:=by rw[fQ,Cc,uF]
theorem PH.done{a b out:bu}{na nb:Nat}(h:PH a b out na nb):(a.extract 0 na++b.extract 0 nb++out.reverse).Perm (a++b):=by
 rw[jZ];unfold PH at h;rw[gD,gD,gD,BL,V0,V0];conv=>rhs;rw[<-nG na a.toList,<-nG nb b.toList]
 refine(lG _ ((BY _).trans h)).trans ?_;rw[dP,dP];refine lG _ ?_;rw[<-dP,<-dP];exact xn _ j4
theorem PH.first{a b out:bu}{na nb:Nat}(h:PH a b out na nb):(b.extract 0 nb++a.extract 0 na++out.reverse).Perm (a++b):=by
 refine Array.Perm.trans ?_ h.done;rw[jZ];rw[gD,gD,gD,gD];exact xn _ j4
section
variable {prog:bL} {w:World} {A:br} {E:bV} {s:aR} {κ:SortKind} {a₀:bu} {pd:i6} {ar:bu} {a b out:bu} {na nb mg ac bc n:Nat} {st:bZ}
def JH(a b:bu)(n na nb:Nat)(out:bu):Prop:=PH a b out na nb/\1<=na/\2<=nb/\na<=a.size/\nb<=b.size/\n+na+nb<=a.size+b.size
abbrev GH{ρ:Type}(κ:SortKind)(ar:bu)(pd:i6)(a b:bu)(n m:Nat):ForInStep (Po ρ)->SortSt->Prop:=GP κ ar pd (fun x=>x.Perm (a++b)) (fun t=>JH a b n t.1 t.2.1 t.2.2.1) fun t=>JH a b m t.1 t.2.1 t.2.2.1
theorem ES(hB:SM κ ar pd st)(p:PH a b out na nb)(la:1<=na)(lb:2<=nb)(ma:na<=a.size)(mb:nb<=b.size)(li:n+na+nb<=a.size+b.size+1):wpS (model prog w) A E s (hiC a b na nb out mg ac bc) (GH κ ar pd a b n n) st:=by
 refine aB (bE (eL a (na-1) (by lia)) ?_);have p:=p.wR la (show na-1<a.size by lia);refine kr hB (fun _=>p.done) fun f=>?_;have g:=qD f;have j:JH a b n (na-1) nb (out.push a[na-1]):=⟨p,by lia,lb,by lia,mb,by lia⟩
 exact⟨j,j⟩
theorem ET(hC:mh prog w A s κ a₀)(ha:∀x∈a.toList,x∈a₀.toList)(hb:∀x∈b.toList,x∈a₀.toList)(hB:SM κ ar pd st)(h:JH a b n na nb out):wpS (model prog w) A E s (hiB a b na nb out mg ac bc) (GH κ ar pd a b n n) st:=by
 obtain⟨p,la,lb,ma,mb,li⟩:=h;refine aB (bE (eL b (nb-1) (by lia)) ?_);have p:=p.wS (show 1<=nb by lia) (show nb-1<b.size by lia);split
 .exact hU hB p.first
 next f=>
 have g:nb-1≠1:=by simpa using f
 refine aB (bE (eL a (na-1) (by lia)) ?_);refine aB (ik hC hB.kind (ha _ (by simp)) hb (by lia) (by lia) fun k hk=>?_);dsimp only;split
 .split
  .exact hU hB (p.GQ hk).first
  next f=>
  split
  .exact hU hB (p.GQ hk).done
  next f'=>
  have g:k≠1:=by simpa using f
  have g':k≠0:=by simpa using f'
  exact ES hB (p.GQ hk) la (by lia) ma (by lia) (by lia)
 .exact ES hB p la (by lia) ma (by lia) (by lia)
theorem MT(hC:mh prog w A s κ a₀)(ha:∀x∈a.toList,x∈a₀.toList)(hb:∀x∈b.toList,x∈a₀.toList)(hB:SM κ ar pd st)(h:JH a b n na nb out):wpS (model prog w) A E s (hiA a b na nb out mg ac bc) (GH κ ar pd a b n n) st:=by
 obtain⟨p,la,lb,ma,mb,li⟩:=h;refine aB (gh ?_);refine aB (bE (eL b (nb-1) (by lia)) ?_);have qe:SM κ ar pd (SortSt.mk' (kindOf st) (arrOf st) (pendingOf st) mg (failedOf st)):=⟨hB.arr,hB.kind,hB.failed,hB.pend⟩
 refine aB (ik hC qe.kind (hb _ (by simp)) ha (by lia) (by lia) fun k hk=>?_);dsimp only;split
 .split
  .exact hU qe (p.GN hk).done
  next f=>
  have g:k≠0:=by simpa using f
  exact ET hC ha hb qe ⟨p.GN hk,by lia,lb,by lia,mb,by lia⟩
 .exact ET hC ha hb qe ⟨p,la,lb,ma,mb,li⟩
theorem MU{k:Nat}(hC:mh prog w A s κ a₀)(ha:∀x∈a.toList,x∈a₀.toList)(hb:∀x∈b.toList,x∈a₀.toList)(hB:SM κ ar pd st)(h:JH a b (n+k) na nb out){q:Nat×Nat}:wpS (model prog w) A E s (hiW a b mg (none,na,nb,out,q)) (GH κ ar pd a b (n+1) (n+(k+1))) st:=by
 obtain⟨p,la,lb,ma,mb,li⟩:=h;refine aB (bE (eL b (nb-1) (by lia)) (aB (bE (eL a (na-1) (by lia)) (aB (pJ hC hB.kind (hb _ (by simp)) (ha _ (by simp)) fun w=>?_)))));cases w
 .refine aB (bE (eL b (nb-1) (by lia)) ?_);have p:=p.wS (show 1<=nb by lia) (show nb-1<b.size by lia);refine kr hB (fun _=>p.first) fun f=>?_;have g:nb-1≠1:=qD f;have j:JH a b (n+(k+1)) na (nb-1) (out.push b[nb-1]):=⟨p,la,by lia,ma,by lia,by lia⟩
  exact⟨⟨p,la,j.2.2.1,ma,j.2.2.2.2.1,by have:=j.2.2.2.2.2;dsimp only;lia⟩,j⟩
 .refine aB (bE (eL a (na-1) (by lia)) ?_);have p:=p.wR la (show na-1<a.size by lia);refine kr hB (fun _=>p.done) fun f=>?_;have g:na-1≠0:=qD f;have j:JH a b (n+(k+1)) (na-1) nb (out.push a[na-1]):=⟨p,by lia,lb,by lia,mb,by lia⟩
  exact⟨⟨p,j.2.1,lb,j.2.2.2.1,mb,by have:=j.2.2.2.2.2;dsimp only;lia⟩,j⟩
theorem AB{Q:II}(hC:mh prog w A s κ a₀)(hB:SM κ ar pd st)(ha:∀x∈a.toList,x∈a₀.toList)(hb:∀x∈b.toList,x∈a₀.toList)(a1:1<=a.size)(b1:1<=b.size)(h:∀out aF,out.Perm (a++b)->SM κ ar pd aF->Q out aF):wpS (model prog w) A E s (vd a b) Q st:=by
 rw[AA];refine aB (jN (fv ⟨rfl,?_⟩));refine aB (bE (eL a (a.size-1) (by lia)) ?_);have p0:PH a b #[a[a.size-1]] (a.size-1) b.size:=by
  have:PH a b #[] a.size b.size:=by unfold PH;simp
  exact this.wR a1 (by lia)
 split
 .exact aK (h _ _ p0.done hB)
 next f=>
 split
 .exact aK (h _ _ p0.first hB)
 next f'=>
 have g:a.size-1≠0:=by simpa using f
 have g':b.size≠1:=by simpa using f'
 refine EO (J:=JH a b) hB ⟨p0,by lia,by lia,by lia,by lia,by lia⟩ (fun i k x y z h=>⟨h.1,h.2.1,h.2.2.1,h.2.2.2.1,h.2.2.2.2.1,by have:=h.2.2.2.2.2;lia⟩) (fun x y z h=>by have:=h.2;lia) (by lia) (fun mg n k x y z p st m j=>MU hC ha hb m j) (fun n x y z p st m j=>?_) h;unfold hiG;split <;> exact MT hC ha hb m j
end
section
variable {prog:bL} {w:World} {A:br} {E:bV} {s:aR} {κ:SortKind} {a₀:bu} {pd:i6}
theorem C8{st:bZ}{lo dv:Nat}{Q:zx}(hC:mh prog w A s κ a₀)(hn:lo+dv<=a₀.size)(h1:1<=dv)(hB:SQ κ a₀ pd st)(h:∀n aF,SQ κ a₀ pd aF->1<=n->n<=dv->Q (some n) aF):wpS (model prog w) A E s (countRun' lo dv) Q st:=by
 rw[countRun'_eq];refine aB (dL (fm (I:=fun i c aF=>SQ κ a₀ pd aF/\∃m,c=(none,m)/\m=i) (Q:=fun c aF=>SQ κ a₀ pd aF/\∃m,c=(none,m)/\1<=m/\m<=dv) ?_ ?_ ⟨hB,_,rfl,rfl⟩) ?_)
 .rintro i c Bj Pk z7 ⟨JM,m,rfl,rfl⟩;dsimp only;refine aB (fP hC JM (by lia) (by lia) fun b1=>?_);cases b1
  .exact aK ⟨JM,_,rfl,rfl⟩
  .exact aK ⟨JM,_,rfl,by lia,by lia⟩
 .rintro c Bj ⟨JM,m,rfl,rfl⟩;exact⟨JM,_,rfl,by lia,by lia⟩
 .rintro c Bj ⟨JM,n,rfl,n1,n2⟩;dsimp only;by_cases e1:(n==dv)=true
  .rw[ap e1];exact aK (h n Bj JM n1 n2)
  rw[ao e1];have g1:¬ (n=dv):=by simpa using e1
  by_cases e2:n > 1
  .rw[ap e2];refine aB (fP hC JM (by lia) (by lia) fun b2=>?_);cases b2
   .dsimp only;rw[ao (by decide)];refine aB (g_ JM fun lC qe=>?_);refine aB (jN (fv ⟨rfl,?_⟩));refine aB (dL (fm (I:=fun i c aF=>SQ κ a₀ pd aF/\∃m q,c=(none,m,q)/\m=i) (Q:=fun c aF=>SQ κ a₀ pd aF/\∃m q,c=(none,m,q)/\1<=m/\m<=dv) ?_ ?_ ⟨qe,_,_,rfl,rfl⟩) ?_)
    .rintro i c jp Pk z7 ⟨iZ,m,q,rfl,rfl⟩;dsimp only;refine aB (fP hC iZ (by lia) (by lia) fun b3=>?_);cases b3
     .dsimp only;rw[ao (by decide)];refine aB (fP hC iZ (by lia) (by lia) fun b4=>?_);cases b4
      .exact aK ⟨iZ,_,_,rfl,rfl⟩
      .exact aK ⟨iZ,_,_,rfl,by lia,by lia⟩
     .dsimp only;rw[ap rfl];split
      .exact aB (g_ iZ fun sM Q8=>aK ⟨Q8,_,_,rfl,rfl⟩)
      .exact aK ⟨iZ,_,_,rfl,rfl⟩
    .rintro c jp ⟨iZ,m,q,rfl,rfl⟩;exact⟨iZ,_,_,rfl,by lia,by lia⟩
    .rintro c jp ⟨iZ,m,q,rfl,m1,m2⟩;dsimp only;split
     .refine aB (g_ iZ fun sM Q8=>?_);refine aB (g_ Q8 fun zi Q9=>?_);refine aB (dL (fm (I:=fun i c aF=>SQ κ a₀ pd aF/\∃m,c=(none,m)/\m=i) (Q:=fun c aF=>SQ κ a₀ pd aF/\∃m,c=(none,m)/\1<=m/\m<=dv) ?_ ?_ ⟨Q9,_,rfl,rfl⟩) ?_)
      .rintro i c vZ Pk z7 ⟨oy,m,rfl,rfl⟩;dsimp only;refine aB (fP hC oy (by lia) (by lia) fun b6=>?_);cases b6
       .exact aK ⟨oy,_,rfl,rfl⟩
       .exact aK ⟨oy,_,rfl,by lia,by lia⟩
      .rintro c vZ ⟨oy,m,rfl,rfl⟩;exact⟨oy,_,rfl,by lia,by lia⟩
      .rintro c vZ ⟨oy,m,rfl,h1,h2⟩;exact aK (h m vZ oy h1 h2)
     .refine aB (g_ iZ fun zi Q9=>?_);refine aB (dL (fm (I:=fun i c aF=>SQ κ a₀ pd aF/\∃m,c=(none,m)/\m=i) (Q:=fun c aF=>SQ κ a₀ pd aF/\∃m,c=(none,m)/\1<=m/\m<=dv) ?_ ?_ ⟨Q9,_,rfl,rfl⟩) ?_)
      .rintro i c vZ Pk z7 ⟨oy,m,rfl,rfl⟩;dsimp only;refine aB (fP hC oy (by lia) (by lia) fun b6=>?_);cases b6
       .exact aK ⟨oy,_,rfl,rfl⟩
       .exact aK ⟨oy,_,rfl,by lia,by lia⟩
      .rintro c vZ ⟨oy,m,rfl,rfl⟩;exact⟨oy,_,rfl,by lia,by lia⟩
      .rintro c vZ ⟨oy,m,rfl,h1,h2⟩;exact aK (h m vZ oy h1 h2)
   .exact aK (h n Bj JM n1 n2)
  .rw[ao e2];have qe:=JM;refine aB (jN (fv ⟨rfl,?_⟩));refine aB (dL (fm (I:=fun i c aF=>SQ κ a₀ pd aF/\∃m q,c=(none,m,q)/\m=i) (Q:=fun c aF=>SQ κ a₀ pd aF/\∃m q,c=(none,m,q)/\1<=m/\m<=dv) ?_ ?_ ⟨qe,_,_,rfl,rfl⟩) ?_)
   .rintro i c jp Pk z7 ⟨iZ,m,q,rfl,rfl⟩;dsimp only;refine aB (fP hC iZ (by lia) (by lia) fun b3=>?_);cases b3
    .dsimp only;rw[ao (by decide)];refine aB (fP hC iZ (by lia) (by lia) fun b4=>?_);cases b4
     .exact aK ⟨iZ,_,_,rfl,rfl⟩
     .exact aK ⟨iZ,_,_,rfl,by lia,by lia⟩
    .dsimp only;rw[ap rfl];split
     .exact aB (g_ iZ fun sM Q8=>aK ⟨Q8,_,_,rfl,rfl⟩)
     .exact aK ⟨iZ,_,_,rfl,rfl⟩
   .rintro c jp ⟨iZ,m,q,rfl,rfl⟩;exact⟨iZ,_,_,rfl,by lia,by lia⟩
   .rintro c jp ⟨iZ,m,q,rfl,m1,m2⟩;dsimp only;split
    .refine aB (g_ iZ fun sM Q8=>?_);refine aB (g_ Q8 fun zi Q9=>?_);refine aB (dL (fm (I:=fun i c aF=>SQ κ a₀ pd aF/\∃m,c=(none,m)/\m=i) (Q:=fun c aF=>SQ κ a₀ pd aF/\∃m,c=(none,m)/\1<=m/\m<=dv) ?_ ?_ ⟨Q9,_,rfl,rfl⟩) ?_)
     .rintro i c vZ Pk z7 ⟨oy,m,rfl,rfl⟩;dsimp only;refine aB (fP hC oy (by lia) (by lia) fun b6=>?_);cases b6
      .exact aK ⟨oy,_,rfl,rfl⟩
      .exact aK ⟨oy,_,rfl,by lia,by lia⟩
     .rintro c vZ ⟨oy,m,rfl,rfl⟩;exact⟨oy,_,rfl,by lia,by lia⟩
     .rintro c vZ ⟨oy,m,rfl,h1,h2⟩;exact aK (h m vZ oy h1 h2)
    .refine aB (g_ iZ fun zi Q9=>?_);refine aB (dL (fm (I:=fun i c aF=>SQ κ a₀ pd aF/\∃m,c=(none,m)/\m=i) (Q:=fun c aF=>SQ κ a₀ pd aF/\∃m,c=(none,m)/\1<=m/\m<=dv) ?_ ?_ ⟨Q9,_,rfl,rfl⟩) ?_)
     .rintro i c vZ Pk z7 ⟨oy,m,rfl,rfl⟩;dsimp only;refine aB (fP hC oy (by lia) (by lia) fun b6=>?_);cases b6
      .exact aK ⟨oy,_,rfl,rfl⟩
      .exact aK ⟨oy,_,rfl,by lia,by lia⟩
     .rintro c vZ ⟨oy,m,rfl,rfl⟩;exact⟨oy,_,rfl,by lia,by lia⟩
     .rintro c vZ ⟨oy,m,rfl,h1,h2⟩;exact aK (h m vZ oy h1 h2)
end
abbrev Ul:=Nat×Nat×Nat
def ku:List Ul->Nat->Nat->Prop
 |[],s,e=>s=e
 |r::rs,s,e=>r.1=s/\1<=r.2.1/\ku rs (s+r.2.1) e
theorem ku.le:∀ {l:List Ul} {s e:Nat},ku l s e->s<=e
 |[],_,_,h=>qJ h
 |r::rs,s,e,⟨_,h2,h3⟩=>by have:=h3.le;lia
theorem ku.two:∀ {l:List Ul} {s e i:Nat} {x y:Ul},ku l s e->l[i]?=some x->l[i+1]?=some y->
  x.1+x.2.1=y.1/\y.1+y.2.1<=e/\1<=x.2.1/\1<=y.2.1/\∀p,ku ((l.set i (x.1,x.2.1+y.2.1,p)).eraseIdx (i+1)) s e
 |r::q::rs,s,e,0,x,y,⟨h1,h2,h3,h4,h5⟩,hx,hy=>by
  obtain rfl:=cB hx;obtain rfl:=cB hy;have:=h5.le;refine⟨by lia,by lia,h2,h4,fun p=>⟨h1,by show 1<=r.2.1+q.2.1;lia,?_⟩⟩;show ku rs (s+(r.2.1+q.2.1)) e;rw[<-Nat.add_assoc];exact h5
 |r::rs,s,e,i+1,x,y,⟨h1,h2,h3⟩,hx,hy=>by
  obtain⟨a1,a2,a3,a4,a5⟩:=ku.two (i:=i) h3 hx hy;exact⟨a1,a2,a3,a4,fun p=>⟨h1,h2,a5 p⟩⟩
theorem ku.push:∀ {l:List Ul} {s e n p:Nat},ku l s e->1<=n->ku (l++[(e,n,p)]) s (e+n)
 |[],s,e,n,p,h,hn=>⟨h.symm,hn,by rw[h];rfl⟩
 |r::rs,s,e,n,p,⟨h1,h2,h3⟩,hn=>⟨h1,h2,ku.push h3 hn⟩
theorem ku.pw:∀ {l:List Ul} {s e:Nat} (i p:Nat),ku l s e->ku (l.modify i fun r=>(r.1,r.2.1,p)) s e
 |[],s,e,i,p,h=>by cases i <;> exact h
 |r::rs,s,e,0,p,⟨h1,h2,h3⟩=>⟨h1,h2,h3⟩
 |r::rs,s,e,i+1,p,⟨h1,h2,h3⟩=>⟨h1,h2,ku.pw i p h3⟩
theorem MV{M:Model}{A:br}{E:bV}{s:aR}{σ:Type}{x:σ}{Q:PUnit->σ->Prop}{st:σ}(h:Q ⟨⟩ x):wpS M A E s (set x:StateT σ Sem PUnit) Q st:=by
 unfold wpS;rw[StateT.run_set];exact wpAny_pure ⟨rfl,h⟩
theorem AC(i:Nat):mergeAt' i=(do
 let s <- get
 let (some (sa,na,V1),some (sb,nb,_)):=((pendingOf s)[i]?,(pendingOf s)[i+1]?)|unsupported "internal:list.sort.pending"
 set (setPending s (((pendingOf s).setIfInBounds i (sa,na+nb,V1)).eraseIdxIfInBounds (i+1)))
 let some k <- jw false (<-elem' (arrOf s) sb) (arrOf s) sa na 0|return false
 let (sa,na):=(sa+k,na-k)
 if na==0 then return true
 let some nb <- jw true (<-elem' (arrOf s) (sa+na-1)) (arrOf s) sb nb (nb-1)|return false
 if nb==0 then return true
 let x:=(arrOf s).extract sa sb
 let y:=(arrOf s).extract sb (sb+nb)
 let merged <- if na<=nb then vc x y else vd x y
 modify fun s=>setArr s (merged.toList.zipIdx.foldl (fun a (p,j)=>a.setIfInBounds (sa+j) p) (arrOf s))
 return (failedOf (<-get)).isNone):=rfl
theorem vg{sa:Nat}:∀ (l:List Keyed) (k:Nat) (arr:bu),sa+k+l.length<=arr.size->
  ((l.zipIdx k).foldl (fun (a:bu) (x:Keyed×Nat)=>a.setIfInBounds (sa+x.2) x.1) arr).toList=arr.toList.take (sa+k)++l++arr.toList.drop (sa+k+l.length)
 |[],k,arr,_=>by simp
 |x::l,k,arr,h=>by
  rw[fj] at h;have hs:sa+k<arr.toList.length:=by rw[lI];lia
  rw[B3,iM,vg l (k+1) _ (by rw[Array.size_setIfInBounds];lia),Iv];dsimp only;have e1:(arr.toList.set (sa+k) x).take (sa+(k+1))=arr.toList.take (sa+k)++[x]:=by
   rw[<-Nat.add_assoc,gW,qo hs,List.take_set_of_le (aP _)];rfl
  have e2:(arr.toList.set (sa+k) x).drop (sa+(k+1)+l.length)=arr.toList.drop (sa+k+(x::l).length):=by
   rw[List.drop_set_of_lt (by lia),fj];congr 1;lia
  rw[e1,e2,dP,dP,dP];rfl
section
variable {prog:bL} {w:World} {A:br} {E:bV} {s:aR} {κ:SortKind} {a₀:bu}
def SR(κ:SortKind)(a₀:bu)(lo:Nat)(st:bZ):Prop:=∃pd,SQ κ a₀ pd st/\ku pd.toList 0 lo/\lo<=a₀.size
theorem mm{st:bZ}{i lo:Nat}{Q:IG}(hC:mh prog w A s κ a₀)(hB:SR κ a₀ lo st)(hi:i+1<(pendingOf st).size)(h:∀aF,SR κ a₀ lo aF->Q true aF):wpS (model prog w) A E s (mergeAt' i) Q st:=by
 obtain⟨pd,hq,hr,Uf⟩:=hB;rw[hq.pend] at hi;rw[AC];refine aB (fz ?_);have e1:pd[i]?=some pd[i]:=eL pd i (by lia);have e2:pd[i+1]?=some pd[i+1]:=eL pd (i+1) hi;obtain⟨a1,a2,a3,a4,a5⟩:=hr.two (i:=i) (x:=pd[i]) (y:=pd[i+1]) (by simpa using e1) (by simpa using e2);rw[hq.pend,e1,e2];revert a1 a2 a3 a4 a5;generalize pd[i]=x;generalize pd[i+1]=y;obtain⟨sa,na,pw⟩:=x;obtain⟨sb,nb,pw2⟩:=y;intro a1 a2 a3 a4 a5;dsimp only at a1 a2 a3 a4 a5 |-;obtain⟨MW,V2⟩:∃MW,MW=(pd.setIfInBounds i (sa,na+nb,pw)).eraseIdxIfInBounds (i+1):=⟨_,rfl⟩
 have CQ:ku MW.toList 0 lo:=by
  rw[V2,Array.toList_eraseIdxIfInBounds,Iv];exact a5 pw
 refine aB (MV ?_);rw[<-V2];have Ib:SM κ (arrOf st) MW (setPending st MW):=⟨rfl,hq.kind,hq.failed,rfl⟩
 have iC:=hq.size;have wP:∀x∈(arrOf st).toList,x∈a₀.toList:=fun x hx=>(jZ.mp hq.perm).mem_iff.mp hx;have d_:∀aF,SM κ (arrOf st) MW aF->SR κ a₀ lo aF:=fun aF m=>⟨MW,⟨by rw[m.arr];exact hq.perm,m.kind,m.failed,m.pend⟩,CQ,Uf⟩
 refine aB (bE (eL (arrOf st) sb (by lia)) ?_);refine aB (ik hC Ib.kind (wP _ (by simp)) wP (by lia) (by lia) fun k hk=>?_);dsimp only;by_cases f1:(na-k==0)=true
 .rw[ap f1];exact aK (h _ (d_ _ Ib))
 rw[ao f1];have g1:¬ (na-k=0):=by simpa using f1
 refine aB (bE (eL (arrOf st) (sa+k+(na-k)-1) (by lia)) ?_);refine aB (ik hC Ib.kind (wP _ (by simp)) wP (by lia) (by lia) fun k2 Ph=>?_);dsimp only;by_cases f2:(k2==0)=true
 .rw[ap f2];exact aK (h _ (d_ _ Ib))
 rw[ao f2];have g2:¬ (k2=0):=by simpa using f2
 have hx:∀x∈((arrOf st).extract (sa+k) sb).toList,x∈a₀.toList:=fun x hx=>wP x (by rw[fQ] at hx;exact ue (oZ hx));have hy:∀x∈((arrOf st).extract sb (sb+k2)).toList,x∈a₀.toList:=fun x hx=>wP x (by rw[fQ] at hx;exact ue (oZ hx));have sx:((arrOf st).extract (sa+k) sb).size=sb-(sa+k):=by rw[Array.size_extract];lia
 have sy:((arrOf st).extract sb (sb+k2)).size=k2:=by rw[Array.size_extract];lia
 have last:∀ (out:bu) (aF:bZ),out.Perm ((arrOf st).extract (sa+k) sb++(arrOf st).extract sb (sb+k2))->SM κ (arrOf st) MW aF->wpS (model prog w) A E s (do
   modify fun s=>setArr s (out.toList.zipIdx.foldl (fun a (p,j)=>a.setIfInBounds (sa+k+j) p) (arrOf s))
   return (failedOf (<-get)).isNone) Q aF:=by
  intro out aF hp m;refine aB (gh ?_);refine aB (fz (aK ?_));have osz:out.toList.length=sb-(sa+k)+k2:=by
   rw[lI,hp.size_eq,Array.size_append,sx,sy]
  have wl:=vg (sa:=sa+k) out.toList 0 (arrOf aF) (by rw[m.arr,osz];lia);have pm:(out.toList.zipIdx.foldl (fun a (p,j)=>a.setIfInBounds (sa+k+j) p) (arrOf aF)).Perm (arrOf st):=by
   rw[jZ];refine(lR wl).trans ?_;rw[m.arr,osz,Nat.add_zero];have Uh:=jZ.mp hp;rw[gD,fQ,fQ] at Uh;refine((Uh.append_left _).append_right _).trans ?_;have e1:(arrOf st).toList.drop (sa+k)=((arrOf st).toList.drop (sa+k)).take (sb-(sa+k))++(arrOf st).toList.drop sb:=pK (by lia);have e2:(arrOf st).toList.drop sb=((arrOf st).toList.drop sb).take (sb+k2-sb)++(arrOf st).toList.drop (sb+k2):=pK (by lia);have e3:sa+k+(sb-(sa+k)+k2)=sb+k2:=by lia
   rw[e3];refine lR ?_;conv=>rhs;rw[<-nG (sa+k) (arrOf st).toList,e1,e2]
   simp only[dP]
  have hf:(failedOf aF).isNone=true:=by rw[m.failed];rfl
  show Q (failedOf aF).isNone _;rw[hf];exact h _ ⟨MW,⟨pm.trans hq.perm,m.kind,m.failed,m.pend⟩,CQ,Uf⟩
 by_cases f3:na-k<=k2
 .rw[ap f3];exact aB (Az hC Ib hx hy (by lia) (by lia) fun out aF hp m=>last out aF hp m)
 .rw[ao f3];exact aB (AB hC Ib hx hy (by lia) (by lia) fun out aF hp m=>last out aF hp m)
theorem AD{c:Prop}[Decidable c]{x:Nat}:(if c then x-1 else x)<=x:=by split <;> lia
theorem SR.pw{lo:Nat}{st:bZ}(h:SR κ a₀ lo st)(i p:Nat):SR κ a₀ lo (setPending st ((pendingOf st).modify i fun r=>(r.1,r.2.1,p))):=by
 obtain⟨pd,hq,hr,hl⟩:=h;refine⟨_,⟨hq.perm,hq.kind,hq.failed,rfl⟩,?_,hl⟩;show ku ((pendingOf st).modify i fun r=>(r.1,r.2.1,p)).toList 0 lo;rw[hq.pend,Array.toList_modify];exact hr.pw i p
theorem SR.push{lo n:Nat}{st:bZ}(h:SR κ a₀ lo st)(h1:1<=n)(hn:lo+n<=a₀.size):SR κ a₀ (lo+n) (setPending st ((pendingOf st).push (lo,n,0))):=by
 obtain⟨pd,hq,hr,hl⟩:=h;refine⟨_,⟨hq.perm,hq.kind,hq.failed,rfl⟩,?_,hn⟩;show ku ((pendingOf st).push (lo,n,0)).toList 0 (lo+n);rw[hq.pend,nV];exact hr.push h1
theorem GR{st:bZ}{Q:wm}(hC:mh prog w A s κ a₀)(hp:(arrOf st).Perm a₀)(hk:kindOf st=κ)(hf:failedOf st=none)(Q7:pendingOf st=#[])(h:∀aF,(arrOf aF).Perm a₀->failedOf aF=none->Q () aF):wpS (model prog w) A E s sortRuns' Q st:=by
 have h0:SR κ a₀ 0 st:=⟨#[],⟨hp,hk,hf,Q7⟩,rfl,cp _⟩
 have iC:(arrOf st).size=a₀.size:=hp.size_eq;rw[sortRuns'_eq];refine aB (fz ?_);dsimp only;rw[iC];refine aB (dL (fm (I:=fun _ c aF=>∃lo,c=(none,lo)/\SR κ a₀ lo aF) (Q:=fun c aF=>∃lo,c=(none,lo)/\SR κ a₀ lo aF) ?_ (fun c aF hh=>hh) ⟨0,rfl,h0⟩) ?_)
 .rintro i c Bj _ _ ⟨lo,rfl,hR⟩;dsimp only;by_cases e1:lo>=a₀.size
  .rw[ap e1];exact aK ⟨lo,rfl,hR⟩
  rw[ao e1];have Uf:lo<a₀.size:=by lia
  obtain⟨pd,hq,hr,hl⟩:=hR;refine aB (C8 hC (by lia) (by lia) hq fun n lC Ic n1 n2=>?_);dsimp only;by_cases hm:n<minRun' a₀.size a₀.size 0
  .rw[ap hm];refine aB (jN (fv ⟨rfl,?_⟩));refine aB (JJ hC (by lia) Ic fun jp Ui=>?_);simp only[uC,iL,eG];have Bk:SR κ a₀ lo jp:=⟨pd,Ui,hr,hl⟩
   refine aB (fz ?_);cases hb:(pendingOf jp).back? with
   |none=>
    dsimp only;exact aB (gh (aK ⟨_,rfl,Bk.push (by lia) (by lia)⟩))
   |some r=>
    obtain⟨s1,n1',pw1⟩:=r;dsimp only;refine aB (dL (fm (I:=fun _ c aF=>c=(none,())/\SR κ a₀ lo aF) (Q:=fun c aF=>c=(none,())/\SR κ a₀ lo aF) ?_ (fun c aF hh=>hh) ⟨rfl,Bk⟩) ?_)
    .rintro x c sM _ _ ⟨rfl,tQ⟩;refine aB (fz ?_);by_cases hs:(pendingOf sM).size > 1
     .rw[ap hs,eL (pendingOf sM) ((pendingOf sM).size-2) (by lia)];generalize (pendingOf sM)[(pendingOf sM).size-2]=r4;obtain⟨_,_,V3⟩:=r4;dsimp only;split
      .exact aK ⟨rfl,tQ⟩
      .refine aB (mm hC tQ (by lia) fun zi Q_=>?_);simp only[uC,iL,eG];exact aK ⟨rfl,Q_⟩
     .rw[ao hs];exact aK ⟨rfl,tQ⟩
    .rintro c sM ⟨rfl,tQ⟩;dsimp only;exact aB (gh (aB (gh (aK ⟨_,rfl,(tQ.pw _ _).push (by lia) (by lia)⟩))))
  .rw[ao hm];have Bk:SR κ a₀ lo lC:=⟨pd,Ic,hr,hl⟩
   refine aB (fz ?_);cases hb:(pendingOf lC).back? with
   |none=>
    dsimp only;exact aB (gh (aK ⟨_,rfl,Bk.push (by lia) (by lia)⟩))
   |some r=>
    obtain⟨s1,n1',pw1⟩:=r;dsimp only;refine aB (dL (fm (I:=fun _ c aF=>c=(none,())/\SR κ a₀ lo aF) (Q:=fun c aF=>c=(none,())/\SR κ a₀ lo aF) ?_ (fun c aF hh=>hh) ⟨rfl,Bk⟩) ?_)
    .rintro x c sM _ _ ⟨rfl,tQ⟩;refine aB (fz ?_);by_cases hs:(pendingOf sM).size > 1
     .rw[ap hs,eL (pendingOf sM) ((pendingOf sM).size-2) (by lia)];generalize (pendingOf sM)[(pendingOf sM).size-2]=r4;obtain⟨_,_,V3⟩:=r4;dsimp only;split
      .exact aK ⟨rfl,tQ⟩
      .refine aB (mm hC tQ (by lia) fun zi Q_=>?_);simp only[uC,iL,eG];exact aK ⟨rfl,Q_⟩
     .rw[ao hs];exact aK ⟨rfl,tQ⟩
    .rintro c sM ⟨rfl,tQ⟩;dsimp only;exact aB (gh (aB (gh (aK ⟨_,rfl,(tQ.pw _ _).push (by lia) (by lia)⟩))))
 .rintro c Bj ⟨lo,rfl,hR⟩;dsimp only;refine aB (dL (fm (I:=fun _ c aF=>c=(none,())/\SR κ a₀ lo aF) (Q:=fun c aF=>c=(none,())/\SR κ a₀ lo aF) ?_ (fun c aF hh=>hh) ⟨rfl,hR⟩) ?_)
  .rintro x c sM _ _ ⟨rfl,tQ⟩;refine aB (fz ?_);by_cases hs:(pendingOf sM).size<=1
   .rw[ap hs];exact aK ⟨rfl,tQ⟩
   rw[ao hs];refine aB (mm hC tQ ?_ fun zi Q_=>?_)
   .exact eK (xy AD) (show (pendingOf sM).size-2+1<(pendingOf sM).size by lia)
   .simp only[uC,iL,eG];exact aK ⟨rfl,Q_⟩
  .rintro c sM ⟨rfl,pd,hq,_⟩;exact aK (h _ hq.perm hq.failed)
end
end PyProof.Rows
namespace L2
open PySem PySem.Spec PyProof.Rows PySem.W
def lh(h:Heap)(vs:bw):Prop:=∀v∈vs,∃a o n x t y u,v=Value.ref a/\h.get? a=some o/\o.cls=.type "tuple"/\o.data=.seq #[.int x t,.int y u] n
theorem lh.o5{h:Heap}:∀ {vs:bw},lh h vs->∃fs,KatTups h vs fs/\fs.length=vs.length/\∀v∈fs,∃n t,v=Value.int n t
 |[],_=>⟨[],trivial,rfl,fun v hv=>nomatch hv⟩
 |v::vs,hp=>by
  obtain⟨fs,k1,k2,k3⟩:=lh.o5 (vs:=vs) fun b hb=>hp b (dq _ hb);obtain⟨a,o,n,x,t,y,u,rfl,e,c,d⟩:=hp v cK;refine⟨.int x t::fs,KatTups.cons e c d rfl k1,by simp[k2],fun v hv=>?_⟩;rcases bq.mp hv with z|z
  .exact⟨x,t,z⟩
  .exact k3 v z
section
variable {prog:bL} {w:World} {A:br} {E:bV} {s:aR}
theorem GS{vs:bw}(hp:lh s.heap vs):mh prog w A s (tuples' true) (vs.toArray.zip vs.toArray):=by
 have mem:∀x∈(vs.toArray.zip vs.toArray).toList,x.1∈vs:=by
  intro x hx;rw[qA] at hx;exact(nY hx).1
 intro x y hx hy Q E' q;obtain⟨a,o,n,x1,t1,x2,t2,e1,eo,_,ed⟩:=hp x.1 (mem x hx);obtain⟨b,o',n',y1,u1,y2,u2,e2,eo',_,ed'⟩:=hp y.1 (mem y hy);rw[e1,e2];refine kat_lt eo ed eo' ed' (kat_cons (uA ?_));by_cases h1:x1=y1
 .rw[gg.mpr h1];refine kat_yes (kat_cons (uA ?_));by_cases h2:x2=y2
  .rw[gg.mpr h2];exact kat_yes (kat_nil (q _))
  .rw[o0.mpr h2];exact kat_no (kat_one _ _ (lt_int (q _)))
 .rw[o0.mpr h1];exact kat_no (oneLt_int (q _))
theorem MX{vs:bw}:((vs.toArray.zip vs.toArray).map (·.2)).toList=vs:=by
 rw[kO,qA];show (vs.zip vs).map (·.2)=vs;rw[<-List.unzip_snd,List.unzip_zip_right (aP _)]
theorem sU{a:Addr}{vs:bw}{n:Nat}{Pzz:PySem.Fin->Shared->Prop}(ho:s.heap.get? a=some (seqObj "list" vs.toArray n))(hp:lh s.heap vs)(hz:vs.length<=4096)(h:∀ (out:bD),out.toList.Perm vs->Pzz (.done (.ret .none)) { s with heap:=sortedHeap s.heap a vs out }):
  wpAny (model prog w) A (Builtin.«list.sort» ⟨[.ref a],[]⟩) Pzz E s:=by
 rw[list_sort_plain];have ha:a<s.heap.objs.size:=aS ho;have MY:vs.toArray.size<=sizeLine:=by rw[ce,ge];lia
 refine au (listItems_at ho rfl ?_);refine au (jJ ho rfl ?_ MY (cp _));obtain⟨e1,Ih⟩:∃e1,(s.heap.update a (Obj.mapSeq fun _=>#[])).get? a=some (seqObj "list" #[] e1):=⟨_,kR ho (fun _=>#[])⟩
 refine au (lW Ih rfl ?_);refine au (uD ?_ (by show vs.length<=_;rw[ge];lia));refine au (qK ?_ (cp _));refine gK ?_;have GT:(((s.heap.update a (Obj.mapSeq fun _=>#[])).push (seqObj "tuple" vs.toArray 0)).push (seqObj "list" #[] 0)).get? a=some (seqObj "list" #[] e1):=by
  rw[eT _ _ _ (by rw[fw,eV];exact bf (dH ha)),eT _ _ _ (by rw[eV];exact bf ha)];exact Ih
 have zm:lh (((s.heap.update a (Obj.mapSeq fun _=>#[])).push (seqObj "tuple" vs.toArray 0)).push (seqObj "list" #[] 0)) vs:=by
  intro v hv;obtain⟨b,o,n,x,t,y,u,ev,e,c,d⟩:=hp v hv;have hb:b<s.heap.objs.size:=aS e;have qd:b≠a:=by
   rintro rfl;rw[ho] at e;cases e;exact absurd (Value.type.inj c) (by decide)
  refine⟨b,o,n,x,t,y,u,ev,?_,c,d⟩;rw[eT _ _ _ (by rw[fw,eV];exact bf (dH hb)),eT _ _ _ (by rw[eV];exact bf hb),lJ _ _ _ _ qd];exact e
 show wpAny (model prog w) A _ Pzz E { s with heap:=((s.heap.update a (Obj.mapSeq fun _=>#[])).push (seqObj "tuple" vs.toArray 0)).push (seqObj "list" #[] 0) };dsimp only;have d_:∀aF:SortSt,(arrOf aF).Perm (vs.toArray.zip vs.toArray)->Pzz (.done (.ret .none)) { s with heap:=sortedHeap s.heap a vs ((arrOf aF).map (·.2)) }:=by
  intro aF JN;refine h _ ?_;have:=(jZ.mp JN).map (·.2);rw[<-kO,<-kO,MX] at this;exact this
 have Pp:(vs.toArray.zip vs.toArray).size=vs.length:=by simp
 by_cases h2:vs.toArray.size<2
 .rw[ap h2,ap h2];refine au (wpAny_pure ?_);rw[B6];refine au (wpAny_pure ?_);dsimp only;refine au (lW GT rfl ?_);refine au (jJ GT rfl ?_ (cp _) (by show ((vs.toArray.zip vs.toArray).map (·.2)).size<=_;rw[j7,Pp,ge];lia));simp only[ul,iL,eG];exact wpAny_pure (d_ (SortSt.mk' general' (vs.toArray.zip vs.toArray) #[] 7 none) (xC _))
 .rw[ao h2,ao h2];have e8:2<=vs.length:=by rw[ce] at h2;lia
  obtain⟨fs,k1,k2,k3⟩:=zm.o5;refine au (kat_kind (T:=.type "int") k1 (by lia) (fun v hv=>?_) rfl ?_)
  .obtain⟨m,t,rfl⟩:=k3 v hv;exact .now
  refine au (jK (GR (a₀:=vs.toArray.zip vs.toArray) (κ:=tuples' true) (st:=SortSt.mk' (tuples' true) (vs.toArray.zip vs.toArray) #[] 7 none)
   (Q:=fun _ aF=>(arrOf aF).Perm (vs.toArray.zip vs.toArray)/\failedOf aF=none) (GS zm) (xC _) rfl rfl rfl fun aF b1 b2=>⟨b1,b2⟩) ?_ fun _ _ e=>e)
  rintro⟨⟨⟩,aF⟩ s' ⟨rfl,JN,hf⟩;dsimp only;refine au (lW GT rfl ?_);refine au (jJ GT rfl ?_ (cp _) (by refine aZ (qJ ((j7 ..).trans (JN.size_eq.trans Pp))) ?_;rw[ge];lia));rw[hf];simp only[ul,iL,eG];exact wpAny_pure (d_ aF JN)
theorem yq{l:Addr}{vs:bw}{Q:bV}(hl:s.heap.IsList l vs.toArray)(hp:lh s.heap vs)(hz:vs.length<=4096)(h:∀ (out:bD),out.toList.Perm vs->Q (.ref (s.heap.objs.size+1)) { s with heap:=sortedAll s.heap vs out }):
  wpAny (model prog w) A (call (.builtin "sorted") [.ref l]) Q E s:=by
 have MY:vs.length<=sizeLine:=by rw[ge];lia
 refine Calls.call_function_entry kind_sorted plain_sorted entry_sorted (args_sorted1 _) ?_;unfold Builtin.«sorted»;refine au (m:=checkCount "sorted" 1 1 _) (wpAny_pure ?_);refine au (collect_list hl ?_ MY);refine au (qK ?_ MY);have iC:((s.heap.push (seqObj "list" #[] 0)).update s.heap.objs.size (Obj.mapSeq (·++vs.toArray))).objs.size=s.heap.objs.size+1:=by
  rw[eV,fw]
 have wq:(((s.heap.push (seqObj "list" #[] 0)).update s.heap.objs.size (Obj.mapSeq (·++vs.toArray))).push (seqObj "list" vs.toArray 0)).get? (s.heap.objs.size+1)=some (seqObj "list" vs.toArray 0):=by
  rw[<-iC];exact cX _ rfl
 have vK:lh (((s.heap.push (seqObj "list" #[] 0)).update s.heap.objs.size (Obj.mapSeq (·++vs.toArray))).push (seqObj "list" vs.toArray 0)) vs:=by
  intro v hv;obtain⟨b,o,n,x,t,y,u,ev,e,c,d⟩:=hp v hv;have hb:b<s.heap.objs.size:=aS e;refine⟨b,o,n,x,t,y,u,ev,?_,c,d⟩;rw[eT _ _ _ (by rw[iC];exact bf (dH hb)),lJ _ _ _ _ (bf hb),eT _ _ _ (bf hb)];exact e
 show wpAny _ _ _ _ _ { s with heap:=((s.heap.push (seqObj "list" #[] 0)).update s.heap.objs.size (Obj.mapSeq (·++vs.toArray))).push (seqObj "list" vs.toArray 0) };rw[iC];refine au (gK (lM slot_list_sort ⟨_,wq,rfl⟩ entry_list_sort (sU wq vK hz fun out a1=>⟨_,rfl,?_⟩) (args_list_sort _)));exact wpAny_pure ⟨_,rfl,h out a1⟩
end
theorem pL:∀ {as:bR} {its:bw},ba (as.map V.ref) its->its=as.map Value.ref
 |[],_,r=>by cases r;rfl
 |a::as,_,r=>by
  cases r with
  |cons r rr=>
   obtain rfl:=(show _=Value.ref a from r)
   rw[pL rr];rfl
theorem rj:∀ {as:bR},ba (as.map V.ref) (as.map Value.ref)
 |[]=>.nil
 |_::_=>.cons rfl rj
theorem wT{as:bR}{vs:bw}(h:vs.Perm (as.map Value.ref)):∃ny:List Addr,vs=ny.map Value.ref/\ny.Perm as:=by
 let un:Value->Addr:=fun v=>match v with|.ref a=>a|_=>0
 refine⟨vs.map un,?_,?_⟩
 .rw[dQ];have:∀v∈vs,(Value.ref ∘ un) v=v:=by
   intro v hv;obtain⟨a,_,rfl⟩:=bB.mp (h.mem_iff.mp hv);rfl
  conv=>lhs;rw[<-kX vs]
  exact j5 fun v hv=>(this v hv).symm
 .have:=h.map un;rw[dQ] at this;have e:as.map (un ∘ Value.ref)=as:=by
   conv=>rhs;rw[<-kX as]
   exact j5 fun a _=>rfl
  rw[e] at this;exact this
def JO(K:a_):List V->Hp->VK->Prop:=fun xs H Q=>∃ (l:Addr) (as:bR),xs=[.ref l]/\a8 K H l (as.map V.ref)/\(∀a∈as,∃x y:Int,cu K H a [.int x,.int y])/\as.length<=4096/\
 ∀ (D:Addr) (ny:bR),H D=none->ny.Perm as->Q (.ref D) (upd H D (.lst (ny.map V.ref)))
theorem C9{X:Cx}:gf X (.builtin "sorted") (JO X.K):=by
 intro af s σ H xs us Q I r h;obtain⟨l,as,rfl,hl,hp,hz,q⟩:=h;obtain⟨u1,rfl,r1⟩:=r.one;obtain rfl:u1=Value.ref l:=r1;obtain⟨its,rv,pl,_⟩:=I.list hl;have yj:=pL rv;subst yj;have hpv:lh s.heap (as.map Value.ref):=by
  intro v hv;obtain⟨a,ha,rfl⟩:=bB.mp hv;obtain⟨x,y,wO⟩:=hp a ha;obtain⟨its,r,⟨o,e,c,n,d⟩,_⟩:=I.tuple wO;obtain⟨u1,u2,rfl,r1,r2⟩:=r.two;obtain⟨t,rfl⟩:=r1;obtain⟨t',rfl⟩:=r2;exact⟨a,o,n,x,t,y,t',rfl,e,c,d⟩
 refine yq pl.isList hpv (by rw[aT];exact hz) fun out JP=>?_;obtain⟨ny,eo,pa⟩:=wT JP;have Aj:out=(ny.map Value.ref).toArray:=by rw[<-eo]
 subst Aj;have Ra:((s.heap.push (seqObj "list" #[] 0)).update s.heap.objs.size (Obj.mapSeq (·++(as.map Value.ref).toArray))).objs.size=s.heap.objs.size+1:=by rw[eV,fw]
 have k1:∀b u,s.heap.get? b=some u->(((s.heap.push (seqObj "list" #[] 0)).update s.heap.objs.size (Obj.mapSeq (·++(as.map Value.ref).toArray))).push (seqObj "list" (as.map Value.ref).toArray 0)).get? b=some u:=fun b u e=>by
  have hb:b<s.heap.objs.size:=aS e;rw[eT _ _ _ (by rw[Ra];exact bf (dH hb)),lJ _ _ _ _ (bf hb),eT _ _ _ (bf hb)];exact e
 have wq:(((s.heap.push (seqObj "list" #[] 0)).update s.heap.objs.size (Obj.mapSeq (·++(as.map Value.ref).toArray))).push (seqObj "list" (as.map Value.ref).toArray 0)).get? (s.heap.objs.size+1)=some (seqObj "list" (as.map Value.ref).toArray 0):=by
  rw[<-Ra];exact cX _ rfl
 have GU:(((s.heap.push (seqObj "list" #[] 0)).update s.heap.objs.size (Obj.mapSeq (·++(as.map Value.ref).toArray))).push (seqObj "list" (as.map Value.ref).toArray 0)).objs.size=s.heap.objs.size+2:=by rw[fw,Ra]
 show EP X af σ Q (.ref (s.heap.objs.size+1)) { s with heap:=sortedHeap (((s.heap.push (seqObj "list" #[] 0)).update s.heap.objs.size (Obj.mapSeq (·++(as.map Value.ref).toArray))).push (seqObj "list" (as.map Value.ref).toArray 0)) (s.heap.objs.size+1) (as.map Value.ref) (ny.map Value.ref).toArray };revert k1 wq GU;generalize ((s.heap.push (seqObj "list" #[] 0)).update s.heap.objs.size (Obj.mapSeq (·++(as.map Value.ref).toArray))).push (seqObj "list" (as.map Value.ref).toArray 0)=h1;intro k1 wq GU;obtain⟨e1,Ih⟩:∃e1,(h1.update (s.heap.objs.size+1) (Obj.mapSeq fun _=>(#[]:bD))).get? (s.heap.objs.size+1)=some (seqObj "list" #[] e1):=⟨_,kR wq (fun _=>#[])⟩
 have GT:(((h1.update (s.heap.objs.size+1) (Obj.mapSeq fun _=>(#[]:bD))).push (seqObj "tuple" (as.map Value.ref).toArray 0)).push (seqObj "list" #[] 0)).get? (s.heap.objs.size+1)=some (seqObj "list" #[] e1):=by
  rw[eT _ _ _ (by rw[fw,eV,GU];exact bf (dH (lL _))),eT _ _ _ (by rw[eV,GU];exact bf (lL _))];exact Ih
 obtain⟨e2,ho7⟩:∃e2,(sortedHeap h1 (s.heap.objs.size+1) (as.map Value.ref) (ny.map Value.ref).toArray).get? (s.heap.objs.size+1)=some (seqObj "list" (ny.map Value.ref).toArray e2):=⟨_,kR GT (fun _=>(ny.map Value.ref).toArray)⟩
 have keep:∀b u,s.heap.get? b=some u->(sortedHeap h1 (s.heap.objs.size+1) (as.map Value.ref) (ny.map Value.ref).toArray).get? b=some u:=fun b u e=>by
  have hb:b<s.heap.objs.size:=aS e;unfold sortedHeap;rw[lJ _ _ _ _ (bf (dH hb)),eT _ _ _ (by rw[fw,eV,GU];exact bf (dH (dH (dH hb)))),eT _ _ _ (by rw[eV,GU];exact bf (dH (dH hb))),lJ _ _ _ _ (bf (dH hb))];exact k1 b u e
 have vh:s.heap.get? (s.heap.objs.size+1)=none:=qt (by lia);refine⟨.ref (s.heap.objs.size+1),_,I.z4 (t':=s.toks) (o:=.lst (ny.map V.ref)) keep vh ⟨?_,ny.map Value.ref,e2,rj,ho7⟩,rfl,q _ ny (I.cY.uY vh) pa⟩;rw[aT,pa.length_eq];exact aZ hz (by decide)
def jU(h:Heap)(g:uK)(vs:bw):Prop:=∀v∈vs,∃a o n t u,v=Value.ref a/\h.get? a=some o/\o.cls=.type "tuple"/\o.data=.seq #[.int (g a).1 t,.int (g a).2 u] n/\0<=(g a).2/\(g a).2<64
def pk(u:lF):Int:=64*u.1+u.2
def kv(g:uK)(v:Value):Int:=match v with
 |.ref a=>pk (g a)
 |_=>0
theorem jU.o5{h:Heap}{g:uK}:∀ {vs:bw},jU h g vs->∃fs,KatTups h vs fs/\fs.length=vs.length/\∀v∈fs,∃n t,v=Value.int n t
 |[],_=>⟨[],trivial,rfl,fun v hv=>nomatch hv⟩
 |v::vs,hp=>by
  obtain⟨fs,k1,k2,k3⟩:=jU.o5 (vs:=vs) fun b hb=>hp b (dq _ hb);obtain⟨a,o,n,t,u,rfl,e,c,d,_⟩:=hp v cK;refine⟨.int (g a).1 t::fs,KatTups.cons e c d rfl k1,by simp[k2],fun v hv=>?_⟩;rcases bq.mp hv with z|z
  .exact⟨_,t,z⟩
  .exact k3 v z
section
variable {prog:bL} {w:World} {A:br} {E:bV} {s:aR} {g:uK}
theorem C_{vs:bw}(hp:jU s.heap g vs):LZ prog w A s (tuples' true) (vs.toArray.zip vs.toArray) (fun x=>kv g x.1):=by
 have mem:∀x∈(vs.toArray.zip vs.toArray).toList,x.1∈vs:=by
  intro x hx;rw[qA] at hx;exact(nY hx).1
 intro x y hx hy Q E' q;obtain⟨a,o,n,t1,t2,e1,eo,_,ed,a1,a2⟩:=hp x.1 (mem x hx);obtain⟨b,o',n',u1,u2,e2,eo',_,ed',b1,b2⟩:=hp y.1 (mem y hy);replace q:∀c,c=decide (kv g x.1<kv g y.1)->Q c s:=fun c e=>e ▸ q;rw[e1,e2] at q;rw[e1,e2];replace q:∀c,c=decide (64*(g a).1+(g a).2<64*(g b).1+(g b).2)->Q c s:=q;generalize (g a).1=x1 at *;generalize (g a).2=x2 at *;generalize (g b).1=y1 at *;generalize (g b).2=y2 at *;refine kat_lt eo ed eo' ed' (kat_cons (uA ?_));by_cases h1:x1=y1
 .rw[gg.mpr h1];refine kat_yes (kat_cons (uA ?_));by_cases h2:x2=y2
  .rw[gg.mpr h2];exact kat_yes (kat_nil (q _ (by
    have e:decide (64*x1+x2<64*y1+y2)=false:=gY (by lia);rw[e];rfl)))
  .rw[o0.mpr h2];exact kat_no (kat_one _ _ (lt_int (q _ (by congr 1;rw[eq_iff_iff];lia))))
 .rw[o0.mpr h1];exact kat_no (oneLt_int (q _ (by congr 1;rw[eq_iff_iff];lia)))
theorem JQ{vs:bw}:((vs.toArray.zip vs.toArray).map (·.2)).toList=vs:=by
 rw[kO,qA];show (vs.zip vs).map (·.2)=vs;rw[<-List.unzip_snd,List.unzip_zip_right (aP _)]
theorem GV{l:bw}{p:Value×Value}:p∈l.zip l->p.2=p.1:=by
 induction l with
 |nil=>intro h;cases h
 |cons x l ih=>
  intro h;rw[List.zip_cons_cons] at h;rcases bq.mp h with z|z
  .rw[z]
  .exact ih z
def EU(g:uK)(v:Value):Int:=match v with
 |.ref a=>(g a).2
 |_=>0
theorem nuS{h:Heap}{g:uK}{vs:bw}(hp:jU h g vs)(up:vs.Pairwise fun u v=>EU g u<EU g v):Nu (fun x:Keyed=>EU g x.1) (vs.toArray.zip vs.toArray):=by
 have e:∀i (hi:i<vs.length),kk (fun x:Keyed=>EU g x.1) (vs.toArray.zip vs.toArray) i=EU g vs[i]:=fun i hi=>by
  rw[mf (by simpa using hi)];simp
 refine⟨fun i j zG hj=>?_,fun x hx=>?_⟩
 .have hj:j<vs.length:=by simpa using hj
  rw[e i (by lia),e j hj];exact qg.mp up i j (by lia) hj zG
 .rw[qA] at hx;obtain⟨a,o,n,t,u,ev,_,_,_,b1,b2⟩:=hp x.1 (nY hx).1;show 0<=EU g x.1/\EU g x.1<64;rw[ev];exact⟨b1,b2⟩
theorem rm{a:Addr}{vs:bw}{n:Nat}{Pzz:PySem.Fin->Shared->Prop}(ho:s.heap.get? a=some (seqObj "list" vs.toArray n))(hp:jU s.heap g vs)(hz:vs.length<64)(up:vs.Pairwise fun u v=>EU g u<EU g v)(h:∀ (out:bD),out.toList.Perm vs->out.toList.Pairwise (fun u v=>kv g u<=kv g v)->Pzz (.done (.ret .none)) { s with heap:=sortedHeap s.heap a vs out }):
  wpAny (model prog w) A (Builtin.«list.sort» ⟨[.ref a],[]⟩) Pzz E s:=by
 rw[list_sort_plain];have ha:a<s.heap.objs.size:=aS ho;have MY:vs.toArray.size<=sizeLine:=by rw[ce,ge];lia
 refine au (listItems_at ho rfl ?_);refine au (jJ ho rfl ?_ MY (cp _));obtain⟨e1,Ih⟩:∃e1,(s.heap.update a (Obj.mapSeq fun _=>#[])).get? a=some (seqObj "list" #[] e1):=⟨_,kR ho (fun _=>#[])⟩
 refine au (lW Ih rfl ?_);refine au (uD ?_ (by show vs.length<=_;rw[ge];lia));refine au (qK ?_ (cp _));refine gK ?_;have GT:(((s.heap.update a (Obj.mapSeq fun _=>#[])).push (seqObj "tuple" vs.toArray 0)).push (seqObj "list" #[] 0)).get? a=some (seqObj "list" #[] e1):=by
  rw[eT _ _ _ (by rw[fw,eV];exact bf (dH ha)),eT _ _ _ (by rw[eV];exact bf ha)];exact Ih
 have zm:jU (((s.heap.update a (Obj.mapSeq fun _=>#[])).push (seqObj "tuple" vs.toArray 0)).push (seqObj "list" #[] 0)) g vs:=by
  intro v hv;obtain⟨b,o,n,t,u,ev,e,c,d⟩:=hp v hv;have hb:b<s.heap.objs.size:=aS e;have qd:b≠a:=by
   rintro rfl;rw[ho] at e;cases e;exact absurd (Value.type.inj c) (by decide)
  refine⟨b,o,n,t,u,ev,?_,c,d⟩;rw[eT _ _ _ (by rw[fw,eV];exact bf (dH hb)),eT _ _ _ (by rw[eV];exact bf hb),lJ _ _ _ _ qd];exact e
 show wpAny (model prog w) A _ Pzz E { s with heap:=((s.heap.update a (Obj.mapSeq fun _=>#[])).push (seqObj "tuple" vs.toArray 0)).push (seqObj "list" #[] 0) };dsimp only;have d_:∀aF:SortSt,(arrOf aF).Perm (vs.toArray.zip vs.toArray)->So (fun x=>kv g x.1) (arrOf aF) 0 (arrOf aF).size->Pzz (.done (.ret .none)) { s with heap:=sortedHeap s.heap a vs ((arrOf aF).map (·.2)) }:=by
  intro aF JN so;refine h _ ?_ ?_
  .have:=(jZ.mp JN).map (·.2);rw[<-kO,<-kO,JQ] at this;exact this
  .have same:∀p∈(arrOf aF).toList,p.2=p.1:=by
    intro p hp;have:=(jZ.mp JN).mem_iff.mp hp;rw[qA] at this;exact GV this
   rw[kO,gk];refine qg.mpr fun i j hi hj zG=>?_;rw[same _ (ie hi),same _ (ie hj)];have:=so i j (by lia) (by lia) (by simpa using hj);rw[mf (by simpa using hi),mf (by simpa using hj)] at this;simpa using this
 have Pp:(vs.toArray.zip vs.toArray).size=vs.length:=by simp
 by_cases h2:vs.toArray.size<2
 .rw[ap h2,ap h2];refine au (wpAny_pure ?_);rw[B6];refine au (wpAny_pure ?_);dsimp only;refine au (lW GT rfl ?_);refine au (jJ GT rfl ?_ (cp _) (by show ((vs.toArray.zip vs.toArray).map (·.2)).size<=_;rw[j7,Pp,ge];lia));simp only[ul,iL,eG];exact wpAny_pure (d_ (SortSt.mk' general' (vs.toArray.zip vs.toArray) #[] 7 none) (xC _) fun i j _ h3 h4=>by
   have h4:j<(vs.toArray.zip vs.toArray).size:=h4;rw[Pp] at h4;rw[ce] at h2;rw[show i=j by lia];exact n_ _)
 .rw[ao h2,ao h2];have e8:2<=vs.length:=by rw[ce] at h2;lia
  obtain⟨fs,k1,k2,k3⟩:=zm.o5;refine au (kat_kind (T:=.type "int") k1 (by lia) (fun v hv=>?_) rfl ?_)
  .obtain⟨m,t,rfl⟩:=k3 v hv;exact .now
  refine au (jK (ve (a₀:=vs.toArray.zip vs.toArray) (κ:=tuples' true) (ck:=fun x=>kv g x.1) (nu:=fun x=>EU g x.1) (st:=SortSt.mk' (tuples' true) (vs.toArray.zip vs.toArray) #[] 7 none)
   (Q:=fun _ aF=>(arrOf aF).Perm (vs.toArray.zip vs.toArray)/\failedOf aF=none/\So (fun x=>kv g x.1) (arrOf aF) 0 (vs.toArray.zip vs.toArray).size) (C_ zm) (nuS zm up) rfl rfl rfl rfl (by rw[Pp];exact e8) (by rw[Pp];exact hz) fun aF b1 b2 b3=>⟨b1,b2,fun i j _ h2 h3=>?_⟩) ?_ fun _ _ e=>e)
  .have q:=b3 i j h2 h3;have bd:∀k,k<(vs.toArray.zip vs.toArray).size->0<=kk (fun x:Keyed=>EU g x.1) (arrOf aF) k/\kk (fun x:Keyed=>EU g x.1) (arrOf aF) k<64:=fun k hk=>by
    have LX:k<(arrOf aF).size:=by rw[b1.size_eq];exact hk
    rw[mf LX];exact(nuS zm up).bd _ ((jZ.mp b1).mem_iff.mp (by simp))
   have:=bd i (by lia);have:=bd j h3;lia
  rintro⟨⟨⟩,aF⟩ s' ⟨rfl,JN,hf,so⟩;dsimp only;refine au (lW GT rfl ?_);refine au (jJ GT rfl ?_ (cp _) (by refine aZ (qJ ((j7 ..).trans (JN.size_eq.trans Pp))) ?_;rw[ge];lia));rw[hf];simp only[ul,iL,eG];exact wpAny_pure (d_ aF JN (by rw[JN.size_eq];exact so))
theorem v5{l:Addr}{vs:bw}{Q:bV}(hl:s.heap.IsList l vs.toArray)(hp:jU s.heap g vs)(hz:vs.length<64)(up:vs.Pairwise fun u v=>EU g u<EU g v)(h:∀ (out:bD),out.toList.Perm vs->out.toList.Pairwise (fun u v=>kv g u<=kv g v)->Q (.ref (s.heap.objs.size+1)) { s with heap:=sortedAll s.heap vs out }):
  wpAny (model prog w) A (call (.builtin "sorted") [.ref l]) Q E s:=by
 have MY:vs.length<=sizeLine:=by rw[ge];lia
 refine Calls.call_function_entry kind_sorted plain_sorted entry_sorted (args_sorted1 _) ?_;unfold Builtin.«sorted»;refine au (m:=checkCount "sorted" 1 1 _) (wpAny_pure ?_);refine au (collect_list hl ?_ MY);refine au (qK ?_ MY);have iC:((s.heap.push (seqObj "list" #[] 0)).update s.heap.objs.size (Obj.mapSeq (·++vs.toArray))).objs.size=s.heap.objs.size+1:=by
  rw[eV,fw]
 have wq:(((s.heap.push (seqObj "list" #[] 0)).update s.heap.objs.size (Obj.mapSeq (·++vs.toArray))).push (seqObj "list" vs.toArray 0)).get? (s.heap.objs.size+1)=some (seqObj "list" vs.toArray 0):=by
  rw[<-iC];exact cX _ rfl
 have vK:jU (((s.heap.push (seqObj "list" #[] 0)).update s.heap.objs.size (Obj.mapSeq (·++vs.toArray))).push (seqObj "list" vs.toArray 0)) g vs:=by
  intro v hv;obtain⟨b,o,n,t,u,ev,e,c,d⟩:=hp v hv;have hb:b<s.heap.objs.size:=aS e;refine⟨b,o,n,t,u,ev,?_,c,d⟩;rw[eT _ _ _ (by rw[iC];exact bf (dH hb)),lJ _ _ _ _ (bf hb),eT _ _ _ (bf hb)];exact e
 show wpAny _ _ _ _ _ { s with heap:=((s.heap.push (seqObj "list" #[] 0)).update s.heap.objs.size (Obj.mapSeq (·++vs.toArray))).push (seqObj "list" vs.toArray 0) };rw[iC];refine au (gK (lM slot_list_sort ⟨_,wq,rfl⟩ entry_list_sort (rm wq vK hz up fun out a1 a2=>⟨_,rfl,?_⟩) (args_list_sort _)));exact wpAny_pure ⟨_,rfl,h out a1 a2⟩
end
def JR(K:a_):List V->Hp->VK->Prop:=fun xs H Q=>∃ (l:Addr) (as:bR) (g:uK),xs=[.ref l]/\a8 K H l (as.map V.ref)/\(∀a∈as,cu K H a [.int (g a).1,.int (g a).2]/\0<=(g a).2/\(g a).2<64)/\as.length<64/\as.Pairwise (fun a b=>(g a).2<(g b).2)/\
 ∀ (D:Addr) (ny:bR),H D=none->ny.Perm as->ny.Pairwise (fun a b=>pk (g a)<=pk (g b))->Q (.ref D) (upd H D (.lst (ny.map V.ref)))
theorem Da{X:Cx}:gf X (.builtin "sorted") (JR X.K):=by
 intro af s σ H xs us Q I r h;obtain⟨l,as,g,rfl,hl,hp,hz,up,q⟩:=h;obtain⟨u1,rfl,r1⟩:=r.one;obtain rfl:u1=Value.ref l:=r1;obtain⟨its,rv,pl,_⟩:=I.list hl;have yj:=pL rv;subst yj;have hpv:jU s.heap g (as.map Value.ref):=by
  intro v hv;obtain⟨a,ha,rfl⟩:=bB.mp hv;obtain⟨wO,b1,b2⟩:=hp a ha;obtain⟨its,r,⟨o,e,c,n,d⟩,_⟩:=I.tuple wO;obtain⟨u1,u2,rfl,r1,r2⟩:=r.two;obtain⟨t,rfl⟩:=r1;obtain⟨t',rfl⟩:=r2;exact⟨a,o,n,t,t',rfl,e,c,d,b1,b2⟩
 refine v5 pl.isList hpv (by rw[aT];exact hz) (gk.mpr up) fun out JP V4=>?_;obtain⟨ny,eo,pa⟩:=wT JP;have Aj:out=(ny.map Value.ref).toArray:=by rw[<-eo]
 subst Aj;have ho:ny.Pairwise (fun a b=>pk (g a)<=pk (g b)):=by
  rw[eo,gk] at V4;exact V4
 have Ra:((s.heap.push (seqObj "list" #[] 0)).update s.heap.objs.size (Obj.mapSeq (·++(as.map Value.ref).toArray))).objs.size=s.heap.objs.size+1:=by rw[eV,fw]
 have k1:∀b u,s.heap.get? b=some u->(((s.heap.push (seqObj "list" #[] 0)).update s.heap.objs.size (Obj.mapSeq (·++(as.map Value.ref).toArray))).push (seqObj "list" (as.map Value.ref).toArray 0)).get? b=some u:=fun b u e=>by
  have hb:b<s.heap.objs.size:=aS e;rw[eT _ _ _ (by rw[Ra];exact bf (dH hb)),lJ _ _ _ _ (bf hb),eT _ _ _ (bf hb)];exact e
 have wq:(((s.heap.push (seqObj "list" #[] 0)).update s.heap.objs.size (Obj.mapSeq (·++(as.map Value.ref).toArray))).push (seqObj "list" (as.map Value.ref).toArray 0)).get? (s.heap.objs.size+1)=some (seqObj "list" (as.map Value.ref).toArray 0):=by
  rw[<-Ra];exact cX _ rfl
 have GU:(((s.heap.push (seqObj "list" #[] 0)).update s.heap.objs.size (Obj.mapSeq (·++(as.map Value.ref).toArray))).push (seqObj "list" (as.map Value.ref).toArray 0)).objs.size=s.heap.objs.size+2:=by rw[fw,Ra]
 show EP X af σ Q (.ref (s.heap.objs.size+1)) { s with heap:=sortedHeap (((s.heap.push (seqObj "list" #[] 0)).update s.heap.objs.size (Obj.mapSeq (·++(as.map Value.ref).toArray))).push (seqObj "list" (as.map Value.ref).toArray 0)) (s.heap.objs.size+1) (as.map Value.ref) (ny.map Value.ref).toArray };revert k1 wq GU;generalize ((s.heap.push (seqObj "list" #[] 0)).update s.heap.objs.size (Obj.mapSeq (·++(as.map Value.ref).toArray))).push (seqObj "list" (as.map Value.ref).toArray 0)=h1;intro k1 wq GU;obtain⟨e1,Ih⟩:∃e1,(h1.update (s.heap.objs.size+1) (Obj.mapSeq fun _=>(#[]:bD))).get? (s.heap.objs.size+1)=some (seqObj "list" #[] e1):=⟨_,kR wq (fun _=>#[])⟩
 have GT:(((h1.update (s.heap.objs.size+1) (Obj.mapSeq fun _=>(#[]:bD))).push (seqObj "tuple" (as.map Value.ref).toArray 0)).push (seqObj "list" #[] 0)).get? (s.heap.objs.size+1)=some (seqObj "list" #[] e1):=by
  rw[eT _ _ _ (by rw[fw,eV,GU];exact bf (dH (lL _))),eT _ _ _ (by rw[eV,GU];exact bf (lL _))];exact Ih
 obtain⟨e2,ho7⟩:∃e2,(sortedHeap h1 (s.heap.objs.size+1) (as.map Value.ref) (ny.map Value.ref).toArray).get? (s.heap.objs.size+1)=some (seqObj "list" (ny.map Value.ref).toArray e2):=⟨_,kR GT (fun _=>(ny.map Value.ref).toArray)⟩
 have keep:∀b u,s.heap.get? b=some u->(sortedHeap h1 (s.heap.objs.size+1) (as.map Value.ref) (ny.map Value.ref).toArray).get? b=some u:=fun b u e=>by
  have hb:b<s.heap.objs.size:=aS e;unfold sortedHeap;rw[lJ _ _ _ _ (bf (dH hb)),eT _ _ _ (by rw[fw,eV,GU];exact bf (dH (dH (dH hb)))),eT _ _ _ (by rw[eV,GU];exact bf (dH (dH hb))),lJ _ _ _ _ (bf (dH hb))];exact k1 b u e
 have vh:s.heap.get? (s.heap.objs.size+1)=none:=qt (by lia);refine⟨.ref (s.heap.objs.size+1),_,I.z4 (t':=s.toks) (o:=.lst (ny.map V.ref)) keep vh ⟨?_,ny.map Value.ref,e2,rj,ho7⟩,rfl,q _ ny (I.cY.uY vh) pa ho⟩;rw[aT,pa.length_eq];exact aZ (kW hz) (by decide)
open PySem PySem.Spec PyProof.Rows
theorem dO(sb:Heap.SameBut c h h')(n:b≠c)(e:h.get? b=some o):h'.get? b=some o:=(sb.2 b n).trans e
theorem hV(r:h.IsTupleIter it t k)(sb:Heap.SameBut c h h')(n:it≠c):h'.IsTupleIter it t k:=r.at fun o e=>dO sb n e
theorem vi(r:h.IsTuple t xs)(sb:Heap.SameBut c h h')(n:t≠c):h'.IsTuple t xs:=let ⟨o,e,z⟩:=r;⟨o,dO sb n e,z⟩
section
variable {prog:bL} {w:World} {A:br} {E:bV} {s:aR}
theorem GW{z ti tq i1 i2 t1 t2:Addr}{k:Nat}{xs ys:bD}{x y a b:Value}{Q:bV}(dj:ZipApart z ti tq i1 i2 t1 t2)(gz:IsZip s.heap z ti tq .none)(gi:IsPair s.heap ti (.ref i1) (.ref i2))(gq:IsPair s.heap tq a b)(r1:s.heap.IsTupleIter i1 t1 k)(r2:s.heap.IsTupleIter i2 t2 k)(g1:s.heap.IsTuple t1 xs)(g2:s.heap.IsTuple t2 ys)(ex:xs[k]?=some x)(ey:ys[k]?=some y)(q:∀h',IsZip h' z ti tq (rawInt s.heap.objs.size)->IsPair h' tq x y->h'.IsTupleIter i1 t1 (k+1)->h'.IsTupleIter i2 t2 (k+1)->IsPair h' s.heap.objs.size x y->(∀c o,c≠z->c≠tq->c≠i1->c≠i2->s.heap.get? c=some o->h'.get? c=some o)->Q (.ref s.heap.objs.size) { s with heap:=h' }):
  wpAny (model prog w) A (Builtin.«zip.__next__» ⟨[.ref z],[]⟩) (fun d_ s'=>∃v,d_=.done (.ret v)/\Q v s') E s:=by
 change wpAny _ _ (field (.ref z) 2 >>= _) _ _ _;refine au (gc gz rfl (x:=.bool false) rfl ?_);change wpAny _ _ (field (.ref z) 3 >>= _) _ _ _;refine au (gc gz rfl (x:=.ref ti) rfl (au (iE gi rfl ?_)));change wpAny _ _ (Builtin.SmallTypes.ownedTupleIsFree (.ref z) >>= _) _ _ _;refine au ?_;unfold Builtin.SmallTypes.ownedTupleIsFree;refine au (gc gz rfl (x:=.none) rfl (wpAny_pure ?_));simp only[jM];refine au (fv (au (gc gz rfl (x:=.ref tq) rfl ?_)));refine au (qx gz (by simp) fun m1 MZ sG=>?_);replace MZ:IsZip m1 z ti tq .ellipsis:=MZ;refine au ?_;simp only[B3,List.zipIdx_nil,qF,qH];refine au (au (wpAny_onRaise ?_));change wpAny _ _ (Builtin.SmallTypes.nextOf (.ref i1) >>= _) _ _ _;refine au (ot (hV r1 sG dj.i1z) (vi g1 sG dj.l1z) ex fun m2 r12 qY=>wpAny_pure ?_);have gq2:IsPair m2 tq a b:=dO qY dj.TOi1 (dO sG dj.TOz gq);refine au (iE gq2 rfl (au (wpAny_updateSeq_pair gq2 fun m3 gq3 M0=>?_)));replace gq3:IsPair m3 tq x b:=gq3;refine au (wpAny_letGo (wpAny_pure ?_));refine au (au (wpAny_onRaise ?_));change wpAny _ _ (Builtin.SmallTypes.nextOf (.ref i2) >>= _) _ _ _;refine au (ot (hV (hV (hV r2 sG dj.i2z) qY dj.i12.symm) M0 dj.TOi2.symm) (vi (vi (vi g2 sG dj.l2z) qY dj.l2i1) M0 dj.l2TO) ey fun m4 r24 V5=>wpAny_pure ?_);have gq4:IsPair m4 tq x b:=dO V5 dj.TOi2 gq3;refine au (iE gq4 rfl (au (wpAny_updateSeq_pair gq4 fun m5 YF V6=>?_)));replace YF:IsPair m5 tq x y:=YF;refine au (wpAny_letGo (wpAny_pure (wpAny_pure ?_)));refine au (iE YF rfl (au (uD ?_)));have sz:m5.objs.size=s.heap.objs.size:=by rw[V6.1,V5.1,M0.1,qY.1,sG.1]
 have gz5:IsZip m5 z ti tq .ellipsis:=dO V6 dj.TOz.symm (dO V5 dj.i2z.symm (dO M0 dj.TOz.symm (dO qY dj.i1z.symm MZ)));have kp5:∀c o,c≠z->c≠tq->c≠i1->c≠i2->s.heap.get? c=some o->m5.get? c=some o:=fun c o c1 c2 c3 c4 e=>
  dO V6 c2 (dO V5 c4 (dO M0 c2 (dO qY c3 (dO sG c1 e))))
 have r15:m5.IsTupleIter i1 t1 (k+1):=hV (hV (hV r12 M0 dj.TOi1.symm) V5 dj.i12) V6 dj.TOi1.symm;have r25:m5.IsTupleIter i2 t2 (k+1):=hV r24 V6 dj.TOi2.symm;have zl:z<m5.objs.size:=aS gz5;change wpAny _ _ (Builtin.SmallTypes.ownedTupleHandOut (.ref z) (.ref m5.objs.size) >>= _) _ _ _;refine au ?_;unfold Builtin.SmallTypes.ownedTupleHandOut;have gz6:IsZip (m5.push { cls:=.type "tuple",data:=.seq #[x,y] }) z ti tq .ellipsis:=bP _ gz5;refine au (qx gz6 (by simp) fun m7 gz7 sb7=>?_);replace gz7:IsZip m7 z ti tq (rawInt m5.objs.size):=gz7;refine qx gz7 (by simp) fun m8 YG sb8=>?_;replace YG:IsZip m8 z ti tq (rawInt m5.objs.size):=YG;have up:∀c o,c≠z->m5.get? c=some o->m8.get? c=some o:=fun c o c1 e=>dO sb8 c1 (dO sb7 c1 (bP _ e));have gp8:IsPair m8 m5.objs.size x y:=dO sb8 (gO zl) (dO sb7 (gO zl) (cX _ rfl));rw[sz] at YG gp8;refine wpAny_pure ⟨_,rfl,?_⟩;change Q (.ref m5.objs.size) _;rw[sz];exact q m8 YG (up _ _ dj.TOz YF) (r15.at fun o e=>up _ o dj.i1z e) (r25.at fun o e=>up _ o dj.i2z e) gp8 fun c o c1 c2 c3 c4 e=>up c o c1 (kp5 c o c1 c2 c3 c4 e)
theorem JS(hh:A.handled=none)(dj:ZipApart z ti tq i1 i2 t1 t2)(gz:IsZip s.heap z ti tq .none)(gi:IsPair s.heap ti (.ref i1) (.ref i2))(r1:s.heap.IsTupleIter i1 t1 k)(g1:s.heap.IsTuple t1 xs)(ex:xs[k]?=none)(q:∀h' e,(∀c o,c≠z->c≠i1->s.heap.get? c=some o->h'.get? c=some o)->(∃o,h'.get? e=some o/\o.cls=.type "StopIteration")->E (.ref e) { s with heap:=h' }):
  wpAny (model prog w) A (Builtin.«zip.__next__» ⟨[.ref z],[]⟩) Q E s:=by
 change wpAny _ _ (field (.ref z) 2 >>= _) _ _ _;refine au (gc gz rfl (x:=.bool false) rfl ?_);change wpAny _ _ (field (.ref z) 3 >>= _) _ _ _;refine au (gc gz rfl (x:=.ref ti) rfl (au (iE gi rfl ?_)));change wpAny _ _ (Builtin.SmallTypes.ownedTupleIsFree (.ref z) >>= _) _ _ _;refine au ?_;unfold Builtin.SmallTypes.ownedTupleIsFree;refine au (gc gz rfl (x:=.none) rfl (wpAny_pure ?_));simp only[jM];refine au (fv (au (gc gz rfl (x:=.ref tq) rfl ?_)));refine au (qx gz (by simp) fun m1 MZ sG=>?_);replace MZ:IsZip m1 z ti tq .ellipsis:=MZ;refine au ?_;simp only[B3,List.zipIdx_nil,qF,qH];refine au (au (wpAny_onRaise ?_));change wpAny _ _ (Builtin.SmallTypes.nextOf (.ref i1) >>= _) _ _ _;refine au (re hh (hV r1 sG dj.i1z) (vi g1 sG dj.l1z) ex fun m2 e qY he=>?_);obtain⟨oe,hoe,hce⟩:=he;have YH:IsZip m2 z ti tq .ellipsis:=qY _ _ dj.i1z.symm MZ;have nez:e≠z:=fun y=>by subst y;rw[YH] at hoe;cases hoe;simp at hce
 exact qx YH (by simp) fun m3 _ M0=>q m3 e (fun c o c1 c3 y=>dO M0 c1 (qY _ _ c3 (dO sG c1 y))) ⟨oe,dO M0 nez hoe,hce⟩
theorem Db(dj:ZipApart z ti tq i1 i2 t1 t2)(gz:IsZip s.heap z ti tq .none)(gi:IsPair s.heap ti (.ref i1) (.ref i2))(gq:IsPair s.heap tq a b)(r1:s.heap.IsTupleIter i1 t1 k)(r2:s.heap.IsTupleIter i2 t2 k)(g1:s.heap.IsTuple t1 xs)(g2:s.heap.IsTuple t2 ys)(ex:xs[k]?=some x)(ey:ys[k]?=some y)(q:∀h',IsZip h' z ti tq (rawInt s.heap.objs.size)->IsPair h' tq x y->h'.IsTupleIter i1 t1 (k+1)->h'.IsTupleIter i2 t2 (k+1)->IsPair h' s.heap.objs.size x y->(∀c o,c≠z->c≠tq->c≠i1->c≠i2->s.heap.get? c=some o->h'.get? c=some o)->Q (some (.ref s.heap.objs.size)) { s with heap:=h' }):
  wpAny (model prog w) A (pyNext (.ref z)) Q E s:=by
 have ty:s.TypeIs (.ref z) "zip":=⟨_,gz,rfl⟩
 unfold pyNext;refine au (kU (oY (name:=Str.ofString "__next__") ty F.slot_zip_next (lM F.slot_zip_next ty F.entry_zip_next ?_ (F.args_zip_next_1 _))));exact GW dj gz gi gq r1 r2 g1 g2 ex ey fun h' a1 a2 a3 a4 a5 a6=>wpAny_pure (q h' a1 a2 a3 a4 a5 a6)
theorem Dc(hh:A.handled=none)(dj:ZipApart z ti tq i1 i2 t1 t2)(gz:IsZip s.heap z ti tq .none)(gi:IsPair s.heap ti (.ref i1) (.ref i2))(r1:s.heap.IsTupleIter i1 t1 k)(g1:s.heap.IsTuple t1 xs)(ex:xs[k]?=none)(q:∀h',(∀c o,c≠z->c≠i1->s.heap.get? c=some o->h'.get? c=some o)->Q none { s with heap:=h' }):wpAny (model prog w) A (pyNext (.ref z)) Q E s:=by
 have ty:s.TypeIs (.ref z) "zip":=⟨_,gz,rfl⟩
 unfold pyNext;refine au (kU (oY (name:=Str.ofString "__next__") ty F.slot_zip_next (lM F.slot_zip_next ty F.entry_zip_next (JS hh dj gz gi r1 g1 ex fun h' e hk he=>?_) (F.args_zip_next_1 _))));obtain⟨o,ho,hc⟩:=he;exact au (Ce (T:="StopIteration") (b:=true) ⟨o,ho,hc⟩ isSubtype_stop (wpAny_pure (q _ hk)))
abbrev zT(t:Addr):Obj:={ cls:=.type "tuple_iterator",data:=.fields #[.ref t,.int 0 0] }
abbrev YI(h:Heap)(t1 t2:Addr):Heap:=((h.push (zT t1)).push (zT t2)).push { cls:=.type "tuple",data:=.seq #[.ref h.objs.size,.ref (h.push (zT t1)).objs.size] }
abbrev YJ(h:Heap)(t1 t2:Addr):Heap:=(YI h t1 t2).push { cls:=.type "tuple",data:=.seq #[.none,.none] }
abbrev Um(h:Heap)(t1 t2:Addr):Heap:=(YJ h t1 t2).push { cls:=.type "zip",data:=.fields #[.none,.bool false,.bool false,.ref ((h.push (zT t1)).push (zT t2)).objs.size,.ref (YI h t1 t2).objs.size] }
theorem JT(t1 t2:Addr)(xs ys:bD):
  Meets (Builtin.«zip.__new__» ⟨[.type "zip",.ref t1,.ref t2],[]⟩) (fun _ R s=>s.heap.IsTuple t1 xs/\s.heap.IsTuple t2 ys/\R (.ok (.ret (.ref (YJ s.heap t1 t2).objs.size))) { s with heap:=Um s.heap t1 t2 }):=
 .of_wp fun prog w A R s h=>by
  obtain⟨hp,g,d,tk,os⟩:=s;obtain⟨g1,g2,h⟩:=h;have acj:=sub_zip;have gA:Heap.IsTuple (Shared.heap ⟨hp,g,d,tk,os⟩) t1 xs:=g1;have gB:Heap.IsTuple (Shared.heap ⟨hp.push (zT t1),g,d,tk,os⟩) t2 ys:=let ⟨o,e,z⟩:=g2;⟨o,bP _ e,z⟩
  wp_walk using ut gA,ut gB
  exact⟨_,rfl,h⟩
theorem GX(g1:s.heap.IsTuple t1 xs)(g2:s.heap.IsTuple t2 ys)(q:∀h',IsZip h' (s.heap.objs.size+4) (s.heap.objs.size+2) (s.heap.objs.size+3) .none->IsPair h' (s.heap.objs.size+2) (.ref s.heap.objs.size) (.ref (s.heap.objs.size+1))->IsPair h' (s.heap.objs.size+3) .none .none->
   h'.IsTupleIter s.heap.objs.size t1 0->h'.IsTupleIter (s.heap.objs.size+1) t2 0->(∀c o,s.heap.get? c=some o->h'.get? c=some o)->Q (.ref (s.heap.objs.size+4)) { s with heap:=h' }):
  wpAny (model prog w) A (call (.type "zip") [.ref t1,.ref t2]) Q E s:=by
 refine callType_new F.called_zip (by decide) (F.typeCall_zip_2 _ _) (F.newCall_zip_2 _ _) (fun obj=>F.args_object_init_3 obj _ _) F.entry_zip_new (JT t1 t2 xs ys) ⟨g1,g2,?_⟩;have n1:(s.heap.push (zT t1)).objs.size=s.heap.objs.size+1:=jb ..;have n2:((s.heap.push (zT t1)).push (zT t2)).objs.size=s.heap.objs.size+2:=by rw[jb,n1]
 have n3:(YI s.heap t1 t2).objs.size=s.heap.objs.size+3:=by rw[jb,n2]
 have n4:(YJ s.heap t1 t2).objs.size=s.heap.objs.size+4:=by rw[jb,n3]
 have e5:(Um s.heap t1 t2).get? (YJ s.heap t1 t2).objs.size=some _:=cX _ rfl;have e4:(Um s.heap t1 t2).get? (YI s.heap t1 t2).objs.size=some _:=bP _ (cX _ rfl);have e3:(Um s.heap t1 t2).get? ((s.heap.push (zT t1)).push (zT t2)).objs.size=some _:=bP _ (bP _ (cX _ rfl));have e2:(Um s.heap t1 t2).get? (s.heap.push (zT t1)).objs.size=some _:=bP _ (bP _ (bP _ (cX _ rfl)));have e1:(Um s.heap t1 t2).get? s.heap.objs.size=some _:=bP _ (bP _ (bP _ (bP _ (cX _ rfl))));change _/\_;rw[n2,n3,n4] at e5;rw[n1,n2] at e3;rw[n3] at e4;rw[n1] at e2;rw[n4];exact⟨⟨_,e5,rfl⟩,q _ e5 e3 e4 ⟨_,e1,rfl,rfl⟩ ⟨_,e2,rfl,rfl⟩ fun c o y=>
  bP _ (bP _ (bP _ (bP _ (bP _ y))))⟩
end
theorem aU.M1{X:Cx}{af:cE}{σ:St}{H:Hp}{s:aR}{h':Heap}{t':Nat}{ch:bR}(I:aU X af σ H s)(fe:∀e∈ch,hZ X af H e)(k:∀b o,b∉ch->s.heap.get? b=some o->h'.get? b=some o):aU X af σ H { s with heap:=h',toks:=t' }:=by
 have OY:∀b u,H b=some u->b∉ch:=fun b u e z=>by rw[(fe b z).1] at e;cases e
 refine I.step (g':=s.gens) (d':=s.drawn) (ch:=ch) (fun b hb=>?_) (fun b o _ _ hc e _=>k b o hc e) (fun b o _ _ hc e _=>⟨o.slots,k b o hc e⟩) (fun _ _ _ _ n=>n) (fun b o hc e=>⟨o,k b o hc e⟩) (fun _ _ e=>e) (fun _ _ _ e=>e) (fun b ps e=>⟨#[],by rw[e];simp⟩) (fun m hm=>?_) (fun b u e=>?_) I.bare
 .obtain⟨_,f1,_,f3,f4,f5⟩:=fe b hb;exact⟨f3,f1,f4,f5⟩
 .obtain⟨o,es,ep,ho,r⟩:=hm;exact⟨o,es,ep,k _ o (fun z=>(fe _ z).2.1 rfl) ho,r⟩
 .refine(I.cY b u e).jO (fun c v hc q=>k c v ?_ q) (fun _ q=>q) fun _ _ q=>q;rcases hc with z|z
  .rw[z];exact OY b u e
  .exact OY c _ z
theorem aU.M2{X:Cx}{af:cE}{σ:St}{H:Hp}{s:aR}{h':Heap}{p:Addr}{t':Nat}{ch:bR}{xs:bg}{its:bw}(I:aU X af σ H s)(fe:∀e∈ch,hZ X af H e)(k:∀b o,b∉ch->s.heap.get? b=some o->h'.get? b=some o)(hp:s.heap.objs.size<=p)(hl:xs.length<=sizeLine)(r:ba xs its)(ht:h'.get? p=some { cls:=.type "tuple",data:=.seq its.toArray }):aU X af σ (upd H p (.tup xs)) { s with heap:=h',toks:=t' }:=by
 have hn:=I.cY.fresh hp;have ne:∀b o,s.heap.get? b=some o->b≠p:=fun b o q=>bf (bv (aS q) hp);have OY:∀b u,H b=some u->b∉ch:=fun b u e z=>by rw[(fe b z).1] at e;cases e
 refine I.step (g':=s.gens) (d':=s.drawn) (ch:=ch) (fun b hb=>?_) (fun b o _ _ hb q _=>k b o hb q) (fun b o _ _ hb q _=>⟨o.slots,k b o hb q⟩) (fun b o hb q n=>by rw[aq (ne b o q)];exact n) (fun b o hb q=>⟨o,k b o hb q⟩)
  (fun b ys q=>by rw[aq (am q hn)];exact q) (fun b o u q=>by rw[aq (am q hn)];exact q) (fun b ps q=>⟨#[],by rw[aq (am q hn),q];simp⟩) (fun m hm=>?_) (fun b o q=>?_) I.bare
 .obtain⟨_,f1,_,f3,f4,f5⟩:=fe b hb;exact⟨f3,f1,f4,f5⟩
 .obtain⟨o,es,ep,q,d,r'⟩:=hm;exact⟨o,es,ep,k _ _ (fun z=>(fe _ z).2.1 rfl) q,d,r'⟩
 .by_cases hb:b=p
  .subst hb;rw[ae] at q;cases q;exact⟨hl,its,r,_,ht,rfl,_,rfl,rfl⟩
  .rw[aq hb] at q;refine(I.cY b o q).jO (fun c u hc z=>k c u ?_ z) (fun c z=>by rw[aq (am z hn)];exact z) fun c ys z=>by rw[aq (am z hn)];exact z
   rcases hc with rfl|hc
   .exact OY _ _ q
   .exact OY _ _ hc
def Itz(K:a_)(a b:Addr):It:=
 ⟨fun i H=>∃xs ys x y,cu K H a xs/\cu K H b ys/\xs[i]?=some x/\ys[i]?=some y,fun i H v H'=>∃p x y,v=.ref p/\H p=none/\H'=upd H p (.tup [x,y])/\(∀xs,cu K H a xs->xs[i]?=some x)/\∀ys,cu K H b ys->ys[i]?=some y,fun i H=>∃xs,cu K H a xs/\xs.length<=i⟩
theorem JU{P:bL}{w:World}{K:a_}{es:gZ}{x1:Nat}{pos:Pos}(a b z ti tq i1 i2:Addr)(dj:ZipApart z ti tq i1 i2 a b):
  zJ P w K (.Tuple es x1 pos) (Itz K a b) [z,ti,tq,i1,i2] z (fun i h=>IsZip h z ti tq .none/\IsPair h ti (.ref i1) (.ref i2)/\(∃u v,IsPair h tq u v)/\h.IsTupleIter i1 a i/\h.IsTupleIter i2 b i) where
 mem:=by simp
 obj:=fun i h st c hc=>by
  obtain⟨gz,gi,⟨u,v,gq⟩,⟨o1,q1,c1,d1⟩,⟨o2,q2,c2,d2⟩⟩:=st;simp only[bq,jF,jL] at hc;rcases hc with rfl|rfl|rfl|rfl|rfl
  .exact⟨_,gz,fun v z=>by have z':Data.fields _=Data.cell v:=z;cases z'⟩
  .exact⟨_,gi,fun v z=>by have z':Data.seq _ _=Data.cell v:=z;cases z'⟩
  .exact⟨_,gq,fun v z=>by have z':Data.seq _ _=Data.cell v:=z;cases z'⟩
  .exact⟨o1,q1,fun v z=>by rw[d1] at z;cases z⟩
  .exact⟨o2,q2,fun v z=>by rw[d2] at z;cases z⟩
 keep:=fun i h h' st k=>by
  obtain⟨gz,gi,⟨u,v,gq⟩,r1,r2⟩:=st;exact⟨k z (by simp) _ gz,k ti (by simp) _ gi,⟨u,v,k tq (by simp) _ gq⟩,r1.at fun o q=>k i1 (by simp) o q,r2.at fun o q=>k i2 (by simp) o q⟩
 item:=by
  intro X hP hw hK hc i af s σ H E I hf st hg;subst hP hw hK;obtain⟨xs,ys,x,y,hx,hy,ex,ey⟩:=hg;obtain⟨us,rx,px,_⟩:=I.tuple hx;obtain⟨vs,ry,py,_⟩:=I.tuple hy;obtain⟨u,hu,ru⟩:=rx.get ex;obtain⟨v,hv,rv⟩:=ry.get ey;obtain⟨gz,gi,⟨u0,v0,gq⟩,r1,r2⟩:=st;refine Db dj gz gi gq r1 r2 (show s.heap.IsTuple a us.toArray from px) (show s.heap.IsTuple b vs.toArray from py) (x:=u) (y:=v) (by simpa using hu) (by simpa using hv) fun h1 MZ gq1 r11 r21 gp1 kp=>?_;refine⟨_,rfl,wpAny_letOwnedTupleGo_zip MZ fun h2 YH qY=>?_⟩;have zl:z<s.heap.objs.size:=aS gz;have nz:s.heap.objs.size≠z:=gO zl;have kp2:∀c o,c∉[z,tq,i1,i2]->s.heap.get? c=some o->h2.get? c=some o:=fun c o hc e=>by
   simp only[bq,jF,jL,not_or] at hc;exact dO qY hc.1 (kp c o hc.1 hc.2.1 hc.2.2.1 hc.2.2.2 e)
  have gi2:IsPair h2 ti (.ref i1) (.ref i2):=kp2 _ _ (by simp only[bq,jF,jL,not_or];exact⟨dj.TIz,dj.TITO,dj.TIi1,dj.TIi2⟩) gi;have fe:∀e∈[z,tq,i1,i2],hZ X af H e:=fun e he=>hf e (by simp only[bq,jF,jL] at he |-;rcases he with h|h|h|h <;> simp[h]);have I2:aU X af σ (upd H s.heap.objs.size (.tup [x,y])) { s with heap:=h2,toks:=s.toks }:=
   I.M2 (its:=[u,v]) fe kp2 (aP _) (by show 2<=sizeLine;decide) (.cons ru (.cons rv .nil)) (dO qY nz gp1)
  refine⟨.ref s.heap.objs.size,_,I2,rfl,⟨_,x,y,rfl,I.cY.fresh (aP _),rfl,fun zs hz=>by rw[I.ij hz hx];exact ex,fun zs hz=>by rw[I.ij hz hy];exact ey⟩,⟨YH,gi2,⟨u,v,dO qY dj.TOz gq1⟩,hV r11 qY dj.i1z,hV r21 qY dj.i2z⟩,fun c hc=>?_⟩;have f0:=(hf c hc).1;have cl:c<s.heap.objs.size:=by
   simp only[bq,jF,jL] at hc;rcases hc with rfl|rfl|rfl|rfl|rfl
   .exact zl
   .exact aS gi
   .exact aS gq
   .obtain⟨o,q,_⟩:=r1;exact aS q
   .obtain⟨o,q,_⟩:=r2;exact aS q
  rw[aq (bf cl)];exact f0
 done:=by
  intro X hP hw hK hc i af s σ H E I hf st hg;subst hP hw hK;obtain⟨xs,hx,hi⟩:=hg;obtain⟨us,rx,px,_⟩:=I.tuple hx;obtain⟨gz,gi,⟨u0,v0,gq⟩,r1,r2⟩:=st;have hl:=rx.length;refine Dc (I.ok.hd hc) dj gz gi r1 (show s.heap.IsTuple a us.toArray from px) (by simp;lia) fun h' kp=>⟨rfl,?_⟩
  have fe:∀e∈[z,i1],hZ X af H e:=fun e he=>hf e (by simp only[bq,jF,jL] at he |-;rcases he with h|h <;> simp[h]);refine I.M1 (t':=s.toks) fe fun c o hc e=>?_;simp only[bq,jF,jL,not_or] at hc;exact kp c o hc.1 hc.2 e
 self:=fun _ _ _ _ _ st h=>Cd st.1 h
section
variable {X:Cx}
def V7(K:a_)(ta:TA):TI:=fun σ H R=>ta σ H fun vs H1=>∃a b xs ys,vs=[.ref a,.ref b]/\cu K H1 a xs/\cu K H1 b ys/\xs.length=ys.length/\R (Itz K a b) H1
theorem M3{es:gZ}{x1:Nat}{Mr:Pos}{a b:Expr}{ta:TA}{p pos:Pos}(hg:Gl X "zip")(hm:X.mg "zip"=none)(ha:PA X [a,b] ta)(hs:starEach [a,b] X.env=[(false,eval a X.env),(false,eval b X.env)]:=by rfl)(oP:starEach [b] X.env=[(false,eval b X.env)]:=by rfl):
  PI X (.Tuple es x1 Mr) (.Call (.Name "zip" p) [a,b] [] pos) (V7 X.K ta):=by
 intro af s σ H R I h;refine Call_ (jP I hg hm PyProof.Rows.boot_zip (qf (eD (ha pos af s σ H _ I h) fun us s1 ⟨vs,H1,I1,r1,q1⟩=>?_) (by rw[hs,oP]) (by rw[oP];rfl)));obtain⟨l,m,xs,ys,rfl,hl,hm',wO,q⟩:=q1;obtain⟨u1,u2,rfl,VZ,ru2⟩:=r1.two;obtain rfl:u1=Value.ref l:=VZ;obtain rfl:u2=Value.ref m:=ru2;obtain⟨its,rv,pt,_⟩:=I1.tuple hl;obtain⟨k9,rv2,Em,_⟩:=I1.tuple hm';have eX:l<s1.heap.objs.size:=by obtain⟨o,e,_⟩:=pt;exact aS e
 have JV:m<s1.heap.objs.size:=by obtain⟨o,e,_⟩:=Em;exact aS e
 refine GX (show s1.heap.IsTuple l its.toArray from pt) (show s1.heap.IsTuple m k9.toArray from Em) fun h' gz gi gq r1 r2 k=>?_;refine Cd gz ?_;have I2:aU X af σ H1 { s1 with heap:=h' }:=I1.kept (t':=s1.toks) k;refine⟨s1.heap.objs.size+4,[s1.heap.objs.size+4,s1.heap.objs.size+2,s1.heap.objs.size+3,s1.heap.objs.size,s1.heap.objs.size+1],_,_,H1,rfl,I2,JU l m _ _ _ _ _ (zipApart_new eX JV),⟨gz,gi,⟨_,_,gq⟩,r1,r2⟩,fun b hb=>?_,q⟩;have vW:s1.heap.objs.size<=b:=by
  simp only[bq,jF,jL] at hb;rcases hb with rfl|rfl|rfl|rfl|rfl
  .exact xz _ _
  .exact xz _ _
  .exact xz _ _
  .exact aP _
  .exact xz _ _
 exact I1.zI vW (I1.cY.fresh vW)
theorem JW{K:a_}{a b D:Addr}{xs ys:bg}{g:TG}{tt:TT}{te:TE}{d_:rL}{σB:St}{H0:Hp}(wO:xs.length=ys.length)(Pv:zE)(h0:Pv 0 [] σB H0)(hl:∀i zs σ H,i<=xs.length->Pv i zs σ H->cu K H a xs/\cu K H b ys)(hs:∀i x y p zs σ H (Kt:j9) (Kf:ir),xs[i]?=some x->ys[i]?=some y->Pv i zs σ H->H p=none->
   (∀v σ2 H4,H4 D=some (.lst zs)->zs.length<sizeLine->Pv (i+1) (zs++[v]) σ2 (upd H4 D (.lst (zs++[v])))->Kt v σ2 H4)->(∀σ2 H3,Pv (i+1) zs σ2 H3->Kf σ2 H3)->
   g (.ref p) σ (upd H p (.tup [x,y])) fun σ2 H2=>tt σ2 H2 fun b H3=>if b=true then te σ2 H3 fun v H4=>Kt v σ2 H4 else Kf σ2 H3)(hd:∀zs σ H,Pv xs.length zs σ H->d_ H):ix (Itz K a b) g tt te D d_ σB H0:=by
 refine⟨fun i m σ H=>m=xs.length-i/\i<=xs.length/\∃zs,Pv i zs σ H,⟨xs.length,by simp,cp _,[],h0⟩,?_⟩;rintro i m σ H ⟨rfl,hi,zs,p⟩;obtain⟨q1,q2⟩:=hl i zs σ H hi p;by_cases eX:i<xs.length
 .have JV:i<ys.length:=by lia
  refine .inr ⟨⟨xs,ys,xs[i],ys[i],q1,q2,by simp[eX],by simp[JV]⟩,?_⟩;rintro v H' ⟨pp,x,y,rfl,hn,rfl,QS,hv2⟩;exact hs i x y pp zs σ _ (fun v σ2 H4=>∃zs,H4 D=some (.lst zs)/\zs.length<sizeLine/\∃m',m'<xs.length-i/\m'=xs.length-(i+1)/\i+1<=xs.length/\∃jx,Pv (i+1) jx σ2 (upd H4 D (.lst (zs++[v]))))
   (fun σ2 H3=>∃m',m'<xs.length-i/\m'=xs.length-(i+1)/\i+1<=xs.length/\∃jx,Pv (i+1) jx σ2 H3) (QS xs q1) (hv2 ys q2) p hn
   (fun v σ2 H4 z1 z2 z3=>⟨zs,z1,z2,_,by lia,rfl,eX,_,z3⟩) (fun σ2 H3 z=>⟨_,by lia,rfl,eX,_,z⟩)
 .have e:i=xs.length:=by lia
  subst e;exact .inl ⟨⟨xs,q1,aP _⟩,hd zs σ H p⟩
theorem Dd(rx:ba xs us)(ry:ba ys vs)(fx:xs.all g7=true)(fy:ys.all g7=true):
  ∀j (h1:j<us.toArray.size) (h2:j<vs.toArray.size),SeqAt.EqAt A s us.toArray[j] vs.toArray[j] (uT (xs.getD j .cI) (ys.getD j .cI)):=by
 intro j h1 h2;have j1:j<xs.length:=by rw[rx.length];simpa using h1
 have j2:j<ys.length:=by rw[ry.length];simpa using h2
 have e1:xs[j]?=some (xs.getD j .cI):=by rw[cw,cz j1];rfl
 have e2:ys[j]?=some (ys.getD j .cI):=by rw[cw,cz j2];rfl
 obtain⟨u,VJ,ru⟩:=rx.get e1;obtain⟨v,QS,rv⟩:=ry.get e2;have eu:us.toArray[j]=u:=by
  have:us[j]?=some us.toArray[j]:=by simp at h1 |-
  rw[VJ] at this;exact(cB this).symm
 have ev:vs.toArray[j]=v:=by
  have:vs[j]?=some vs.toArray[j]:=by simp at h2 |-
  rw[QS] at this;exact(cB this).symm
 rw[eu,ev];exact xV ru rv (kM.mp fx _ (dz e1)) (kM.mp fy _ (dz e2))
theorem JX(I:aU X af σ H s)(hu:A.units+1<cLine)(ha:cu X.K H a xs)(hb:cu X.K H b ys)(hl:xs.length=ys.length)(fx:xs.all g7=true)(fy:ys.all g7=true):
  SeqAt.EqAt A s (.ref a) (.ref b) (ju uT xs ys):=by
 by_cases rS:a=b
 .subst rS;have e1:=I.ij ha hb;subst e1;have e2:ju uT xs xs=true:=by
   clear ha hb hl fy;induction xs with
   |nil=>rfl
   |cons x xs ih=>
    rw[lU,gm] at fx;rw[ju,ih fx.2,Bool.and_true];cases x <;> first|rfl|(show (_==_)=true;simp)|exact absurd (show false=true from fx.1) di
  rw[e2];exact SeqAt.EqAt.same _
 .obtain⟨us,r1,p1,_⟩:=I.tuple ha;obtain⟨vs,r2,p2,_⟩:=I.tuple hb;have h:=SeqAt.RcAt.tuples (A:=A) (s:=s) (l:=a) (b:=b) (e:=fun i=>uT (xs.getD i .cI) (ys.getD i .cI)) (show s.heap.IsTuple a us.toArray from p1) (show s.heap.IsTuple b vs.toArray from p2) (by lia)
   (Dd r1 r2 fx fy)
  refine SeqAt.EqAt.of_refs rS ?_;have er:((List.range (min us.toArray.size vs.toArray.size)).all (fun i=>uT (xs.getD i .cI) (ys.getD i .cI))&&us.toArray.size==vs.toArray.size)=ju uT xs ys:=by
   rw[ce,ce,<-r1.length,<-r2.length,<-hl,uH,beq_self_eq_true,Bool.and_true,me hl]
  rw[er] at h;exact h
theorem De{p q:lF}:ju uT [.int p.1,.int p.2] [.int q.1,.int q.2]=decide (p=q):=by
 obtain⟨a,b⟩:=p;obtain⟨c,d⟩:=q;show ((a==c)&&((b==d)&&true))=decide ((a,b)=(c,d));by_cases h1:a=c <;> by_cases h2:b=d <;> simp[h1,h2]
def Rb(K:a_)(Qz:Bool):R2:=fun x y H Q=>∃ (p l:Addr) (u:lF) (as:bR) (ps:oW),x=.ref p/\y=.ref l/\cu K H p [.int u.1,.int u.2]/\a8 K H l (as.map V.ref)/\as.length=ps.length/\(∀i,i<ps.length->cu K H (as.getD i 0) [.int (ps.getD i (0,0)).1,.int (ps.getD i (0,0)).2])/\
 Q (.bl (if Qz then !decide (u∈ps) else decide (u∈ps))) H
open Classical in
theorem EV(I:aU X af σ H s):∀ {as:bR} {ps:oW},as.length=ps.length->(∀i,i<ps.length->cu X.K H (as.getD i 0) [.int (ps.getD i (0,0)).1,.int (ps.getD i (0,0)).2])->
  ((as.map Value.ref).any fun v=>decide (∃a,v=Value.ref a/\cu X.K H a [.int u.1,.int u.2]))=decide (u∈ps)
 |[],[],_,_=>by simp
 |a::as,p::ps,hl,h=>by
  have ih:=EV I (u:=u) (as:=as) (ps:=ps) (by simpa using hl) (fun i hi=>h (i+1) (by simpa using hi));have h0:cu X.K H a [.int p.1,.int p.2]:=h 0 (by simp);rw[gJ,lT,ih];have e:decide (∃b,Value.ref a=Value.ref b/\cu X.K H b [.int u.1,.int u.2])=decide (u=p):=by
   rw[kP,nN,nN];constructor
   .rintro⟨b,e,hb⟩;cases e;have:=I.ij h0 hb;have e1:p.1=u.1:=V.int.inj (n0 this).1;have e2:p.2=u.2:=V.int.inj (n0 (n0 this).2).1;exact iG e1.symm e2.symm
   .rintro rfl;exact⟨a,rfl,h0⟩
  rw[e];by_cases z:u=p
  .simp[z]
  .simp[z]
open Classical in
theorem JY{af:cE}{σ:St}{H:Hp}{s:aR}{A:br}(I:aU X af σ H s)(hu:A.units+1<cLine){p:Addr}{u:lF}(hp:cu X.K H p [.int u.1,.int u.2]){as:bR}{ps:oW}(hl:as.length=ps.length)(h:∀i,i<ps.length->cu X.K H (as.getD i 0) [.int (ps.getD i (0,0)).1,.int (ps.getD i (0,0)).2]):∀v∈as.map Value.ref,SeqAt.EqAt A s v (.ref p) (decide (∃a,v=Value.ref a/\cu X.K H a [.int u.1,.int u.2])):=by
 intro v hv;obtain⟨a,ha,rfl⟩:=bB.mp hv;obtain⟨i,hi,e⟩:=nK.mp ha;have hq:=h i (by lia);have ea:as.getD i 0=a:=by rw[cw,cz hi];exact e
 rw[ea] at hq;have z:=JX (A:=A) I hu hq hp rfl rfl rfl;rw[De] at z;have e:decide (∃b,Value.ref a=Value.ref b/\cu X.K H b [.int u.1,.int u.2])=decide (ps.getD i (0,0)=u):=by
  rw[kP,nN,nN];constructor
  .rintro⟨b,e,hb⟩;cases e;have:=I.ij hq hb;exact iG (V.int.inj (n0 this).1) (V.int.inj (n0 (n0 this).2).1)
  .intro e;rw[<-e];exact⟨a,rfl,hq⟩
 rw[e];exact z
open Classical in
theorem mP(hu:X.A.units+2<cLine):nh X (compareOp .NotIn) (Rb X.K true):=by
 intro af s σ H x y v u Q I rx ry h;obtain⟨p,l,w,as,ps,rfl,rfl,hp,hl,e8,hps,q⟩:=h;obtain rfl:v=Value.ref p:=rx;obtain rfl:u=Value.ref l:=ry;obtain⟨its,r,pl,_⟩:=I.list hl;have e:=pL r;subst e;refine SeqAt.notIn_listAt (fun v=>decide (∃a,v=Value.ref a/\cu X.K H a [.int w.1,.int w.2])) pl.isList (fun y hy=>JY I (by show X.A.units+1+1<cLine;lia) hp e8 hps y (by simpa using hy)) ⟨.bl _,H,I,rfl,?_⟩;rw[show (as.map Value.ref).toArray.any (fun v=>decide (∃a,v=Value.ref a/\cu X.K H a [.int w.1,.int w.2]))=(as.map Value.ref).any (fun v=>decide (∃a,v=Value.ref a/\cu X.K H a [.int w.1,.int w.2])) by simp,EV I e8 hps];exact q
end
end L2
namespace lj
abbrev Ts:=List (Int×Int)
def T(ts:Ts)(a b:Nat):Prop:=(((a:Nat):Int),((b:Nat):Int))∈ts
instance (ts:Ts) (a b:Nat):Decidable (T ts a b):=inferInstanceAs (Decidable (_∈_))
def fU(ts:Ts):Nat->Nat->Nat->Prop
 |0,a,b=>a=b
 |k+1,a,b=>∃c,fU ts k a c/\T ts c b
theorem fU.trans(h:fU ts k a b):∀ {l:Nat} {c:Nat},fU ts l b c->fU ts (k+l) a c
 |0,_,e=>by cases e;exact h
 |l+1,_,⟨d,w,t⟩=>⟨d,h.trans w,t⟩
theorem fU.one(h:T ts a b):fU ts 1 a b:=⟨a,rfl,h⟩
theorem fU.cons(h:T ts a b)(w:fU ts k b c):fU ts (k+1) a c:=by
 have:=(fU.one h).trans w;rwa [Nat.add_comm] at this
def wU(ts:Ts)(a b d:Nat):Prop:=fU ts d a b/\∀k,fU ts k a b->d<=k
theorem wU.uniq(h:wU ts a b d)(g:wU ts a b e):d=e:=Nat.le_antisymm (h.2 _ g.1) (g.2 _ h.1)
open Classical in
noncomputable def far(ts:Ts)(a b:Nat):Nat:=if h:∃d,wU ts a b d then h.choose else 0
theorem Rc(h:wU ts a b d):far ts a b=d:=by
 unfold far;have hx:∃d,wU ts a b d:=⟨d,h⟩
 rw[dif_pos hx];exact hx.choose_spec.uniq h
structure cJ(n:Nat)(ts:Ts):Prop where
 n1:2<=n
 n2:n<=32
 nd:ts.Nodup
 rg:∀t∈ts,(0<=t.1/\t.1<n)/\(0<=t.2/\t.2<n)
 ne:∀t∈ts,t.1≠t.2
 GY:∀h:Int,(ts.filter fun t=>decide (t.1=h)).length=(ts.filter fun t=>decide (t.2=h)).length
 most:∀h:Int,(ts.filter fun t=>decide (t.1=h)).length<=8
 con:∀a b,a<n->b<n->∃k,fU ts k a b
theorem GZ(f:α->Int):∀ (l:List α) (n:Nat),(∀x∈l,0<=f x/\f x<n)->(∀h:Int,(l.filter fun t=>decide (f t=h)).length<=8)->l.length<=8*n:=by
 intro l n;induction n generalizing l with
 |zero=>
  intro h _;cases l with
  |nil=>simp
  |cons x xs=>have:=h x cK;lia
 |succ n ih=>
  intro h h8;have e:l.length=(l.filter fun t=>decide (f t=(n:Int))).length+(l.filter fun t=>!decide (f t=(n:Int))).length:=by
   induction l with
   |nil=>rfl
   |cons x xs ih2=>
    have:=ih2 (fun y hy=>h y (dq _ hy)) (fun hh=>aZ (by rw[eU];split <;> simp) (h8 hh));by_cases q:f x=(n:Int) <;> simp[eU,q] <;> lia
  have i2:=ih (l.filter fun t=>!decide (f t=(n:Int))) (fun x hx=>by
   have a:=h x (gb.mp hx |>.1);have b:=(gb.mp hx).2;simp at b;lia) (fun hh=>by
   refine aZ ?_ (h8 hh);exact(BO.filter _).length_le)
  have:=h8 (n:Int);lia
theorem cJ.len(F:cJ n ts):ts.length<=256:=by
 have:=GZ (·.1) ts n (fun t ht=>(F.rg t ht).1) F.most;have:=F.n2;lia
theorem cJ.tlt(F:cJ n ts)(h:T ts a b):a<n/\b<n/\a≠b:=by
 have q:=F.rg _ h;have q2:=F.ne _ h;refine⟨by have:=q.1;simp at this;lia,by have:=q.2;simp at this;lia,fun e=>q2 (by rw[e])⟩
def bX(n:Nat)(ts:Ts)(h:Nat):List Nat:=((List.range n).map fun s=>(h+s) % n).filter fun o=>decide (T ts h o)
theorem jh(F:cJ n ts)(hh:h<n):o∈bX n ts h↔T ts h o:=by
 unfold bX;rw[gb,uk];refine⟨fun z=>z.2,fun z=>⟨?_,z⟩⟩;obtain⟨_,h2,_⟩:=F.tlt z;refine bB.mpr ⟨if h<=o then o-h else o+n-h,bY.mpr (by split <;> lia),?_⟩;split
 .rw[show h+(o-h)=o by lia,jE h2]
 .rw[show h+(o+n-h)=o+n by lia,Nat.add_mod_right,jE h2]
theorem tR(F:cJ n ts)(hh:h<n)(ho:o∈bX n ts h):o<n:=(F.tlt ((jh F hh).mp ho)).2.1
def key(n h o:Nat):Int:=((o:Int)-(h:Int)) % (n:Int)
theorem rc(hh:h<n)(hs:s<n):key n h ((h+s) % n)=(s:Int):=by
 unfold key;by_cases c:h+s<n
 .rw[jE c,show (((h+s:Nat):Int)-(h:Int))=(s:Int) by lia];exact Int.emod_eq_of_lt (by lia) (by lia)
 .have e:(h+s) % n=h+s-n:=by
   rw[Nat.mod_eq_sub_mod (by lia),jE (by lia)]
  rw[e,show ((((h+s-n:Nat)):Int)-(h:Int))=(s:Int)-(n:Int) by lia,Int.sub_emod_right];exact Int.emod_eq_of_lt (by lia) (by lia)
theorem rT(hh:h<n):(bX n ts h).Pairwise fun a b=>key n h a<key n h b:=by
 unfold bX;refine BK _ ?_;refine gk.mpr ?_;refine List.Pairwise.imp_of_mem ?_ (List.pairwise_lt_range (n:=n));intro a b ha hb rS;rw[rc hh (bY.mp ha),rc hh (bY.mp hb)];lia
theorem rV{α:Type}{k:α->Int}:∀ {a b:List α},a.Pairwise (fun x y=>k x<k y)->b.Pairwise (fun x y=>k x<k y)->(∀x,x∈a↔x∈b)->a=b
 |[],[],_,_,_=>rfl
 |[],y::ys,_,_,h=>absurd ((h y).mpr cK) (by simp)
 |x::xs,[],_,_,h=>absurd ((h x).mp cK) (by simp)
 |x::xs,y::ys,ha,hb,h=>by
  obtain⟨a1,a2⟩:=xv.mp ha;obtain⟨b1,b2⟩:=xv.mp hb;have e:x=y:=by
   rcases bq.mp ((h x).mp cK) with z|z
   .exact z
   .rcases bq.mp ((h y).mpr cK) with z'|z'
    .exact z'.symm
    .have q1:=b1 x z;have q2:=a1 y z';lia
  subst e;refine congrArg (x::·) (rV a2 b2 fun z=>⟨fun hz=>?_,fun hz=>?_⟩)
  .rcases bq.mp ((h z).mp (dq _ hz)) with q|q
   .subst q;exact absurd (a1 _ hz) (by lia)
   .exact q
  .rcases bq.mp ((h z).mpr (dq _ hz)) with q|q
   .subst q;exact absurd (b1 _ hz) (by lia)
   .exact q
structure Bm(n:Nat)(ts:Ts)(s i:Nat)(R:aQ)(f:t8):Prop where
 nd:R.Nodup
 lt:∀x∈R,x<n
 st:s∈R
 z:f s=0
 wk:∀x∈R,fU ts (f x) s x
 up:R.Pairwise fun a b=>f a<=f b
 bd:∀u,R[i]?=some u->∀x∈R,f x<=f u+1
 cl:∀j u,j<i->R[j]?=some u->∀v,T ts u v->v∈R/\f v<=f u+1
theorem Bm.start(hs:s<n):Bm n ts s 0 [s] (fun _=>0):=
 ⟨by simp,fun x hx=>by simp at hx;lia,by simp,rfl,fun x hx=>by simp at hx;subst hx;rfl,by simp,fun u _ x _=>by lia,fun j u h=>absurd h (by lia)⟩
def put(f:t8)(v k:Nat):Nat->Nat:=fun y=>if y=v then k else f y
theorem ky:put f v k v=k:=by simp[put]
theorem hW(h:x≠v):put f v k x=f x:=by simp[put,h]
theorem Bm.add(B:Bm n ts s i R f)(hu:R[i]?=some u)(hv:v<n)(t:T ts u v)(hn:v∉R):Bm n ts s i (R++[v]) (put f v (f u+1)):=by
 have hur:u∈R:=dz hu;have nv:∀x∈R,x≠v:=fun x hx e=>hn (e ▸ hx);have hi:i<R.length:=(eR.mp hu).1;refine⟨?_,fun x hx=>?_,gC _ B.st,by rw[hW (nv s B.st)];exact B.z,fun x hx=>?_,?_,fun w hw x hx=>?_,fun j w hj hw x hx=>?_⟩
 .rw[j6];exact⟨B.nd,by simp,fun a ha b hb e=>by simp at hb;subst hb;exact hn (e ▸ ha)⟩
 .rcases cL.mp hx with z|z
  .exact B.lt x z
  .simp at z;lia
 .rcases cL.mp hx with z|z
  .rw[hW (nv x z)];exact B.wk x z
  .simp at z;subst z;rw[ky];exact⟨u,B.wk u hur,t⟩
 .rw[List.pairwise_append];refine⟨B.up.imp_of_mem fun {a b} ha hb h=>by rw[hW (nv a ha),hW (nv b hb)];exact h,by simp,fun a ha b hb=>?_⟩;simp at hb;subst hb;rw[hW (nv a ha),ky];exact B.bd u hu a ha
 .have hw':w=u:=by
   rw[j3 hi,hu] at hw;exact(cB hw).symm
  subst hw';rw[hW (nv w hur)];rcases cL.mp hx with z|z
  .rw[hW (nv x z)];exact B.bd w hu x z
  .simp at z;subst z;rw[ky];exact aP _
 .rw[j3 (by lia)] at hw;obtain⟨a,b⟩:=B.cl j w hj hw x hx;refine⟨gC _ a,?_⟩;rw[hW (nv x a),hW (nv w (dz hw))];exact b
theorem Bm.next(B:Bm n ts s i R f)(hu:R[i]?=some u)(h:∀v,T ts u v->v∈R/\f v<=f u+1):Bm n ts s (i+1) R f:=by
 refine⟨B.nd,B.lt,B.st,B.z,B.wk,B.up,fun w hw x hx=>?_,fun j w hj hw v hv=>?_⟩
 .have h1:=B.bd u hu x hx;have h2:f u<=f w:=by
   have hi:i<R.length:=(eR.mp hu).1;have vJ:i+1<R.length:=(eR.mp hw).1;have:=qg.mp B.up i (i+1) hi vJ (by lia);rw[cz hi] at hu;rw[cz vJ] at hw;rw[cB hu,cB hw] at this;exact this
  lia
 .by_cases e:j=i
  .subst e;rw[hu] at hw;cases hw;exact h v hv
  .exact B.cl j w (by lia) hw v hv
theorem f8:∀ {n:Nat} {R:aQ},R.Nodup->(∀x∈R,x<n)->R.length<=n:=by
 intro n R hn hl;have key:∀ (a b:aQ),a.Nodup->(∀x∈a,x∈b)->a.length<=b.length:=by
  intro a;induction a with
  |nil=>intro b _ _;exact cp _
  |cons x xs ih=>
   intro b hn hs;obtain⟨h1,h2⟩:=gI.mp hn;have hx:x∈b:=hs x cK;have:=ih (b.erase x) h2 fun y hy=>(BI (fun (e:y=x)=>h1 (e ▸ hy))).mpr (hs y (dq _ hy));rw[Bx hx] at this;have:0<b.length:=ua hx;rw[fj];lia
 have:=key R (List.range n) hn fun x hx=>bY.mpr (hl x hx);rwa [dk] at this
theorem Bm.done(B:Bm n ts s i R f)(F:cJ n ts)(hi:R.length<=i)(hx:x<n):x∈R/\f x=far ts s x:=by
 have cl:∀u∈R,∀v,T ts u v->v∈R/\f v<=f u+1:=fun u hu v hv=>by
  obtain⟨j,hj,e⟩:=nK.mp hu;exact B.cl j u (by lia) (by rw[cz hj,e]) v hv
 have walk:∀k x,fU ts k s x->x∈R/\f x<=k:=by
  intro k;induction k with
  |zero=>intro x e;cases e;exact⟨B.st,by rw[B.z];exact aP _⟩
  |succ k ih=>
   rintro x ⟨c,w,t⟩;obtain⟨c1,c2⟩:=ih c w;obtain⟨d1,d2⟩:=cl c c1 x t;exact⟨d1,by lia⟩
 obtain⟨k,w⟩:=F.con s x (B.lt s B.st) hx;obtain⟨m,_⟩:=walk k x w;exact⟨m,(Rc ⟨B.wk x m,fun k w=>(walk k x w).2⟩).symm⟩
theorem fU.mono(h:∀t∈ts,t∈ts'):∀ {k a b:Nat},fU ts k a b->fU ts' k a b
 |0,_,_,e=>e
 |_+1,_,_,⟨c,w,t⟩=>⟨c,w.mono h,h _ t⟩
structure Bn(n:Nat)(ts:Ts):Prop where
 nd:ts.Nodup
 rg:∀t∈ts,(0<=t.1/\t.1<n)/\(0<=t.2/\t.2<n)
 ne:∀t∈ts,t.1≠t.2
 GY:∀h:Int,(ts.filter fun t=>decide (t.1=h)).length=(ts.filter fun t=>decide (t.2=h)).length
 most:∀h:Int,(ts.filter fun t=>decide (t.1=h)).length<=8
theorem cJ.pre(F:cJ n ts):Bn n ts:=⟨F.nd,F.rg,F.ne,F.GY,F.most⟩
theorem Bn.lD(Pzz:Bn n ts)(n1:2<=n)(n2:n<=32)(c:∀a b,a<n->b<n->∃k,fU ts k a b):cJ n ts:=⟨n1,n2,Pzz.nd,Pzz.rg,Pzz.ne,Pzz.GY,Pzz.most,c⟩
theorem cJ.perm(F:cJ n ts)(p:ts'.Perm ts):cJ n ts':=
  ⟨F.n1,F.n2,p.nodup_iff.mpr F.nd,fun t ht=>F.rg t (p.mem_iff.mp ht),fun t ht=>F.ne t (p.mem_iff.mp ht),fun h=>by rw[(p.filter _).length_eq,(p.filter _).length_eq];exact F.GY h,
   fun h=>by rw[(p.filter _).length_eq];exact F.most h,fun a b ha hb=>let ⟨k,w⟩:=F.con a b ha hb;⟨k,w.mono fun t ht=>p.mem_iff.mpr ht⟩⟩
theorem cJ.app(F:cJ n ts)(Pzz:Bn n (ts++us)):cJ n (ts++us):=
 Pzz.lD F.n1 F.n2 fun a b ha hb=>let ⟨k,w⟩:=F.con a b ha hb;⟨k,w.mono fun t ht=>gC _ ht⟩
def pk(c k:Nat):Nat:=if k=0 then c-1 else k-1
abbrev ci(x:Nat):Int:=(x:Int)
def v6(xs:aQ):Ts:=(List.range xs.length).map fun k=>(ci (xs.getD (pk xs.length k) 0),ci (xs.getD k 0))
theorem dD{xs:aQ}{k:Nat}(h:k<xs.length):xs.getD k 0=xs[k]:=by rw[cw,cz h];rfl
theorem EW(xs:aQ):(v6 xs).map (·.2)=xs.map ci:=by
 unfold v6;rw[dQ];apply B5
 .simp
 .intro i h1 h2;simp only[uw,BU,Function.comp];rw[dD (by simpa using h2)]
theorem EX(xs:aQ):((v6 xs).map (·.1)).Perm (xs.map ci):=by
 cases hx:xs with
 |nil=>exact iD _
 |cons y ys=>
  rw[<-hx];have hl:xs.length=ys.length+1:=by rw[hx];rfl
  have e:(v6 xs).map (·.1)=ci (xs.getD (xs.length-1) 0)::(xs.take (xs.length-1)).map ci:=by
   unfold v6;rw[dQ];apply B5
   .simp;lia
   .intro i h1 h2;simp only[uw,BU,Function.comp];cases i with
    |zero=>rfl
    |succ i=>
     have hi:i+1<xs.length:=by simpa using h1
     simp only[List.getElem_cons_succ,uw,List.getElem_take];unfold pk;rw[ao (by lia),show i+1-1=i by lia,dD (by lia)]
  rw[e];have:xs.map ci=(xs.take (xs.length-1)).map ci++[ci (xs.getD (xs.length-1) 0)]:=by
   conv=>lhs;rw[<-nG (xs.length-1) xs]
   rw[dt];congr 1;rw[qh (by lia),List.drop_eq_nil_of_le (by lia),dD (by lia)];rfl
  rw[this];exact(List.perm_append_singleton _ _).symm
theorem im(ts:Ts)(h:Int):(ts.filter fun t=>decide (t.1=h)).length=(ts.map (·.1)).count h:=by
 induction ts with
 |nil=>rfl
 |cons t ts ih=>by_cases e:t.1=h <;> simp[eU,B_,e,ih]
theorem rn(ts:Ts)(h:Int):(ts.filter fun t=>decide (t.2=h)).length=(ts.map (·.2)).count h:=by
 induction ts with
 |nil=>rfl
 |cons t ts ih=>by_cases e:t.2=h <;> simp[eU,B_,e,ih]
theorem vj{xs:aQ}(h:xs.Nodup):(xs.map ci).Nodup:=by
 refine gk.mpr (h.imp fun {a b} rS e=>rS ?_);exact d7 e
theorem pM:∀ {l:List α},(l.map f).Nodup->l.Nodup
 |[],_=>kQ
 |a::l,h=>by
  rw[gJ] at h;obtain⟨h1,h2⟩:=gI.mp h;exact gI.mpr ⟨fun z=>h1 (bB.mpr ⟨a,z,rfl⟩),pM h2⟩
theorem pN(h:t∈v6 xs):∃k,k<xs.length/\t=(ci (xs.getD (pk xs.length k) 0),ci (xs.getD k 0)):=by
 obtain⟨k,hk,rfl⟩:=bB.mp h;exact⟨k,bY.mp hk,rfl⟩
theorem wV(h:k<c):pk c k<c:=by unfold pk;split <;> lia
theorem mQ{xs:aQ}{k:Nat}(h:k<xs.length):xs.getD k 0∈xs:=by rw[dD h];exact ie h
theorem kB{xs:aQ}(nd:xs.Nodup){i j:Nat}(hi:i<xs.length)(hj:j<xs.length)(e:xs[i]=xs[j]):i=j:=by
 have pw:=qg.mp nd;rcases Nat.lt_trichotomy i j with z|z|z
 .exact absurd e (pw i j hi hj z)
 .exact z
 .exact absurd e.symm (pw j i hj hi z)
theorem yr{n:Nat}{xs:aQ}(nd:xs.Nodup)(lt:∀x∈xs,x<n)(c2:2<=xs.length):Bn n (v6 xs)/\∀h:Int,((v6 xs).filter fun t=>decide (t.1=h)).length<=1:=by
 have nd2:((v6 xs).map (·.2)).Nodup:=by rw[EW];exact vj nd
 have one:∀h:Int,((v6 xs).filter fun t=>decide (t.1=h)).length<=1:=fun h=>by
  rw[im,(EX xs).count_eq];exact List.nodup_iff_count.mp (vj nd) h
 refine⟨⟨pM nd2,fun t ht=>?_,fun t ht=>?_,fun h=>?_,fun h=>aZ (one h) (by decide)⟩,one⟩
 .obtain⟨k,hk,rfl⟩:=pN ht;have h1:=lt _ (mQ (wV hk));have h2:=lt _ (mQ hk);simp only[ci];lia
 .obtain⟨k,hk,rfl⟩:=pN ht;intro e;have e':xs.getD (pk xs.length k) 0=xs.getD k 0:=d7 e;rw[dD (wV hk),dD hk] at e';have:=kB nd (wV hk) hk e';unfold pk at this;split at this <;> lia
 .rw[im,rn,(EX xs).count_eq,EW]
theorem tS(Pzz:Bn n ts)(Q:Bn n us)(hd:∀t∈us,t∉ts)(hm:∀h:Int,(ts.filter fun t=>decide (t.1=h)).length+(us.filter fun t=>decide (t.1=h)).length<=8):Bn n (ts++us):=by
 refine⟨j6.mpr ⟨Pzz.nd,Q.nd,fun a ha b hb e=>hd b hb (e ▸ ha)⟩,fun t ht=>?_,fun t ht=>?_,fun h=>?_,fun h=>?_⟩
 .rcases cL.mp ht with z|z
  .exact Pzz.rg t z
  .exact Q.rg t z
 .rcases cL.mp ht with z|z
  .exact Pzz.ne t z
  .exact Q.ne t z
 .rw[ic,ic,dh,dh,Pzz.GY,Q.GY]
 .rw[ic,dh];exact hm h
theorem G0(Pzz:Bn n ts)(nd:xs.Nodup)(lt:∀x∈xs,x<n)(c2:2<=xs.length)(hf:∀t∈v6 xs,(ts.filter fun u=>decide (u.1=t.1)).length<=7)(hn:∀t∈v6 xs,t∉ts):Bn n (ts++v6 xs):=by
 obtain⟨Q,one⟩:=yr nd lt c2;refine tS Pzz Q hn fun h=>?_;by_cases z:(v6 xs).filter (fun t=>decide (t.1=h))=[]
 .rw[z];simpa using Pzz.most h
 .obtain⟨t,ht⟩:=List.exists_mem_of_ne_nil _ z;obtain⟨h1,h2⟩:=gb.mp ht;have e:t.1=h:=by simpa using h2
  have a:=hf t h1;rw[e] at a;have:=one h;lia
theorem Pq(hk:k<xs.length):T (v6 xs) (xs.getD (pk xs.length k) 0) (xs.getD k 0):=bB.mpr ⟨k,bY.mpr hk,rfl⟩
theorem Df(i:Nat):∀ (d:Nat),i+d<xs.length->fU (v6 xs) d (xs.getD i 0) (xs.getD (i+d) 0)
 |0,_=>rfl
 |d+1,h=>by
  refine⟨_,Df i d (by lia),?_⟩;have:=Pq (xs:=xs) (k:=i+(d+1)) h;unfold pk at this;rw[ao (by lia)] at this;exact this
theorem wW{n:Nat}{xs:aQ}(n1:2<=n)(n2:n<=32)(pm:xs.Perm (List.range n)):cJ n (v6 xs):=by
 have hl:xs.length=n:=by rw[pm.length_eq,dk]
 have nd:xs.Nodup:=pm.nodup_iff.mpr jG;have lt:∀x∈xs,x<n:=fun x hx=>bY.mp (pm.mem_iff.mp hx);refine(yr nd lt (by lia)).1.lD n1 n2 fun a b ha hb=>?_;obtain⟨i,hi,ei⟩:=nK.mp (pm.mem_iff.mpr (bY.mpr ha));obtain⟨j,hj,ej⟩:=nK.mp (pm.mem_iff.mpr (bY.mpr hb));have w1:=Df (xs:=xs) i (xs.length-1-i) (by lia);have t0:=Pq (xs:=xs) (k:=0) (by lia);have w3:=Df (xs:=xs) 0 j (by lia);rw[show i+(xs.length-1-i)=xs.length-1 by lia] at w1;rw[show pk xs.length 0=xs.length-1 from rfl] at t0;rw[jI] at w3;have w:=w1.trans (fU.cons t0 w3);rw[dD hi,dD hj,ei,ej] at w;exact⟨_,w⟩
structure vk(n:Nat)(os:aQ)(k:Nat)(ts:Ts):Prop where
 pre:Bn n ts
 ends:∀t∈ts,∃a b,a∈os.take k/\b∈os.take k/\t=(ci a,ci b)
 con:∀a b,a∈os.take k->b∈os.take k->∃j,fU ts j a b
 len:ts.length+2=2*k
theorem vk.start(h:0<os.length):vk n os 1 []:=by
 refine⟨⟨kQ,(fun t h=>nomatch h),(fun t h=>nomatch h),fun h=>rfl,fun h=>by simp⟩,(fun t h=>nomatch h),fun a b ha hb=>?_,rfl⟩;cases os with
 |nil=>simp at h
 |cons o os=>
  simp at ha hb;exact⟨0,by rw[ha,hb];rfl⟩
theorem vk.add(Tr:vk n os k ts)(nd:os.Nodup)(lt:∀x∈os,x<n)(hv:os[k]?=some v)(hs:s∈os.take k)(hd:(ts.filter fun t=>decide (t.1=ci s)).length<8):vk n os (k+1) (ts++[(ci s,ci v),(ci v,ci s)]):=by
 have tk:os.take (k+1)=os.take k++[v]:=by rw[gW,hv];rfl
 have nd1:(os.take k++[v]).Nodup:=by rw[<-tk];exact nd.sublist (xw _ _)
 have vn:v∉os.take k:=fun z=>(j6.mp nd1).2.2 v z v (by simp) rfl;have sv:s≠v:=fun e=>vn (e ▸ hs);have vm:v∈os:=dz hv;have sl:=lt s (oZ hs);have vl:=lt v vm;have nov:∀t∈ts,t.1≠ci v/\t.2≠ci v:=fun t ht=>by
  obtain⟨a,b,ha,hb,rfl⟩:=Tr.ends t ht;exact⟨fun e=>vn (d7 e ▸ ha),fun e=>vn (d7 e ▸ hb)⟩
 have Q:Bn n [(ci s,ci v),(ci v,ci s)]:=by
  have V8:ci s≠ci v:=fun e=>sv (d7 e);refine⟨?_,fun t ht=>?_,fun t ht=>?_,fun h=>?_,fun h=>aZ (iK _ _) (by simp)⟩
  .simp[V8]
  .simp at ht;rcases ht with rfl|rfl <;> (simp only[ci];lia)
  .simp at ht;rcases ht with rfl|rfl
   .exact V8
   .exact V8.symm
  .by_cases a:ci s=h <;> by_cases b:ci v=h <;> simp[eU,a,b]
 have P2:Bn n (ts++[(ci s,ci v),(ci v,ci s)]):=by
  refine tS Tr.pre Q (fun t ht z=>?_) fun h=>?_
  .simp at ht;rcases ht with rfl|rfl
   .exact(nov _ z).2 rfl
   .exact(nov _ z).1 rfl
  .have V8:ci s≠ci v:=fun e=>sv (d7 e);by_cases a:ci s=h
   .subst a;have b:¬ ci v=ci s:=V8.symm;simp only[eU,decide_true,jM,gY b];simp;lia
   .by_cases b:ci v=h
    .subst b;have z:ts.filter (fun t=>decide (t.1=ci v))=[]:=ub.mpr fun t ht=>by simpa using (nov t ht).1
     rw[z];exact aZ (Nat.add_le_add_left (iK _ _) _) (by simp)
    .have:=Tr.pre.most h;simp[eU,a,b];exact this
 have up:∀t∈ts,t∈ts++[(ci s,ci v),(ci v,ci s)]:=fun t ht=>gC _ ht;have t1:T (ts++[(ci s,ci v),(ci v,ci s)]) s v:=e_ _ (by simp);have t2:T (ts++[(ci s,ci v),(ci v,ci s)]) v s:=e_ _ (by simp);have toS:∀a,a∈os.take k++[v]->∃j,fU (ts++[(ci s,ci v),(ci v,ci s)]) j a s:=fun a ha=>by
  rcases cL.mp ha with z|z
  .obtain⟨j,w⟩:=Tr.con a s z hs;exact⟨j,w.mono up⟩
  .simp at z;subst z;exact⟨1,fU.one t2⟩
 have ofS:∀b,b∈os.take k++[v]->∃j,fU (ts++[(ci s,ci v),(ci v,ci s)]) j s b:=fun b hb=>by
  rcases cL.mp hb with z|z
  .obtain⟨j,w⟩:=Tr.con s b hs z;exact⟨j,w.mono up⟩
  .simp at z;subst z;exact⟨1,fU.one t1⟩
 refine⟨P2,fun t ht=>?_,fun a b ha hb=>?_,?_⟩
 .rw[tk];rcases cL.mp ht with z|z
  .obtain⟨a,b,ha,hb,e⟩:=Tr.ends t z;exact⟨a,b,gC _ ha,gC _ hb,e⟩
  .simp at z;rcases z with rfl|rfl
   .exact⟨s,v,gC _ hs,by simp,rfl⟩
   .exact⟨v,s,by simp,gC _ hs,rfl⟩
 .rw[tk] at ha hb;obtain⟨i,w1⟩:=toS a ha;obtain⟨j,w2⟩:=ofS b hb;exact⟨i+j,w1.trans w2⟩
 .have:=Tr.len;rw[dh];simp;lia
theorem vk.lD(Tr:vk n os n ts)(n1:2<=n)(n2:n<=32)(pm:os.Perm (List.range n)):cJ n ts:=by
 have hl:os.length=n:=by rw[pm.length_eq,dk]
 refine Tr.pre.lD n1 n2 fun a b ha hb=>Tr.con a b ?_ ?_
 .rw[qk (by lia)];exact pm.mem_iff.mpr (bY.mpr ha)
 .rw[qk (by lia)];exact pm.mem_iff.mpr (bY.mpr hb)
theorem Dg(hh:h<n):(bX n ts h).Nodup:=(rT hh).imp fun {a b} rS e=>by subst e;lia
end lj
namespace L2
open PySem PySem.Spec PyProof.Rows
section
variable {X:Cx}
theorem AE:∀ {ns:dG} {its:bw},ba (ns.map V.int) its->∃xs:List (Int×Tok),its=xs.map (fun p=>Value.int p.1 p.2)/\xs.map (·.1)=ns
 |[],_,r=>by cases r;exact⟨[],rfl,rfl⟩
 |n::ns,_,r=>by
  cases r with
  |cons r rr=>
   obtain⟨t,rfl⟩:=(show ∃t,_=Value.int n t from r)
   obtain⟨xs,rfl,e⟩:=AE rr;exact⟨(n,t)::xs,rfl,by rw[gJ,e]⟩
def V9(K:a_):List V->Hp->VK->Prop:=fun xs H Q=>∃ (l:Addr) (ns:dG),xs=[.ref l]/\a8 K H l (ns.map V.int)/\ns≠[]/\∀M,M∈ns->(∀a∈ns,a<=M)->Q (.int M) H
theorem G7(hc:X.calm=true):gf X (.builtin "max") (V9 X.K):=by
 intro af s σ H xs us Q I r h;obtain⟨l,ns,rfl,hl,qd,q⟩:=h;obtain⟨u1,rfl,r1⟩:=r.one;obtain rfl:u1=Value.ref l:=r1;obtain⟨its,rv,pl,_⟩:=I.list hl;obtain⟨ps,rfl,rfl⟩:=AE rv;have hi:intItems ps.toArray=(ps.map (fun p=>Value.int p.1 p.2)).toArray:=by unfold intItems;simp
 have iC:0<ps.toArray.size:=by
  cases ps with
  |nil=>exact absurd rfl qd
  |cons p ps=>simp
 refine max_intList (I.ok.hd hc) (xs:=ps.toArray) (by rw[hi];exact pl.isList) iC fun v h' tk hv hk=>?_;obtain⟨t,rfl⟩:=intItems_at hv;obtain⟨h1,h2⟩:=argBest_gt (numAt ps.toArray) (ps.toArray.size-1);have num:∀j,j<ps.length->numAt ps.toArray j∈ps.map (·.1)/\numAt ps.toArray j=(ps.map (·.1)).getD j 0:=fun j hj=>by
  have e:numAt ps.toArray j=ps[j].1:=by unfold numAt;simp[cz hj]
  refine⟨by rw[e];exact bB.mpr ⟨_,ie hj,rfl⟩,?_⟩;rw[e,cw,cA,cz hj];rfl
 have hb:argBest (fun i j=>decide (numAt ps.toArray i > numAt ps.toArray j)) (ps.toArray.size-1)<ps.length:=by
  have:ps.toArray.size=ps.length:=by simp
  lia
 refine⟨.int _,H,I.kept (t':=tk) hk,⟨t,rfl⟩,q _ (num _ hb).1 fun a ha=>?_⟩;obtain⟨j,hj,e⟩:=nK.mp ha;rw[aT] at hj;have:=h2 j (by (have:ps.toArray.size=ps.length:=by simp);lia);rw[(num j hj).2,cw,cz (by rw[aT];exact hj)] at this;rw[<-e];exact this
end
end L2
namespace lj
abbrev v7(u:lF):Int×Int:=(u.2,u.1)
def et(ps:Ts):Ts:=ps.flatMap fun u=>[u,v7 u]
theorem oz:et (ps++qs)=et ps++et qs:=List.flatMap_append
theorem ji:∀ {ps:Ts},(et ps).Perm (ps++ps.map v7)
 |[]=>iD _
 |u::ps=>by
  have ih:=ji (ps:=ps);show (u::v7 u::et ps).Perm (u::(ps++v7 u::ps.map v7));refine List.Perm.cons _ ?_;exact(ih.cons _).trans List.perm_middle.symm
theorem tT:∀ {ps:Ts},(et ps).length=2*ps.length
 |[]=>rfl
 |u::ps=>by
  have ih:=tT (ps:=ps);show (et ps).length+2=2*(ps.length+1);lia
theorem EY(h:u∈et ps):v7 u∈et ps:=by
 obtain⟨v,hv,hu⟩:=B4.mp h;refine B4.mpr ⟨v,hv,?_⟩;rcases bq.mp hu with e|e
 .rw[e];exact dq _ (dA.mpr rfl)
 .rw[dA.mp e];exact cK
theorem pO:u∈et ps↔u∈ps\/v7 u∈ps:=by
 rw[(ji (ps:=ps)).mem_iff,cL];refine or_congr Iff.rfl ⟨fun h=>?_,fun h=>bB.mpr ⟨_,h,rfl⟩⟩;obtain⟨v,hv,rfl⟩:=bB.mp h;exact hv
theorem EZ:((et ps).map v7).Perm (et ps):=by
 refine((ji (ps:=ps)).map v7).trans (List.Perm.trans ?_ (ji (ps:=ps)).symm);rw[dt,dQ];have e:ps.map (v7 ∘ v7)=ps:=(j5 fun u _=>rfl).trans (kX ps);rw[e];exact j4
def G8(x:Nat):List Nat->Bool
 |[]=>false
 |y::ys=>Nat.beq x y||G8 x ys
theorem vo:∀ {ys:aQ},G8 x ys=true↔x∈ys
 |[]=>by simp[G8]
 |y::ys=>by
  unfold G8;rw[uz,vo (ys:=ys),bq];exact or_congr ⟨fun h=>xp h,fun h=>by rw[h];exact xH y⟩ Iff.rfl
def YK:List Nat->Bool
 |[]=>true
 |x::xs=>!G8 x xs&&YK xs
theorem JZ:∀ {xs:aQ},YK xs=true->xs.Nodup
 |[],_=>kQ
 |x::xs,h=>by
  unfold YK at h;rw[gm] at h;refine gI.mpr ⟨fun z=>?_,JZ h.2⟩;rw[vo.mpr z] at h;exact absurd h.1 (by decide)
def YL:List Nat->Bool
 |x::y::r=>Nat.ble x y&&YL (y::r)
 |_=>true
theorem J0:∀ {xs:aQ},YL xs=true->xs.Pairwise (·<=·)
 |[],_=>List.Pairwise.nil
 |[x],_=>List.pairwise_singleton _ _
 |x::y::r,h=>by
  unfold YL at h;rw[gm] at h;have ih:=J0 h.2;refine xv.mpr ⟨fun z hz=>?_,ih⟩;have h1:=uc h.1;rcases bq.mp hz with e|e
  .rw[e];exact h1
  .exact aZ h1 ((xv.mp ih).1 z e)
abbrev jn(q:Nat×Nat):Int×Int:=((q.1:Int),(q.2:Int))
def V_(qs:we):List Nat:=qs.flatMap fun q=>[64*q.1+q.2,64*q.2+q.1]
def M4(c:Nat):Int×Int:=(((c / 64:Nat):Int),((c % 64:Nat):Int))
theorem Dh(h:b<64):M4 (64*a+b)=((a:Int),(b:Int)):=by
 unfold M4;rw[show (64*a+b) / 64=a by lia,show (64*a+b) % 64=b by lia]
theorem tU:∀ {qs:we},(∀q∈qs,q.1<64/\q.2<64)->(V_ qs).map M4=et (qs.map jn)
 |[],_=>rfl
 |q::qs,h=>by
  have ih:=tU (qs:=qs) fun x hx=>h x (dq _ hx);obtain⟨h1,h2⟩:=h q cK;show M4 (64*q.1+q.2)::M4 (64*q.2+q.1)::(V_ qs).map M4=jn q::v7 (jn q)::et (qs.map jn);rw[ih,Dh h2,Dh h1]
def b1(b:Bool):Nat:=cond b 1 0
def mX(h:Nat):List (Nat×Nat)->Nat
 |[]=>0
 |q::qs=>b1 (Nat.beq q.1 h)+(b1 (Nat.beq q.2 h)+mX h qs)
theorem yt{h:Nat}:∀ {qs:we},((et (qs.map jn)).filter fun t=>decide (t.1=(h:Int))).length=mX h qs
 |[]=>rfl
 |q::qs=>by
  have ih:=yt (h:=h) (qs:=qs);have e:∀a:Nat,(if decide ((a:Int)=(h:Int))=true then 1 else 0)=b1 (Nat.beq a h):=fun a=>by
   by_cases c:a=h
   .subst c;rw[ap (by simp),xH];rfl
   .rw[ao (by simp;lia),show Nat.beq a h=false from B0.mpr fun z=>c (xp z)];rfl
  show ((jn q::v7 (jn q)::et (qs.map jn)).filter _).length=b1 (Nat.beq q.1 h)+(b1 (Nat.beq q.2 h)+mX h qs);rw[<-ih,<-e q.1,<-e q.2,eU,eU];split <;> split <;> simp <;> lia
def J4(n:Nat)(qs:we):Bool:=Nat.ble 2 n&&(Nat.ble n 32&&(YK (V_ qs)&&(qs.all (fun q=>Nat.blt q.1 n&&(Nat.blt q.2 n&&!Nat.beq q.1 q.2))&&((List.range n).all (fun h=>Nat.ble (mX h qs) 8) &&
 (List.range n).all (fun v=>Nat.beq v 0||(List.range v).reverse.any (fun u=>G8 (64*u+v) (V_ qs)))))))
theorem oA(h:Nat.blt a b=true):a<b:=uc h
theorem J9(h:J4 n qs=true):cJ n (et (qs.map jn))/\∀q∈qs,q.1<64/\q.2<64:=by
 unfold J4 at h;simp only[gm,kM,bY,uz,xA,List.mem_reverse] at h;obtain⟨h1,h2,h3,h4,h5,h6⟩:=h;have h1:=uc h1;have h2:=uc h2;have Wa:∀q∈qs,q.1<64/\q.2<64:=fun q hq=>⟨by have:=oA (h4 q hq).1;lia,by have:=oA (h4 q hq).2.1;lia⟩
 have mem:∀t∈et (qs.map jn),∃q∈qs,t=jn q\/t=v7 (jn q):=fun t ht=>by
  rcases pO.mp ht with z|z
  .obtain⟨q,hq,e⟩:=bB.mp z;exact⟨q,hq,.inl e.symm⟩
  .obtain⟨q,hq,e⟩:=bB.mp z;exact⟨q,hq,.inr (by rw[e])⟩
 have rg:∀t∈et (qs.map jn),((0<=t.1/\t.1<n)/\(0<=t.2/\t.2<n))/\t.1≠t.2:=fun t ht=>by
  obtain⟨q,hq,e⟩:=mem t ht;have a:=oA (h4 q hq).1;have b:=oA (h4 q hq).2.1;have c:q.1≠q.2:=fun z=>by have:=(h4 q hq).2.2;rw[z,xH] at this;exact absurd this (by decide)
  rcases e with rfl|rfl
  .exact⟨⟨⟨by show (0:Int)<=(q.1:Int);lia,by show (q.1:Int)<n;lia⟩,by show (0:Int)<=(q.2:Int);lia,by show (q.2:Int)<n;lia⟩,by show ((q.1:Nat):Int)≠(q.2:Nat);lia⟩
  .exact⟨⟨⟨by show (0:Int)<=(q.2:Int);lia,by show (q.2:Int)<n;lia⟩,by show (0:Int)<=(q.1:Int);lia,by show (q.1:Int)<n;lia⟩,by show ((q.2:Nat):Int)≠(q.1:Nat);lia⟩
 have GY:∀h:Int,((et (qs.map jn)).filter fun t=>decide (t.1=h)).length=((et (qs.map jn)).filter fun t=>decide (t.2=h)).length:=fun h=>by
  rw[<-(EZ (ps:=qs.map jn)).filter (fun t=>decide (t.1=h)) |>.length_eq,qG,aT];rfl
 have nd:(et (qs.map jn)).Nodup:=by
  rw[<-tU Wa];refine List.Pairwise.map _ (fun a b rS e=>rS ?_) (t9.mp (JZ h3));have e1:a / 64=b / 64:=d7 (congrArg Prod.fst e);have e2:a % 64=b % 64:=d7 (congrArg Prod.snd e);lia
 refine⟨⟨h1,h2,nd,fun t ht=>(rg t ht).1,fun t ht=>(rg t ht).2,GY,fun h=>?_,fun a b ha hb=>?_⟩,Wa⟩
 .by_cases c:0<=h/\h<n
  .have:=uc (h5 h.toNat (by lia));rw[<-yt,qr c.1] at this;exact this
  .have e:(et (qs.map jn)).filter (fun t=>decide (t.1=h))=[]:=ub.mpr fun t ht e=>c ((show t.1=h from fu e) ▸ (rg t ht).1.1);rw[e];exact cp _
 .have CK:∀v,v<n->(∃k,fU (et (qs.map jn)) k 0 v)/\∃k,fU (et (qs.map jn)) k v 0:=by
   intro v;induction v using Nat.strongRecOn with
   |ind v ih=>
    intro hv;rcases h6 v hv with e|⟨u,hu,t1⟩
    .have e:=xp e;subst e;exact⟨⟨0,rfl⟩,0,rfl⟩
    .obtain⟨⟨k,w⟩,l,w'⟩:=ih u hu (by lia);have t:T (et (qs.map jn)) u v:=by
      have:=bB.mpr ⟨_,vo.mp t1,Dh (a:=u) (b:=v) (by lia)⟩;rw[tU Wa] at this;exact this
     have t':T (et (qs.map jn)) v u:=EY t;exact⟨⟨k+1,u,w,t⟩,l+1,fU.cons t' w'⟩
  obtain⟨_,k,w⟩:=CK a ha;obtain⟨⟨l,w'⟩,_⟩:=CK b hb;exact⟨_,w.trans w'⟩
def vp(f b:Nat):List (Nat×Nat):=(List.range f).flatMap fun at_=>(List.range (b ^ f)).flatMap fun h=>(List.range (b-h / b ^ at_ % b-1)).map fun k=>(h,h+(k+1)*b ^ at_)
def Wb(f b h:Nat):List Nat:=(List.range f).map fun k=>h / b ^ k % b
def unl(f b o p:Nat):Nat:=((List.range f).filter fun k=>!Nat.beq ((Wb f b o).getD k 0) ((Wb f b p).getD k 0)).length
def Di(f b:Nat):List Nat:=(List.range (b ^ f)).flatMap fun o=>((List.range (b ^ f)).filter fun p=>Nat.beq (unl f b o p) 1).map fun p=>64*o+p
def Dj(f b:Nat):Ts:=(Di f b).map M4
def E3(f b:Nat):Bool:=J4 (b ^ f) (vp f b)&&((V_ (vp f b)).isPerm (Di f b)&&YL (Di f b))
theorem Dk:(List.range 6).all (fun f=>(List.range 6).all fun b=>Nat.blt f 1||(Nat.blt b 2||(Nat.blt 32 (b ^ f)||E3 f b)))=true:=by decide +kernel
theorem Dl(f1:1<=f)(f2:f<=5)(b1:2<=b)(b2:b<=5)(hm:b ^ f<=32):cJ (b ^ f) (et ((vp f b).map jn))/\(et ((vp f b).map jn)).Perm (Dj f b)/\(Dj f b).Pairwise (fun u v=>64*u.1+u.2<=64*v.1+v.2):=by
 have:=kM.mp (kM.mp Dk f (bY.mpr (by lia))) b (bY.mpr (by lia));rw[uz,uz,uz] at this;rcases this with z|z|z|z
 .have:=oA z;lia
 .have:=oA z;lia
 .have:=oA z;lia
 .unfold E3 at z;rw[gm,gm] at z;obtain⟨h1,h2,h3⟩:=z;obtain⟨F,Wa⟩:=J9 h1;refine⟨F,?_,?_⟩
  .rw[<-tU Wa];exact(List.isPerm_iff.mp h2).map M4
  .unfold Dj;rw[gk];refine(J0 h3).imp fun {a b} h=>?_;unfold M4;show 64*((a / 64:Nat):Int)+((a % 64:Nat):Int)<=64*((b / 64:Nat):Int)+((b % 64:Nat):Int);lia
def pr:List Nat->Nat
 |[]=>1
 |n::ns=>n*pr ns
def E4(m st n:Nat):List (Nat×Nat):=((List.range m).filter fun h=>decide (h / st % n+1<n)).map fun h=>(h,h+st)
def bx(m:Nat):Nat->List Nat->List (Nat×Nat)
 |_,[]=>[]
 |st,n::ns=>E4 m st n++bx m (st*n) ns
def pP(ns:aQ):List (Nat×Nat):=bx (pr ns) 1 ns
def M5:Nat->List Nat->Nat->Nat->Prop
 |_,[],_,_=>False
 |st,n::ns,a,b=>(a / st % n+1<n/\b=a+st)\/M5 (st*n) ns a b
theorem E5:q∈E4 m st n↔q.1<m/\q.1 / st % n+1<n/\q.2=q.1+st:=by
 unfold E4;rw[bB];constructor
 .rintro⟨h,hh,rfl⟩;obtain⟨h1,h2⟩:=gb.mp hh;exact⟨bY.mp h1,fu h2,rfl⟩
 .rintro⟨h1,h2,h3⟩;exact⟨q.1,gb.mpr ⟨bY.mpr h1,iN h2⟩,iG rfl h3.symm⟩
theorem yu:∀ {ns:aQ} {st:Nat},q∈bx m st ns↔q.1<m/\M5 st ns q.1 q.2
 |[],st=>⟨fun h=>(nomatch h),fun h=>h.2.elim⟩
 |n::ns,st=>by
  unfold bx M5;rw[cL,E5,yu (ns:=ns)];constructor
  .rintro(⟨a,b,c⟩|⟨a,b⟩)
   .exact⟨a,.inl ⟨b,c⟩⟩
   .exact⟨a,.inr b⟩
  .rintro⟨a,⟨b,c⟩|b⟩
   .exact .inl ⟨a,b,c⟩
   .exact .inr ⟨a,b⟩
abbrev U(ns:aQ):Nat->Nat->Prop:=M5 1 ns
theorem yv:∀ {ns:aQ} {st a b:Nat},0<st->(∀n∈ns,0<n)->(M5 st ns a b↔a % st=b % st/\U ns (a / st) (b / st))
 |[],st,a,b,h,_=>⟨fun z=>z.elim,fun z=>z.2.elim⟩
 |n::ns,st,a,b,h,hn=>by
  have Jk:=hn n cK;have Ai:∀n∈ns,0<n:=fun x hx=>hn x (dq _ hx);show (_\/M5 (st*n) ns a b)↔a % st=b % st/\(_\/M5 (1*n) ns (a / st) (b / st))
  rw[Nat.one_mul,yv (uJ h Jk) Ai,yv Jk Ai,Nat.div_one,BF a st n,BF b st n,Nat.mod_mul,Nat.mod_mul];have e1:=lP a st;have e2:=lP b st;constructor
  .rintro(⟨c,rfl⟩|⟨c,d⟩)
   .refine⟨by rw[Nat.add_mod_right],.inl ⟨c,by rw[Nat.add_div_right _ h]⟩⟩
   .have m1:a % st=b % st:=by
     have:=congrArg (· % st) c;simp only[Nat.add_mul_mod_self_left,Nat.mod_mod] at this;exact this
    refine⟨m1,.inr ⟨?_,d⟩⟩;rw[m1] at c;exact Nat.eq_of_mul_eq_mul_left h (Nat.add_left_cancel c)
  .rintro⟨m1,⟨c,d⟩|⟨c,d⟩⟩
   .refine .inl ⟨c,?_⟩;rw[<-e2,d,<-m1,Nat.mul_add,xJ,Nat.add_right_comm,e1]
   .exact .inr ⟨by rw[m1,c],d⟩
theorem Dm(h:∀x∈n::ns,0<x):U (n::ns) a b↔(a % n+1<n/\b=a+1)\/(a % n=b % n/\U ns (a / n) (b / n)):=by
 show (_\/M5 (1*n) ns a b)↔_;rw[Nat.one_mul,yv (h n cK) fun x hx=>h x (dq _ hx),Nat.div_one]
theorem Dn(h:a % n+1<n):(a+1) / n=a / n/\(a+1) % n=a % n+1:=by
 have e:=lP a n;have e2:a+1=n*(a / n)+(a % n+1):=by lia
 have hn:0<n:=by lia
 rw[e2,Nat.mul_add_div hn,Nat.mul_add_mod,Nat.div_eq_of_lt h,jE h];exact⟨rfl,rfl⟩
theorem Wc:∀ {ns:aQ} {a b:Nat},(∀x∈ns,0<x)->U ns a b->a<pr ns->a<b/\b<pr ns
 |[],a,b,_,h,_=>h.elim
 |n::ns,a,b,hn,h,ha=>by
  have Jk:=hn n cK;have Ai:∀n∈ns,0<n:=fun x hx=>hn x (dq _ hx);have QE:a<n*pr ns:=ha;have hq:a / n<pr ns:=Nat.div_lt_of_lt_mul QE;show a<b/\b<n*pr ns;rcases(Dm hn).mp h with ⟨c,rfl⟩|⟨c,d⟩
  .refine⟨by lia,?_⟩;have e:=lP a n;have:=uf n hq;rw[Nat.succ_eq_add_one,Nat.mul_add,xJ] at this;lia
  .obtain⟨i1,i2⟩:=Wc Ai d hq;refine⟨?_,?_⟩
   .have e1:=lP a n;have e2:=lP b n;have:=Iu i1 Jk;lia
   .have e2:=lP b n;have hm:=lV b Jk;have:=uf n i2;rw[Nat.succ_eq_add_one,Nat.mul_add,xJ] at this;lia
theorem J_:∀ {ns:aQ} {v:Nat},(∀x∈ns,0<x)->0<v->v<pr ns->∃u,u<v/\U ns u v
 |[],v,_,h1,h2=>by have h2:v<1:=h2;lia
 |n::ns,v,hn,h1,h2=>by
  have Jk:=hn n cK;have Ai:∀n∈ns,0<n:=fun x hx=>hn x (dq _ hx);have lv:=lV v Jk;have ev:=lP v n;by_cases c:v % n=0
  .have hq:0<v / n:=by
    rcases Nat.eq_zero_or_pos (v / n) with z|z
    .rw[z,c] at ev;simp at ev;lia
    .exact z
   obtain⟨u,hu,uu⟩:=J_ (v:=v / n) Ai hq (Nat.div_lt_of_lt_mul h2);refine⟨n*u,?_,(Dm hn).mpr (.inr ⟨by rw[Nat.mul_mod_right,c],by rw[Nat.mul_div_cancel_left _ Jk];exact uu⟩)⟩;have:=Iu hu Jk;lia
  .have hv:v-1=n*(v / n)+(v % n-1):=by lia
   have hm:(v-1) % n=v % n-1:=by rw[hv,Nat.mul_add_mod,jE (by lia)]
   exact⟨v-1,by lia,(Dm hn).mpr (.inl ⟨by lia,by lia⟩)⟩
theorem E6:∀ {ns:aQ} {st a b:Nat},(∀x∈ns,0<x)->M5 st ns a b->a+st<=b
 |[],st,a,b,_,h=>h.elim
 |n::ns,st,a,b,hn,h=>by
  rcases h with ⟨_,rfl⟩|h
  .exact aP _
  .have:=E6 (fun x hx=>hn x (dq _ hx)) h;have h1:=Nat.le_mul_of_pos_right st (hn n cK);lia
theorem G9:(E4 m st n).Nodup:=by
 unfold E4;refine t9.mpr (gk.mpr ?_);exact(t9.mp (jG.sublist BO)).imp fun {a b} h e=>h (congrArg Prod.fst e)
theorem AF:∀ {ns:aQ} {st:Nat},0<st->(∀x∈ns,2<=x)->(bx m st ns).Nodup
 |[],_,_,_=>kQ
 |n::ns,st,h,hn=>by
  have Ud:=hn n cK;have Ai:∀x∈ns,2<=x:=fun x hx=>hn x (dq _ hx);refine j6.mpr ⟨G9,AF (uJ h (by lia)) Ai,fun x hx y hy e=>?_⟩;subst e;have h1:=(E5.mp hx).2.2;have h2:=E6 (fun x hx=>by have:=Ai x hx;lia) (yu.mp hy).2;have h3:=uf st Ud;lia
theorem G_(nd:ps.Nodup)(h:∀u∈ps,u.1<u.2):(et ps).Nodup:=by
 refine(ji (ps:=ps)).nodup_iff.mpr (j6.mpr ⟨nd,?_,fun x hx y hy e=>?_⟩)
 .refine t9.mpr (gk.mpr ((t9.mp nd).imp fun {a b} rS e=>rS ?_));exact iG (congrArg Prod.snd e) (congrArg Prod.fst e)
 .subst e;obtain⟨u,hu,rfl⟩:=bB.mp hy;have h1:=h _ hx;have h2:=h u hu;have h1:u.2<u.1:=h1;lia
theorem Ha{qs:we}(h:qs.Nodup):(qs.map jn).Nodup:=by
 refine t9.mpr (gk.mpr ((t9.mp h).imp fun {a b} rS e=>rS ?_));exact iG (d7 (congrArg Prod.fst e)) (d7 (congrArg Prod.snd e))
theorem rW:∀ {a b:we},mX h (a++b)=mX h a+mX h b
 |[],b=>by show mX h b=0+_;lia
 |q::a,b=>by
  have:=rW (h:=h) (a:=a) (b:=b);show b1 _+(b1 _+mX h (a++b))=b1 _+(b1 _+mX h a)+mX h b;lia
theorem Ps:b1 (Nat.beq a b)=if a=b then 1 else 0:=by
 by_cases c:a=b
 .subst c;rw[ap rfl,xH];rfl
 .rw[ao c,show Nat.beq a b=false from B0.mpr fun z=>c (xp z)];rfl
theorem E7:∀ {L:aQ},L.Nodup->mX h (L.map fun x=>(x,x+st))<=(if h∈L then 1 else 0)+(if st<=h/\h-st∈L then 1 else 0)
 |[],_=>cp _
 |x::L,nd=>by
  obtain⟨n1,n2⟩:=gI.mp nd;have ih:=E7 (h:=h) (st:=st) n2;show b1 (Nat.beq x h)+(b1 (Nat.beq (x+st) h)+mX h (L.map fun x=>(x,x+st)))<=_;rw[Ps,Ps];have e1:(if h∈x::L then 1 else 0)=(if x=h then 1 else 0)+(if h∈L then 1 else 0):=by
   by_cases c:x=h
   .subst c;rw[ap cK,ap rfl,ao n1]
   .rw[ao c];by_cases d:h∈L
    .rw[ap (dq _ d),ap d]
    .rw[ao d,ao (fun z=>(bq.mp z).elim (fun z=>c z.symm) d)]
  have e2:(if st<=h/\h-st∈x::L then 1 else 0)=(if x+st=h then 1 else 0)+(if st<=h/\h-st∈L then 1 else 0):=by
   by_cases c:x+st=h
   .have e:h-st=x:=by lia
    rw[ap c,e,ap ⟨by lia,cK⟩,ao (fun z=>n1 z.2)]
   .rw[ao c];by_cases d:st<=h/\h-st∈L
    .rw[ap d,ap ⟨d.1,dq _ d.2⟩]
    .rw[ao d,ao];rintro⟨z1,z2⟩;rcases bq.mp z2 with z|z
     .lia
     .exact d ⟨z1,z⟩
  rw[e1,e2];lia
def wt:List Nat->Nat
 |[]=>0
 |n::ns=>(if n=2 then 1 else 2)+wt ns
theorem M6(hs:0<st):mX h (E4 m st n)<=if n=2 then 1 else 2:=by
 have c:=E7 (h:=h) (st:=st) (L:=(List.range m).filter fun h=>decide (h / st % n+1<n)) (jG.sublist BO);refine aZ c ?_;by_cases e:n=2
 .rw[ap e];by_cases c1:h∈(List.range m).filter fun h=>decide (h / st % n+1<n)
  .rw[ap c1,ao]
   .lia
   .rintro⟨z1,z2⟩;have d1:h / st % n+1<n:=fu (gb.mp c1).2;have d2:(h-st) / st % n+1<n:=fu (gb.mp z2).2;have d3:h / st=(h-st) / st+1:=by
     have:=Nat.add_div_right (h-st) hs;rw[show h-st+st=h by lia] at this;exact this
    obtain⟨_,d4⟩:=Dn d2;rw[<-d3] at d4;lia
  .rw[ao c1];split <;> lia
 .rw[ao e];split <;> split <;> lia
theorem Ka:∀ {ns:aQ} {st:Nat},0<st->(∀x∈ns,0<x)->mX h (bx m st ns)<=wt ns
 |[],_,_,_=>aP _
 |n::ns,st,hs,hn=>by
  show mX h (E4 m st n++bx m (st*n) ns)<=_+wt ns;rw[rW];have h1:=M6 (m:=m) (n:=n) (h:=h) hs;have h2:=Ka (m:=m) (h:=h) (ns:=ns) (st:=st*n) (uJ hs (hn n cK)) fun x hx=>hn x (dq _ hx);lia
theorem Kb:∀ {ns:aQ},(∀x∈ns,2<=x)->3 ^ wt ns<=pr ns*pr ns
 |[],_=>aP _
 |n::ns,hn=>by
  have ih:=Kb (ns:=ns) fun x hx=>hn x (dq _ hx);have h2:=hn n cK;show 3 ^ ((if n=2 then 1 else 2)+wt ns)<=n*pr ns*(n*pr ns);rw[Nat.pow_add,Nat.mul_mul_mul_comm];refine Cb ?_ ih;by_cases c:n=2
  .rw[ap c,c];decide
  .rw[ao c];have:3<=n:=by lia
   exact Cb this this
theorem Wd(hn:∀x∈ns,2<=x)(hp:pr ns<=32):wt ns<=8:=by
 refine xk fun z=>?_;have h1:3 ^ 9<=3 ^ wt ns:=Nat.pow_le_pow_right (by decide) (by lia);have h2:=Kb hn;have h3:pr ns*pr ns<=32*32:=Cb hp hp;have h4:(3:Nat) ^ 9=19683:=by decide
 lia
theorem Kc{ns:aQ}(hn:∀x∈ns,2<=x)(h0:ns≠[])(hp:pr ns<=32):cJ (pr ns) (et ((pP ns).map jn)):=by
 have Re:∀x∈ns,0<x:=fun x hx=>by have:=hn x hx;lia
 have q:∀q∈pP ns,q.1<q.2/\q.2<pr ns:=fun q hq=>by
  obtain⟨a,b⟩:=yu.mp hq;exact Wc Re b a
 have n1:2<=pr ns:=by
  cases ns with
  |nil=>exact absurd rfl h0
  |cons n ns=>
   have h2:=hn n cK;have:∀ {l:aQ},(∀x∈l,2<=x)->1<=pr l:=fun {l}=>by
    induction l with
    |nil=>intro _;exact aP _
    |cons x l ih=>intro hl;exact uJ (by have:=hl x cK;lia) (ih fun y hy=>hl y (dq _ hy))
   have h3:=this (l:=ns) fun x hx=>hn x (dq _ hx);show 2<=n*pr ns;exact aZ h2 (Nat.le_mul_of_pos_right n h3)
 have mem:∀t∈et ((pP ns).map jn),∃q∈pP ns,t=jn q\/t=v7 (jn q):=fun t ht=>by
  rcases pO.mp ht with z|z
  .obtain⟨q,hq,e⟩:=bB.mp z;exact⟨q,hq,.inl e.symm⟩
  .obtain⟨q,hq,e⟩:=bB.mp z;exact⟨q,hq,.inr (by rw[e])⟩
 have rg:∀t∈et ((pP ns).map jn),((0<=t.1/\t.1<pr ns)/\(0<=t.2/\t.2<pr ns))/\t.1≠t.2:=fun t ht=>by
  obtain⟨p,hq,e⟩:=mem t ht;obtain⟨a,b⟩:=q p hq;rcases e with rfl|rfl
  .exact⟨⟨⟨by show (0:Int)<=(p.1:Int);lia,by show (p.1:Int)<(pr ns:Int);lia⟩,by show (0:Int)<=(p.2:Int);lia,by show (p.2:Int)<(pr ns:Int);lia⟩,by show ((p.1:Nat):Int)≠(p.2:Nat);lia⟩
  .exact⟨⟨⟨by show (0:Int)<=(p.2:Int);lia,by show (p.2:Int)<(pr ns:Int);lia⟩,by show (0:Int)<=(p.1:Int);lia,by show (p.1:Int)<(pr ns:Int);lia⟩,by show ((p.2:Nat):Int)≠(p.1:Nat);lia⟩
 have nd:(et ((pP ns).map jn)).Nodup:=G_ (Ha (AF (by decide) hn)) fun u hu=>by
  obtain⟨p,hq,rfl⟩:=bB.mp hu;have:=(q p hq).1;show (p.1:Int)<(p.2:Int);lia
 refine⟨n1,hp,nd,fun t ht=>(rg t ht).1,fun t ht=>(rg t ht).2,fun h=>?_,fun h=>?_,fun a b ha hb=>?_⟩
 .rw[<-(EZ (ps:=(pP ns).map jn)).filter (fun t=>decide (t.1=h)) |>.length_eq,qG,aT];rfl
 .by_cases c:0<=h/\h<pr ns
  .have:=Ka (m:=pr ns) (h:=h.toNat) (ns:=ns) (st:=1) (by decide) Re;have e:=yt (h:=h.toNat) (qs:=pP ns);rw[qr c.1] at e;rw[e];exact aZ this (Wd hn hp)
  .have e:(et ((pP ns).map jn)).filter (fun t=>decide (t.1=h))=[]:=ub.mpr fun t ht e=>c ((show t.1=h from fu e) ▸ (rg t ht).1.1);rw[e];exact cp _
 .have CK:∀v,v<pr ns->(∃k,fU (et ((pP ns).map jn)) k 0 v)/\∃k,fU (et ((pP ns).map jn)) k v 0:=by
   intro v;induction v using Nat.strongRecOn with
   |ind v ih=>
    intro hv;rcases Nat.eq_zero_or_pos v with e|e
    .subst e;exact⟨⟨0,rfl⟩,0,rfl⟩
    .obtain⟨u,hu,uu⟩:=J_ Re e hv;obtain⟨⟨k,w⟩,l,w'⟩:=ih u hu (by lia);have t:T (et ((pP ns).map jn)) u v:=pO.mpr (.inl (bB.mpr ⟨(u,v),yu.mpr ⟨by show u<pr ns;lia,uu⟩,rfl⟩));have t':T (et ((pP ns).map jn)) v u:=EY t;exact⟨⟨k+1,u,w,t⟩,l+1,fU.cons t' w'⟩
  obtain⟨_,k,w⟩:=CK a ha;obtain⟨⟨l,w'⟩,_⟩:=CK b hb;exact⟨_,w.trans w'⟩
end lj
namespace L2
open PySem PySem.Spec PyProof.Rows
def Do(scope:Scope)(dJ:iO)(qual:Str)(f c L:Addr):Env:=
 { scope:=scope,locals:=L,globals:=mainGlobals,cells:=dJ,qual:=qual++".<locals>.",func:=some f,code:=.ref c,frame:=some L,builtins:=builtinsNs }
def rX(X:Cx)(NB:bQ)(scope:Scope)(dJ:iO)(qual:Str)(f c:Addr)(s:aR)(H:Hp):Cx:=
 { X with A:=X.A.in1.in1.deeper (Do scope dJ qual f c s.heap.objs.size),N:=NB,s₀:=s,H₀:=H,env:=Do scope dJ qual f c s.heap.objs.size,outer:=X.stack,stack:=Do scope dJ qual f c s.heap.objs.size::X.stack,ex:=[],fn:=fun _=>false,pn:=[],xe:=fun _ _=>False }
structure AG(X:Cx)(NB:bQ)(src:bA)(scope:Scope)(qual:Str)(params:lX)(body:Expr)(y:Str):Prop where
 bs:iw NB src scope X
 bind:∀dJ pm c Ag v,bindArgs (W.kla_fn "<lambda>" qual params body scope dJ pm (.ref c) Ag) ⟨[v],[]⟩=pure [(y,v)]
 y0:NB[0]?=some y
 s0:src[0]?=some none
 ly:scope.names.lookup y=some .local
 yk:∀z∈scope.names,z.2≠.cell
 co:scope.isCoroutine=false
 gen:scope.isGenerator=false
section
variable {X:Cx} {af:cE} {σ:St} {H:Hp} {s:aR} {NB:bQ} {src:bA} {scope:Scope} {qual:Str} {params:lX} {body:Expr} {y:Str} {dJ:iO} {f c:Addr} {h₁:Heap} {t₁:Nat} {v:V} {u:Value}
theorem M7(I:aU X af σ H s)(S:AG X NB src scope qual params body y)(hd:X.A.handled=none)(c1:∀x c,dJ.lookup x=some c->X.env.cells.lookup x=some c)(c2:∀x,(x,NameKind.free)∈scope.names->∃c,dJ.lookup x=some c)(hn:h₁.Ns s.heap.objs.size (fun x=>[(y,u)].lookup x))(hk:∀b o,s.heap.get? b=some o->h₁.get? b=some o)(rv:bW v u):
  aU (rX X NB scope dJ qual f c s H) [] ((Bh src σ).set 0 (some v)) H { s with heap:=h₁,toks:=t₁ }:=by
 have yd:∀x c,dJ.lookup x=some c->∃v,s.heap.IsCell c v:=fun x c e=>I.cell x c (c1 x c e);have B:=S.bs;refine⟨⟨I.ok.mod,B.kind,rfl,rfl,aP _,fun x y c e1 e2=>I.ok.inj x y c (c1 x c e1) (c1 y c e2),fun x hx=>?_,(fun x c z e=>by cases z),fun _=>hd,Around.frames_deeper I.ok.frames,.inr ⟨rfl,rfl⟩,(fun b hb=>by cases hb),I.bs,aZ I.ok.IL I.sz,(fun b o e hb=>by cases hb),(fun b hb=>by cases hb),I.stack,I.xO⟩,
  rfl,I.bare,Un.kept hk,⟨_,hn,fun i x w e1 e2 e3=>?_⟩,fun x c e=>?_,I.cY.fresh (aP _),fun x c e=>I.l3 x c (c1 x c e),fun p hp=>absurd (show p∈([]:cE) from hp) (by simp),I.cY.kept hk,?_⟩
 .have hx:scope.names.lookup x=some .cell\/scope.names.lookup x=some .free:=hx;rcases hx with z|z
  .exact absurd rfl (S.yk _ (lH z))
  .exact c2 x (lH z)
 .have e1:NB[i]?=some x:=e1;cases i with
  |zero=>
   rw[S.y0] at e1;cases e1;have hl:0<(Bh src σ).length:=by
    unfold Bh;rw[aT];exact(eR.mp S.s0).1
   rw[qo hl] at e2;cases e2;exact⟨u,rv,.inl ⟨S.ly,by simp⟩⟩
  |succ i=>
   rw[qp (by lia)] at e2;obtain⟨j,hj,hv⟩:=Ey e2;obtain⟨hN,hF⟩:=B.src (i+1) x j e1 hj;obtain⟨m0,Jk,QG⟩:=I.loc;have CL:=lH hF;have kx:=B.free _ CL rfl;have U5:Ua X.env.scope x:=by
    rcases kx with z|z
    .exact .inr (.inl z)
    .exact .inr (.inr z)
   obtain⟨u',r,l⟩:=QG j x w hN hv U5;obtain⟨c',hc⟩:=c2 x CL;refine⟨u',r,.inr ⟨.inr hF,c',hc,?_⟩⟩;rcases l with ⟨LX,_⟩|⟨_,c'',e,z⟩
   .have Jl:X.env.scope.names.lookup x=some .local:=LX;rcases kx with z|z <;> (rw[z] at Jl;cases Jl)
   .rw[c1 x c' hc] at e;cases e;obtain⟨o,ho,Mg⟩:=z;exact⟨o,hk _ _ ho,Mg⟩
 .obtain⟨v,o,ho,Mg⟩:=yd x c e;exact⟨v,o,hk _ _ ho,Mg⟩
 .show ((Bh src σ).set 0 (some v)).length=NB.length;unfold Bh;rw[ja,aT];exact B.len
theorem Kd(hr:df k X.A)(S:AG X NB src scope qual params body y)(I:aU X af σ H s)(hf:H f=some (vV f qual params body scope X.env.cells c))(hc:H c=some (pF c qual))(rv:bW v u)(hb:∀dJ s H,PE (rX X NB scope dJ qual f c s H) body te)(h:te ((Bh src σ).set 0 (some v)) H Q):
  wpAny (model X.prog X.w) X.A.in1.in1 (call (.ref f) [u]) (EP X af σ Q) (fun _ _=>False) s:=by
 obtain⟨dJ,pm,Ag,c1,c2,QF⟩:=(I.cY f _ hf).1;have hcr:s.heap.CodeRec (.ref c) qual:=(I.cY c _ hc).1;have JA:X.A.in1.in1.depth<recursionLimit:=by
  have:=hr.dp;show X.A.depth<_;lia
 refine qN (W.kla_callFunE JA QF rfl S.co S.gen rfl hcr ?_);rw[S.bind];refine wpAny_pure (wpAny_newFunctionEnv S.yk (fun x hx=>by rw[dA.mp hx];exact S.ly) (fun h₁ Ai VP=>⟨I.nolimit.fresh _ VP,?_⟩) S.bs.kind);have QV:∀b o,s.heap.get? b=some o->h₁.get? b=some o:=fun b o e=>VP.extBut b o (bf (aS e)) (bP _ e);refine W.kla_codeExpr ?_;have J:=M7 (f:=f) (c:=c) (t₁:=s.toks+1) I S hr.hd c1 c2 Ai QV rv;refine jK (hb dJ s H [] _ _ H Q J h) (fun w s' ⟨v',H',J',r',q'⟩=>?_) fun _ _ z=>z.elim;exact⟨v',H',I.O0 (ch:=[]) J'.os J'.base J'.cY J'.bare (fun b hb=>by cases hb),r',q'⟩
end
def zn(kz:t7)(a b:Nat):Prop:=64*kz a+a<=64*kz b+b
structure Ii(ns:aQ)(kz:t7)(ps:List Keyed):Prop where
 len:ps.length=ns.length
 at_:∀ (i n:Nat),ns[i]?=some n->∃t u,ps[i]?=some (Value.int (kz n) t,Value.int (n:Int) u)
theorem Ii.mem(Pzz:Ii ns kz ps)(h:p∈ps):∃n∈ns,∃t u,p=(Value.int (kz n) t,Value.int (n:Int) u):=by
 obtain⟨i,hi,e⟩:=ug h;have hn:i<ns.length:=by rw[<-Pzz.len];exact hi
 obtain⟨t,u,e2⟩:=Pzz.at_ i ns[i] (cz hn);rw[cz hi] at e2;exact⟨_,ie hn,t,u,by rw[<-e];exact cB e2⟩
theorem Ii.map(Pzz:Ii ns kz ps):ps.map (fun p=>(numOf p.2).toNat)=ns:=by
 refine lK fun i=>?_;rw[cA];cases e:ns[i]? with
 |none=>
  have:ns.length<=i:=List.getElem?_eq_none_iff.mp e;rw[f9 (by rw[Pzz.len];exact this)];rfl
 |some n=>
  obtain⟨t,u,e2⟩:=Pzz.at_ i n e;rw[e2];rfl
def YM(p:Keyed):Int:=numOf p.1
def We(p:Keyed):Int:=numOf p.2
theorem Ii.nu(Pzz:Ii ns kz a.toList)(Rf:ns.Pairwise (·<·))(M8:∀n∈ns,n<64):Nu We a:=by
 have g:∀ (i n:Nat),ns[i]?=some n->kk We a i=(n:Int):=fun i n e=>by
  obtain⟨t,u,e2⟩:=Pzz.at_ i n e;unfold kk;rw[<-nJ,e2];rfl
 refine⟨fun i j zG hj=>?_,fun x hx=>?_⟩
 .have hj:j<ns.length:=by rw[<-Pzz.len];simpa using hj
  rw[g i _ (cz (show i<ns.length by lia)),g j _ (cz hj)];have:=qg.mp Rf i j (by lia) hj zG;lia
 .obtain⟨n,hn,t,u,rfl⟩:=Pzz.mem hx;have:=M8 n hn;show 0<=(n:Int)/\(n:Int)<64;lia
theorem Ii.cmp(Pzz:Ii ns kz a.toList):LZ prog w A s oneType' a YM:=fun x y hx hy Q E h=>by
 obtain⟨n,_,t,u,rfl⟩:=Pzz.mem hx;obtain⟨m,_,t',u',rfl⟩:=Pzz.mem hy;rw[keyLt'_oneType];exact oneLt_int h
theorem Ii.out{ns:aQ}{kz:t7}{a b:bu}(Pzz:Ii ns kz a.toList)(hp:b.Perm a)(so:zk YM We b a.size):
  ∃out:List Nat,out.Perm ns/\out.Pairwise (zn kz)/\ba (out.map fun (x:Nat)=>V.int (x:Int)) (b.map (·.2)).toList:=by
 have hl:b.toList.Perm a.toList:=jZ.mp hp;have mem:∀p∈b.toList,∃n∈ns,∃t u,p=(Value.int (kz n) t,Value.int (n:Int) u):=fun p h=>Pzz.mem (hl.mem_iff.mp h);refine⟨b.toList.map fun p=>(numOf p.2).toNat,by rw[<-Pzz.map];exact hl.map _,?_,?_⟩
 .refine gk.mpr ?_;rw[qg];intro i j hi hj zG;have vJ:i<b.size:=by simpa using hi
  have VH:j<b.size:=by simpa using hj
  have q:=so i j (kW zG) (by rw[<-hp.size_eq];exact VH);rw[mf vJ,mf vJ,mf VH,mf VH] at q;obtain⟨n,_,t,u,e⟩:=mem b[i] (by simp);obtain⟨m,_,t',u',e'⟩:=mem b[j] (by simp);have e1:b.toList[i]=b[i]:=by simp
  have e2:b.toList[j]=b[j]:=by simp
  rw[e1,e2];rw[e,e'] at q;rw[e,e'];exact q
 .rw[kO,dQ];have go:∀l:List Keyed,(∀p∈l,∃n∈ns,∃t u,p=(Value.int (kz n) t,Value.int (n:Int) u))->ba (l.map ((fun (x:Nat)=>V.int (x:Int)) ∘ fun p=>(numOf p.2).toNat)) (l.map (·.2)):=fun l=>by
   induction l with
   |nil=>intro _;exact .nil
   |cons x l ih=>
    intro h;obtain⟨n,_,t,u,rfl⟩:=h x cK;exact .cons ⟨u,rfl⟩ (ih fun p hp=>h p (dq _ hp))
  exact go _ mem
section
variable {X:Cx} {af:cE} {σ:St} {H:Hp} {s:aR}
theorem aU.Wf(I:aU X af σ H s)(f:hZ X af H a)(new:dB X.prog X.w (upd H a o) s.heap a o):aU X af σ (upd H a o) s:=by
 have ne:∀ {b u},H b=some u->b≠a:=fun {b u} e z=>by rw[z,f.1] at e;cases e
 obtain⟨h,g,d,t,os⟩:=s;refine I.step (g':=g) (d':=d) (t':=t) (h':=h) (ch:=[a]) (fun b hb=>?_) (fun b o _ _ _ e _=>e) (fun b o _ _ _ e _=>⟨o.slots,e⟩) (fun b o hc _ n=>by rw[aq (fun z=>hc (by simp[z]))];exact n)
  (fun b o _ e=>⟨o,e⟩) (fun b xs e=>by rw[aq (ne e)];exact e) (fun b o u e=>by rw[aq (ne e)];exact e) (fun b ps e=>⟨#[],by rw[aq (ne e),e];simp⟩) (fun m hm=>hm) (fun b u e=>?_) I.bare
 .have e:b=a:=by simpa using hb
  subst e;exact⟨f.2.2.2.1,f.2.1,f.2.2.2.2.1,f.2.2.2.2.2⟩
 .by_cases hb:b=a
  .subst hb;rw[ae] at e;cases e;exact new
  .rw[aq hb] at e;exact(I.cY b u e).jO (fun _ _ _ q=>q) (fun d q=>by rw[aq (ne q)];exact q) fun d xs q=>by rw[aq (ne q)];exact q
variable {NB:bQ} {src:bA} {scope:Scope} {qual:Str} {params:lX} {body:Expr} {y:Str} {f c:Addr} {te:TE} {k:Nat} {ns:aQ} {kz:t7} {its:bw} {a kS:Addr} {e1:Nat}
theorem AH{st:bZ}{keys:bD}{e:Nat}{E:bV}{A:br}(I:aU X af σ H s)(fa:hZ X af H a)(fk:hZ X af H kS)(Rg:kS≠a)(oa:s.heap.get? a=some (seqObj "list" #[] e1))(ok:s.heap.get? kS=some (seqObj "list" keys e))(hk:keys.size<64)(LY:(arrOf st).size<64)(hfl:failedOf st=none){out:aQ}(hv:ba (out.map fun (x:Nat)=>V.int (x:Int)) ((arrOf st).map (·.2)).toList){Pzz:PySem.Fin->Shared->Prop}(h:∀s',aU X af σ (upd H a (.lst (out.map fun (x:Nat)=>V.int (x:Int)))) s'->Pzz (.done (.ret .none)) s'):
  wpAny (model X.prog X.w) A (ksk_tail a false e1 (.ref kS) st) Pzz E s:=by
 have s1:=qw s.heap kS (Obj.mapSeq fun _=>(#[]:bD));have na1:(s.heap.update kS (Obj.mapSeq fun _=>(#[]:bD))).get? a=some (seqObj "list" #[] e1):=(s1.2 a Rg.symm).trans oa;have s2:=qw (s.heap.update kS (Obj.mapSeq fun _=>(#[]:bD))) a (Obj.mapSeq fun _=>(arrOf st).map (·.2));obtain⟨c2,Uo⟩:∃c2,((s.heap.update kS (Obj.mapSeq fun _=>(#[]:bD))).update a (Obj.mapSeq fun _=>(arrOf st).map (·.2))).get? a=some (seqObj "list" ((arrOf st).map (·.2)) c2):=⟨_,kR na1 fun _=>(arrOf st).map (·.2)⟩
 have J1:=I.turned (t':=s.toks) (h':=s.heap.update kS (Obj.mapSeq fun _=>(#[]:bD))) (it:=kS) (fun b o hb q=>(s1.2 b hb).trans q) fk.1 fk.2.1 fk.2.2.2.1 fk.2.2.2.2.1 fk.2.2.2.2.2;have J2:=J1.turned (t':=s.toks) (h':=(s.heap.update kS (Obj.mapSeq fun _=>(#[]:bD))).update a (Obj.mapSeq fun _=>(arrOf st).map (·.2))) (it:=a) (fun b o hb q=>(s2.2 b hb).trans q) fa.1 fa.2.1 fa.2.2.2.1 fa.2.2.2.2.1 fa.2.2.2.2.2;have J3:=J2.Wf fa (o:=.lst (out.map fun (x:Nat)=>V.int (x:Int))) ⟨?_,((arrOf st).map (·.2)).toList,c2,hv,by rw[Uo]⟩
 .unfold ksk_tail;try dsimp only
  refine au (jJ ok rfl ?_ (by rw[ge];lia) (cp _));refine au (wpAny_letGo ?_);refine au (lW na1 rfl ?_);simp only[iL,eG];refine au (jJ na1 rfl ?_ (cp _) (by rw[j7,ge];lia));rw[hfl];simp only[ul,iL,eG];exact wpAny_pure (h _ J3)
 .have:=hv.length;rw[this,lI,j7,ge];lia
theorem M9{keys:bD}{e:Nat}{E:bV}{A:br}(I:aU X af σ H s)(fa:hZ X af H a)(fk:hZ X af H kS)(Rg:kS≠a)(oa:s.heap.get? a=some (seqObj "list" #[] e1))(ok:s.heap.get? kS=some (seqObj "list" keys e))(hk:IntsAre keys.toList (ns.map kz))(hP:Ii ns kz (keys.zip its.toArray).toList)(hl:its.length=ns.length)(LY:ns.length<64)(Rf:ns.Pairwise (·<·))(M8:∀n∈ns,n<64){Pzz:PySem.Fin->Shared->Prop}(h:∀s' (out:aQ),out.Perm ns->out.Pairwise (zn kz)->aU X af σ (upd H a (.lst (out.map fun (x:Nat)=>V.int (x:Int)))) s'->Pzz (.done (.ret .none)) s'):
  wpAny (model X.prog X.w) A (ksk_end a false its.toArray e1 (.ref kS) keys) Pzz E s:=by
 have iC:keys.size=ns.length:=by
  have h1:=hk.length;rw[lI,aT] at h1;exact h1
 have hzs:(keys.zip its.toArray).size=ns.length:=by rw[Array.size_zip,iC,ce,hl,uH]
 unfold ksk_end;simp only[iL,eG];by_cases h2:its.toArray.size<2
 .rw[ap h2,ap h2];refine au (wpAny_pure ?_);rw[B6];refine au (wpAny_pure ?_);try dsimp only
  rw[ce,hl] at h2;obtain⟨out,o1,o2,o3⟩:=hP.out (b:=keys.zip its.toArray) (xC _) (fun i j zG hj=>by rw[hzs] at hj;rw[show i=j by lia];exact n_ _);exact AH (st:=SortSt.mk' general' (keys.zip its.toArray) #[] 7 none) I fa fk Rg oa ok (by lia) (by show (keys.zip its.toArray).size<64;lia) rfl o3 fun s' J=>h s' out o1 o2 J
 .rw[ao h2,ao h2];rw[ce,hl] at h2;rw[ksk_kind hk (by lia)];refine au (wpAny_pure ?_);refine au (jK (ve (st:=SortSt.mk' oneType' (keys.zip its.toArray) #[] 7 none) (a₀:=keys.zip its.toArray) (ck:=YM) (nu:=We)
   (Q:=fun _ aF=>(arrOf aF).Perm (keys.zip its.toArray)/\failedOf aF=none/\zk YM We (arrOf aF) (keys.zip its.toArray).size)
   hP.cmp (hP.nu Rf M8) rfl rfl rfl rfl (by lia) (by lia) fun aF a1 a2 a3=>⟨a1,a2,a3⟩) ?_ fun _ _ e=>e)
  rintro⟨⟨⟩,aF⟩ s' ⟨rfl,hp,hf,hs⟩;try dsimp only
  obtain⟨out,o1,o2,o3⟩:=hP.out hp hs;exact AH I fa fk Rg oa ok (by lia) (by rw[hp.size_eq];lia) hf o3 fun s' J=>h s' out o1 o2 J
theorem Ke(hr:df k X.A)(S:AG X NB src scope qual params body y)(hb:∀dJ s H,PE (rX X NB scope dJ qual f c s H) body te)(I:aU X af σ H s)(hf:H f=some (vV f qual params body scope X.env.cells c))(hc:H c=some (pF c qual))(hv:ba (ns.map fun (x:Nat)=>V.int (x:Int)) its)(LY:ns.length<64)(Rf:ns.Pairwise (·<·))(M8:∀n∈ns,n<64)(fa:hZ X af H a)(fk:hZ X af H kS)(Rg:kS≠a)(oa:s.heap.get? a=some (seqObj "list" #[] e1))(ok:s.heap.get? kS=some (seqObj "list" #[] 0))(hte:∀n∈ns,∀H',aI H H'->te ((Bh src σ).set 0 (some (.int (n:Nat)))) H' fun v Wg=>v=.int (kz n)/\aI H' Wg)(h:∀H' s' (out:aQ),aI H H'->H' a=none->out.Perm ns->out.Pairwise (zn kz)->aU X af σ (upd H' a (.lst (out.map fun (x:Nat)=>V.int (x:Int)))) s'->Pzz (.done (.ret .none)) s'):
  wpAny (model X.prog X.w) X.A.in1.in1 (ksk_rest a (.ref f) false its.toArray e1 (.ref kS)) Pzz E s:=by
 have hl:its.length=ns.length:=by have:=hv.length;rw[aT] at this;exact this.symm
 unfold ksk_rest;refine au (fv ?_);first
  |rw[List.forIn_toArray]
  |(rw[<-uj];simp only[List.toList_toArray])
  |rw[<-uj]
 have Wi:∀ {p:Addr×Obj} {b:Addr} {o:Obj} {H':Hp} {s':aR},hZ X af H b->H' b=none->s'.heap.get? b=some o->(∀v,o.data≠.cell v)->p=(b,o)->s'.heap.get? p.1=some p.2/\H' p.1=none/\p.1≠X.env.locals/\p.1∉X.fs/\∀v,p.2.data≠.cell v:=fun {p b o H' s'} F n e d z=>by
  subst z;exact⟨e,n,F.2.1,F.2.2.1,d⟩
 have two:∀ {H':Hp} {s':aR} {oK:Obj} {pn':cE},aU X pn' σ H' s'->(∀p∈af,p∈pn')->H' a=none->H' kS=none->s'.heap.get? a=some (seqObj "list" #[] e1)->s'.heap.get? kS=some oK->(∀v,oK.data≠.cell v)->aU X (af++[(kS,oK),(a,seqObj "list" #[] e1)]) σ H' s':=fun {H' s' oK pn'} J sub na nk ea ek d=>J.pb fun p hp=>by
  rcases cL.mp hp with z|z
  .exact J.pin p (e_ _ (sub p z))
  .rcases bq.mp z with z|z
   .exact Wi fk nk ek d z
   .exact Wi fa na ea (fun v z=>by cases z) (dA.mp z)
 refine au (ksk_fold (fun i s'=>∃H' kA e,aI H H'/\aU X (af++[(kS,seqObj "list" kA e),(a,seqObj "list" #[] e1)]) σ H' s'/\IntsAre kA.toList ((ns.take i).map kz)) its 0 s
  ⟨H,#[],0,aI.refl _,two I (fun p z=>z) fa.1 fk.1 oa ok (fun v z=>by cases z),by simpa using IntsAre.nil⟩ ?step ?done)
 case step=>
  rintro j x s' hx ⟨H',kA,e,sm,J,hk⟩;simp only[jI] at hk |-;have hj:j<ns.length:=by rw[<-hl];exact(eR.mp hx).1
  have hnj:ns[j]?=some ns[j]:=cz hj;obtain⟨u,hu,ru⟩:=hv.get (i:=j) (x:=V.int ((ns[j]:Nat):Int)) (by rw[cA,hnj];rfl);rw[hx] at hu;cases hu;refine au (kU (jK (Kd hr S J (sm _ _ hf) (sm _ _ hc) ru hb (hte ns[j] (ie hj) H' sm)) (fun w LQ he=>?_) fun _ _ hF=>hF.elim));obtain⟨v,Wg,J2,⟨vO,VW⟩⟩:=he;obtain⟨rfl,Pu⟩:=VW;obtain⟨t2,rfl⟩:∃t,w=Value.int (kz ns[j]) t:=vO;try dsimp only
  have nk:=J2.pin (kS,seqObj "list" kA e) (e_ _ (e_ _ (.head _)));have na:=J2.pin (a,seqObj "list" #[] e1) (e_ _ (e_ _ (.tail _ (.head _))));have s1:=qw LQ.heap kS (Obj.mapSeq (·.push (.int (kz ns[j]) t2)));obtain⟨c2,Uo⟩:∃c2,(LQ.heap.update kS (Obj.mapSeq (·.push (.int (kz ns[j]) t2)))).get? kS=some (seqObj "list" (kA.push (.int (kz ns[j]) t2)) c2):=⟨_,kR nk.1 (·.push (.int (kz ns[j]) t2))⟩
  have hz:kA.size<=64:=by
   have h1:=hk.length;rw[lI,aT,kK] at h1;lia
  have J3:=(J2.pb (pins':=af) fun p hp=>J2.pin p (e_ _ (gC _ hp))).turned (t':=LQ.toks) (h':=LQ.heap.update kS (Obj.mapSeq (·.push (.int (kz ns[j]) t2)))) (it:=kS) (fun b o hb q=>(s1.2 b hb).trans q) nk.2.1 fk.2.1 fk.2.2.2.1 fk.2.2.2.2.1 fk.2.2.2.2.2;refine au (jJ nk.1 rfl ?_ (by rw[ge];lia) (aZ (qJ (Array.size_push ..)) (by rw[ge];lia)));refine wpAny_pure ⟨rfl,Wg,_,c2,sm.trans Pu,two J3 (fun p z=>z) na.2.1 nk.2.1 ((s1.2 a Rg.symm).trans na.1) Uo (fun v z=>by cases z),?_⟩;have ek:(ns.take (j+1)).map kz=(ns.take j).map kz++[kz ns[j]]:=by rw[gW,hnj,BR,dt];rfl
  have ea:(kA.push (Value.int (kz ns[j]) t2)).toList=kA.toList++[Value.int (kz ns[j]) t2]:=by simp
  rw[ea,ek];exact ksk_snoc hk
 case done=>
  rintro s' ⟨H',kA,e,sm,J,hk⟩;have LX:IntsAre kA.toList (ns.map kz):=by
   have e3:ns.take (0+its.length)=ns:=qk (by lia);rw[e3] at hk;exact hk
  have nk:=J.pin (kS,seqObj "list" kA e) (e_ _ (e_ _ (.head _)));have na:=J.pin (a,seqObj "list" #[] e1) (e_ _ (e_ _ (.tail _ (.head _))));try dsimp only
  refine au (listItems_at nk.1 rfl ?_);have hP:Ii ns kz (kA.zip its.toArray).toList:=by
   rw[ksk_zip];have l1:=LX.length;rw[aT] at l1;refine⟨by rw[qE,l1,hl,uH],fun i n hn=>?_⟩;have hi:i<ns.length:=(eR.mp hn).1;obtain⟨u,hu,t',rfl⟩:=hv.get (i:=i) (x:=V.int ((n:Nat):Int)) (by rw[cA,hn];rfl);have hki:i<kA.toList.length:=by rw[l1];exact hi
   obtain⟨m,t,em,en⟩:=LX.at i kA.toList[i] (cz hki);rw[cA,hn] at en;cases en;refine⟨t,t',?_⟩;rw[xj];exact⟨by rw[cz hki,em],hu⟩
  exact M9 (J.pb (pins':=af) fun p hp=>J.pin p (e_ _ (gC _ hp))) ⟨na.2.1,fa.2⟩ ⟨nk.2.1,fk.2⟩ Rg na.1 nk.1 LX hP hl LY Rf M8 fun s2 out o1 o2 J2=>h H' s2 out sm na.2.1 o1 o2 J2
end
def Rh(X:Cx)(NB:bQ)(src:bA)(qual:Str)(params:lX)(body:Expr)(scope:Scope)(te:TE):St->List V->List V->Hp->VK->Prop:=fun σ vs zs H Q=>
 ∃ (l f c:Addr) (ns:aQ) (kz:t7),vs=[.ref l]/\zs=[.ref f]/\a8 X.K H l (ns.map fun (x:Nat)=>V.int (x:Int))/\ns.length<64/\ns.Pairwise (·<·)/\(∀n∈ns,n<64)/\H f=some (vV f qual params body scope X.env.cells c)/\H c=some (pF c qual)/\
  (∀n∈ns,∀H',aI H H'->te ((Bh src σ).set 0 (some (.int (n:Nat)))) H' fun v Wg=>v=.int (kz n)/\aI H' Wg)/\
  ∀ (r:Addr) (H':Hp) (out:aQ),aI H H'->H' r=none->out.Perm ns->out.Pairwise (zn kz)->Q (.ref r) (upd H' r (.lst (out.map fun (x:Nat)=>V.int (x:Int))))
theorem ln(hr:df k X.A)(S:AG X NB src scope qual params body y)(hb:∀f c dJ s H,PE (rX X NB scope dJ qual f c s H) body te):
  C1 X "sorted" ["key"] (Rh X NB src qual params body scope te):=by
 intro af s σ H vs zs us ws Q I r rz h;obtain⟨l,f,c,ns,kz,rfl,rfl,hl,LY,Rf,M8,hf,hc,hte,q⟩:=h;obtain⟨u1,rfl,r1⟩:=r.one;obtain rfl:u1=Value.ref l:=r1;obtain⟨w1,rfl,rw1⟩:=rz.one;obtain rfl:w1=Value.ref f:=rw1;obtain⟨its,rv,pl,hz⟩:=I.list hl;have hln:its.length=ns.length:=by have:=rv.length;rw[aT] at this;exact this.symm
 show wpAny (model X.prog X.w) X.A (call (.builtin "sorted") [.ref l] [(Str.ofString "key",.ref f)]) _ _ s;refine call_function_entry_kw kind_sorted plain_sorted entry_sorted (ksk_s1 _ _) ?_;unfold Builtin.«sorted»;refine au (m:=checkCount "sorted" 1 1 _) (wpAny_pure ?_);refine au (collect_list pl.isList ?_ (by rw[ge];lia));refine au (qK ?_ (by rw[ge];lia));have iC:((s.heap.push (seqObj "list" #[] 0)).update s.heap.objs.size (Obj.mapSeq (·++its.toArray))).objs.size=s.heap.objs.size+1:=by
  rw[eV,fw]
 have wq:(((s.heap.push (seqObj "list" #[] 0)).update s.heap.objs.size (Obj.mapSeq (·++its.toArray))).push (seqObj "list" its.toArray 0)).get? (s.heap.objs.size+1)=some (seqObj "list" its.toArray 0):=by
  rw[<-iC];exact cX _ rfl
 have keep:∀b o,s.heap.get? b=some o->(((s.heap.push (seqObj "list" #[] 0)).update s.heap.objs.size (Obj.mapSeq (·++its.toArray))).push (seqObj "list" its.toArray 0)).get? b=some o:=fun b o q=>by
  have eX:b<s.heap.objs.size:=aS q;rw[eT _ _ _ (by rw[iC];exact bf (dH eX)),lJ _ _ _ _ (bf eX),eT _ _ _ (bf eX)];exact q
 show wpAny _ _ _ _ _ { s with heap:=((s.heap.push (seqObj "list" #[] 0)).update s.heap.objs.size (Obj.mapSeq (·++its.toArray))).push (seqObj "list" its.toArray 0) };rw[iC];have Gm:(((s.heap.push (seqObj "list" #[] 0)).update s.heap.objs.size (Obj.mapSeq (·++its.toArray))).push (seqObj "list" its.toArray 0)).objs.size=s.heap.objs.size+2:=by rw[fw,iC]
 generalize (((s.heap.push (seqObj "list" #[] 0)).update s.heap.objs.size (Obj.mapSeq (·++its.toArray))).push (seqObj "list" its.toArray 0))=h1 at *;refine au (gK (wpAny_call_entry_kw slot_list_sort ⟨_,wq,rfl⟩ entry_list_sort ?body (ksk_l1 _ _)));case body=>
  have ht':=ksk_t1 f (s.heap.objs.size+1);show wpAny (model X.prog X.w) X.A.in1.in1 (Builtin.«list.sort» ⟨[.ref (s.heap.objs.size+1)],[(Str.ofString "key",.ref f)]⟩) _ _ _;rw[ht'];have s1:=qw h1 (s.heap.objs.size+1) (Obj.mapSeq fun _=>(#[]:bD));obtain⟨e1,Ih⟩:∃e1,(h1.update (s.heap.objs.size+1) (Obj.mapSeq fun _=>(#[]:bD))).get? (s.heap.objs.size+1)=some (seqObj "list" #[] e1):=⟨_,kR wq fun _=>#[]⟩
  have hkS:((h1.update (s.heap.objs.size+1) (Obj.mapSeq fun _=>(#[]:bD))).push (seqObj "tuple" its.toArray 0)).objs.size=s.heap.objs.size+3:=by rw[fw,eV,Gm]
  unfold ksk_tree;refine au (listItems_at wq rfl ?_);refine au (jJ wq rfl ?_ (by rw[ce,ge];lia) (cp _));refine au (lW Ih rfl ?_);refine au (uD ?_ (by show its.length<=_;rw[ge];lia));refine au (qK ?_ (cp _));refine gK ?_;have Wj:∀b o,s.heap.get? b=some o->(((h1.update (s.heap.objs.size+1) (Obj.mapSeq fun _=>(#[]:bD))).push (seqObj "tuple" its.toArray 0)).push (seqObj "list" #[] 0)).get? b=some o:=fun b o e=>
   bP _ (bP _ ((s1.2 b (bf (dH (aS e)))).trans (keep b o e)))
  have I2:aU X af σ H { s with heap:=((h1.update (s.heap.objs.size+1) (Obj.mapSeq fun _=>(#[]:bD))).push (seqObj "tuple" its.toArray 0)).push (seqObj "list" #[] 0) }:=I.kept (t':=s.toks) Wj;refine Ke hr S (hb f c) I2 hf hc rv LY Rf M8 (I.zI (by lia) (I.cY.fresh (by lia))) (I.zI (b:=((h1.update (s.heap.objs.size+1) (Obj.mapSeq fun _=>(#[]:bD))).push (seqObj "tuple" its.toArray 0)).objs.size) (by lia) (I.cY.fresh (by lia))) (by lia) (bP _ (bP _ Ih)) (cX _ rfl) hte fun H' s' out sm na o1 o2 J=>⟨_,rfl,?_⟩
  exact wpAny_pure ⟨_,rfl,.ref (s.heap.objs.size+1),_,J,rfl,q _ H' out sm na o1 o2⟩
end L2
namespace rY
open PySem L2
def top(i:Nat):Stmt:=PySem.Challenge.pw_neverwait_k32_hands_by_rules.main.body.getD i (.Pass ⟨0,0,0,0⟩)
abbrev Dp:Stmt:=top 7
abbrev yw:Stmt:=top 8
abbrev Dq:Stmt:=top 9
abbrev Ri:Stmt:=top 11
structure Bl(mg:cr):Prop where
 Pw:mg "isinstance"=none
 int:mg "int"=none
 bool:mg "bool"=none
 tup:mg "tuple"=none
 lst:mg "list"=none
 str:mg "str"=none
 set:mg "set"=none
 len:mg "len"=none
 range:mg "range"=none
 sorted:mg "sorted"=none
 any:mg "any"=none
 max:mg "max"=none
 min:mg "min"=none
 ack:mg "ValueError"=none
 all:mg "all"=none
def Kg(K:a_)(H:Hp)(x:V):Prop:=∃t,O8 K H x t/\(W.kitOne K t (.type "int")=some false\/(W.kitOne K t (.type "int")=some true/\W.kitOne K t (.type "bool")=some true))
theorem AI:W.kitOne K (.type "int") (.type "int")=some true:=by kernel_rfl
theorem pQ:W.kitOne K (.type "int") (.type "bool")=some false:=by kernel_rfl
inductive Wh (K:a_) (H:Hp):V->Option Int->Prop where
 |int (i:Int):Wh K H (.int i) (some i)
 |no {x:V} (h:Kg K H x):Wh K H x none
def pR(K:a_):Sp:=fun vs H Q _=>∃x o,vs=[x]/\Wh K H x o/\Q (.bl o.isSome) H
section
variable {P:bL} {w:World} {K:a_} {mg:cr} {base:Heap}
theorem M_:aN ["thing"] ["thing"] (aw Dp):=dW (by decide +kernel)
theorem Kh(F:iH K "is_whole" "is_whole" Dp f fd)(B:Bl mg):bU P w K mg base bo 1 f fd ["thing"] (pR K):=by
 refine F.ok M_ (fun vs H Q E h=>?_) (fun fX A outer s H vs Q E hr h=>?_)
 .obtain⟨x,o,rfl,_⟩:=h;rfl
 .obtain⟨x,o,rfl,W,k⟩:=h;refine⟨_,av (bh (l4 (aJ jf (by rfl) B.Pw rH (aa (pv 0) (aa (kZ (v:=.ty "int") rfl B.int PyProof.Rows.boot_int rfl) ag)))
   (qP (IP (aJ jf (by rfl) B.Pw rH (aa (pv 0) (aa (kZ (v:=.ty "bool") rfl B.bool PyProof.Rows.boot_bool rfl) ag))))))),?_⟩
  cases W with
  |int i=>
   refine⟨_,rfl,_,_,_,.type "int",true,rfl,⟨rfl,AI⟩,.of (.int _),true,rfl,?_⟩;exact⟨_,rfl,_,_,_,.type "int",false,rfl,⟨rfl,pQ⟩,.of (.int _),false,rfl,k⟩
  |no h=>
   obtain⟨t,ty,h|⟨h1,h2⟩⟩:=h
   .exact⟨_,rfl,_,_,_,t,false,rfl,⟨rfl,h⟩,ty,false,rfl,k⟩
   .refine⟨_,rfl,_,_,_,t,true,rfl,⟨rfl,h1⟩,ty,true,rfl,?_⟩;exact⟨_,rfl,_,_,_,t,true,rfl,⟨rfl,h2⟩,ty,true,rfl,k⟩
def jV(o:lr)(lo hi:Int):Bool:=match o with
 |some i=>decide (lo<=i)&&decide (i<=hi)
 |none=>false
def pS(K:a_):Sp:=fun vs H Q _=>∃x o lo hi,vs=[x,.int lo,.int hi]/\Wh K H x o/\Q (.bl (jV o lo hi)) H
theorem Ki:aN ["thing","least","most"] ["thing","least","most"] (aw yw):=dW (by decide +kernel)
theorem Hb(F:iH K "is_whole_within" "is_whole_within" yw f fd)(W:d9 P w K mg base bo 1 "is_whole" ["thing"] (pR K)):bU P w K mg base bo 2 f fd ["thing","least","most"] (pS K):=by
 refine F.ok Ki (fun vs H Q E h=>?_) (fun fX A outer s H vs Q E hr h=>?_)
 .obtain⟨x,o,lo,hi,rfl,_⟩:=h;rfl
 .obtain⟨x,o,lo,hi,rfl,wh,k⟩:=h;refine⟨_,av (bh (l4 (aH W hr aM (aa (pv 0) ag)) (qP (IX O4 O4 (pv 1) (pv 0) (pv 2))))),?_⟩;refine⟨_,rfl,x,o,rfl,wh,?_⟩;cases wh with
  |no h=>exact⟨false,rfl,k⟩
  |int i=>
   refine⟨true,rfl,_,rfl,_,rfl,_,_,rfl,rfl,_,rfl,?_⟩;show if decide (lo<=i)=true then _ else _
   have k':Q (.bl (decide (lo<=i)&&decide (i<=hi))) H:=k;by_cases h:lo<=i
   .rw[iN h] at k' |-;exact⟨_,rfl,_,_,rfl,rfl,k'⟩
   .rw[gY h] at k' |-;exact k'
def tV(K:a_):Sp:=fun vs H Q _=>∃x o n,vs=[.int n,x]/\Wh K H x o/\Q (.bl (jV o 0 (n-1))) H
theorem Na:aN ["many","thing"] ["many","thing"] (aw Dq):=dW (by decide +kernel)
theorem Kj(F:iH K "is_house" "is_house" Dq f fd)(W:d9 P w K mg base bo 2 "is_whole_within" ["thing","least","most"] (pS K)):bU P w K mg base bo 3 f fd ["many","thing"] (tV K):=by
 refine F.ok Na (fun vs H Q E h=>?_) (fun fX A outer s H vs Q E hr h=>?_)
 .obtain⟨x,o,n,rfl,_⟩:=h;rfl
 .obtain⟨x,o,n,rfl,wh,k⟩:=h;refine⟨_,av (bh (aH W hr aM (aa (pv 1) (aa az (aa (a9 k6 (pv 0) az) ag))))),?_⟩;exact⟨_,rfl,_,rfl,_,_,rfl,rfl,x,o,0,n-1,rfl,wh,k⟩
inductive Rw (K:a_) (H:Hp):V->Option (List V)->Prop where
 |tup {p:Addr} {xs:bg} (h:H p=some (.tup xs)):Rw K H (.ref p) (some xs)
 |no {x:V} {t:Value} (ty:O8 K H x t) (h:W.kitOne K t (.type "tuple")=some false):Rw K H x none
def Wk(o:Option (List V))(m:Int):Bool:=match o with
 |some xs=>decide ((xs.length:Int)=m)
 |none=>false
theorem yx:W.kitOne K (.type "tuple") (.type "tuple")=some true:=by kernel_rfl
def Kk(K:a_):Sp:=fun vs H Q _=>∃x o m,vs=[x,.int m]/\Rw K H x o/\Q (.bl (Wk o m)) H
theorem Wl:aN ["thing","length"] ["thing","length"] (aw Ri):=dW (by decide +kernel)
theorem Rj(F:iH K "is_row" "is_row" Ri f fd)(B:Bl mg):bU P w K mg base bo 1 f fd ["thing","length"] (Kk K):=by
 refine F.ok Wl (fun vs H Q E h=>?_) (fun fX A outer s H vs Q E hr h=>?_)
 .obtain⟨x,o,m,rfl,_⟩:=h;rfl
 .obtain⟨x,o,m,rfl,W,k⟩:=h;refine⟨_,av (bh (l4 (aJ jf (by rfl) B.Pw rH (aa (pv 0) (aa (kZ (v:=.ty "tuple") rfl B.tup oX rfl) ag)))
   (qP (pe iQ (aJ aV (by rfl) B.len fc (aa (pv 0) ag)) (pv 1) (bp _))))),?_⟩
  cases W with
  |@tup p xs h=>
   refine⟨_,rfl,_,_,_,.type "tuple",true,rfl,⟨rfl,yx⟩,.of (.tup h),true,rfl,?_⟩;refine⟨_,rfl,_,_,rfl,.inr (cu.of h),_,rfl,rfl,?_⟩;have e:decide (V.int ((xs.length:Nat):Int)=V.int m)=decide (((xs.length:Nat):Int)=m):=by simp
   rw[e];exact k
  |no ty h=>exact⟨_,rfl,_,_,_,_,false,rfl,⟨rfl,h⟩,ty,false,rfl,k⟩
theorem bj(s:aI H H')(hD:H D=none):aI H (upd H' D o):=fun b u e=>by rw[aq (am e hD)];exact s b u e
abbrev IV(ns:dG):List V:=ns.map V.int
abbrev NV(ns:aQ):List V:=ns.map fun (x:Nat)=>V.int (x:Int)
theorem aak(Gy Gn:rL)(hy:∀H,Gy H->t D σ H)(hn:∀H,Gn H->u D σ H)(ht:∀Y N:Hp->Prop,(∀H,Gy H->Y H)->(∀H,Gn H->N H)->c σ H fun b H1=>if b=true then Y H1 else N H1):U1 c t u D σ H:=ht _ _ hy hn
theorem wX(G:ir)(hr:∀σ H,G σ H->u D σ H)(ht:∀N:St->Hp->Prop,(∀σ H,G σ H->N σ H)->t { D with nx:=N } σ H):UY t u D σ H:=ht _ hr
abbrev Zs:=List (Addr×(Int×Int))
abbrev oQ(u:lF):HO:=.tup [.int u.1,.int u.2]
def zr(zs:Zs):List V:=zs.map fun z=>V.ref z.1
def zp(zs:Zs):List (Int×Int):=zs.map (·.2)
def PO(H:Hp)(zs:Zs):Prop:=∀z∈zs,H z.1=some (oQ z.2)
theorem eO:zr (a++b)=zr a++zr b:=dt
theorem eQ:zp (a++b)=zp a++zp b:=dt
theorem dZ:(zr a).length=a.length:=aT _
theorem b_:(zp a).length=a.length:=aT _
theorem iX:zr a=(a.map (·.1)).map V.ref:=by unfold zr;rw[dQ];rfl
theorem vq{zs:Zs}{i:Nat}{x:V}(h:(zr zs)[i]?=some x):∃z,zs[i]?=some z/\x=.ref z.1:=by
 unfold zr at h;rw[cA] at h;cases e:zs[i]? with
 |none=>rw[e] at h;cases h
 |some z=>rw[e] at h;exact⟨z,rfl,(cB h).symm⟩
theorem PO.nil:PO H []:=fun z hz=>(nomatch hz)
theorem PO.same(h:PO H zs)(s:aI H H'):PO H' zs:=fun z hz=>s _ _ (h z hz)
theorem PO.putL(h:PO H zs)(e:H D=some (.lst xs)):PO (upd H D o) zs:=fun z hz=>by
 have:=h z hz;rw[aq (by rintro rfl;rw[e] at this;cases this)];exact this
theorem PO.putN(h:PO H zs)(e:H D=none):PO (upd H D o) zs:=h.same (aj e)
theorem PO.append(h:PO H a)(h':PO H b):PO H (a++b):=fun z hz=>(cL.mp hz).elim (h z) (h' z)
theorem PO.one(h:H p=some (oQ u)):PO H [(p,u)]:=fun z hz=>by rw[dA.mp hz];exact h
theorem AJ{zs:Zs}{i:Nat}(h:i<zs.length):(zs.map (·.1)).getD i 0=zs[i].1:=by
 rw[cw,cA,cz h];rfl
theorem E8(h:i<zs.length):(zp zs).getD i (0,0)=zs[i].2:=by
 unfold zp;rw[cw,cA,cz h];rfl
theorem Hl{H:Hp}{zs:Zs}(ho:PO H zs){as:bR}(h:as.Perm (zs.map (·.1))):∃jx:Zs,jx.Perm zs/\as=jx.map (·.1):=by
 classical
 let f:Addr->Int×Int:=fun a=>match H a with
  |some (.tup [.int x,.int y])=>(x,y)
  |_=>(0,0)
 have e:(zs.map (·.1)).map (fun a=>(a,f a))=zs:=by
  rw[dQ];conv=>rhs;rw[<-kX zs]
  refine j5 fun z hz=>?_;have:=ho z hz;show (z.1,f z.1)=z;have e2:f z.1=z.2:=by
   show (match H z.1 with|some (.tup [.int x,.int y])=>(x,y)|_=>(0,0))=z.2;rw[this]
  rw[e2]
 refine⟨as.map fun a=>(a,f a),?_,?_⟩
 .have:=h.map (fun a=>(a,f a));rw[e] at this;exact this
 .rw[dQ];exact(kX as).symm
abbrev Ord(us:oW):Prop:=us=us
theorem Nb{K:a_}{H:Hp}{l:Addr}{zs:Zs}{Q:VK}(hl:H l=some (.lst (zr zs)))(ho:PO H zs)(hz:zs.length<=4096)(hb:∀u∈zp zs,0<=u.2/\u.2<64)(q:∀ (D:Addr) (jx:Zs),H D=none->jx.Perm zs->Ord (zp jx)->Q (.ref D) (upd H D (.lst (zr jx)))):JO K [.ref l] H Q:=by
 refine⟨l,zs.map (·.1),rfl,a8.of (by rw[<-iX];exact hl),fun a ha=>?_,by rw[aT];exact hz,fun D ny hD hp=>?_⟩
 .obtain⟨z,hz,rfl⟩:=bB.mp ha;exact⟨_,_,cu.of (ho z hz)⟩
 .obtain⟨jx,h1,rfl⟩:=Hl ho hp;rw[<-iX];exact q D jx hD h1 rfl
theorem AK(F:Nat->Int×Int)(c_:rM)(hD:H0 D=none)(hn:n<=100000)(h0:c_ σB)(hs:∀i σ H (R:j9) (Kf:ir),i<n->c_ σ->aI H0 H->(∀σ2 p,c_ σ2->H p=none->R (.ref p) σ2 (upd H p (oQ (F i))))->g (.int (lo+i)) σ H fun σ2 H2=>tt σ2 H2 fun b H3=>if b=true then te σ2 H3 fun v H4=>R v σ2 H4 else Kf σ2 H3)(hd:∀zs H,aI H0 H->H D=some (.lst (zr zs))->PO H zs->zp zs=(List.range n).map F->(∀z∈zs,H0 z.1=none)->d_ H):ix (HV lo n) g tt te D d_ σB (upd H0 D (.lst [])):=by
 refine fJ (fun i ys σ H=>c_ σ/\aI H0 H/\H D=some (.lst ys)/\∃zs:Zs,ys=zr zs/\PO H zs/\zp zs=(List.range i).map F/\∀z∈zs,H0 z.1=none) ⟨h0,aj hD,ae,[],rfl,PO.nil,rfl,fun z hz=>nomatch hz⟩ ?_ ?_
 .rintro i ys σ H Kt Kf hi ⟨sh,sm,kC,zs,rfl,po,ep,fr⟩ kt kf;have hl:zs.length=i:=by rw[<-b_,ep,aT,dk]
  refine hs i σ H Kt Kf hi sh sm (fun σ2 p yy hp=>?_)
  .have nD:D≠p:=am kC hp;refine kt _ _ _ (by rw[aq nD];exact kC) (by rw[dZ,hl];exact bv hi (aZ hn (by decide))) ⟨yy,bj (sm.trans (aj hp)) hD,ae,zs++[(p,F i)],?_,?_,?_,?_⟩
   .rw[eO];rfl
   .refine PO.putL (xs:=zr zs) ?_ (by rw[aq nD];exact kC);exact(po.putN hp).append (PO.one ae)
   .rw[eQ,ep,lu,dt];rfl
   .intro z hz;rcases cL.mp hz with z'|z'
    .exact fr z z'
    .rw[dA.mp z'];exact sm.free hp
 .rintro ys σ H ⟨_,sm,kC,zs,rfl,po,ep,fr⟩;exact hd zs H sm kC po ep fr
theorem vt{K:a_}{a D:Addr}{Dr:Zs}{g:TG}{tt:TT}{te:TE}{d_:rL}{σB:St}{H0:Hp}(F:Int×Int->Int×Int)(c_:rM)(ha:H0 a=some (.lst (zr Dr)))(Px:PO H0 Dr)(hD:H0 D=none)(hn:Dr.length<=100000)(h0:c_ σB)(hs:∀z σ H (R:j9) (Kf:ir),z∈Dr->c_ σ->aI H0 H->H z.1=some (oQ z.2)->(∀σ2 p,c_ σ2->H p=none->R (.ref p) σ2 (upd H p (oQ (F z.2))))->g (.ref z.1) σ H fun σ2 H2=>tt σ2 H2 fun b H3=>if b=true then te σ2 H3 fun v H4=>R v σ2 H4 else Kf σ2 H3)(hd:∀zs H,aI H0 H->H D=some (.lst (zr zs))->PO H zs->zp zs=(zp Dr).map F->(∀z∈zs,H0 z.1=none)->d_ H):ix (IU K a) g tt te D d_ σB (upd H0 D (.lst [])):=by
 refine fZ (xs:=zr Dr) (fun i ys σ H=>c_ σ/\aI H0 H/\H D=some (.lst ys)/\∃zs:Zs,ys=zr zs/\PO H zs/\zp zs=((zp Dr).take i).map F/\∀z∈zs,H0 z.1=none) ⟨h0,aj hD,ae,[],rfl,PO.nil,rfl,fun z hz=>nomatch hz⟩ (fun i ys σ H _ z=>a8.of (z.2.1 _ _ ha)) ?_ ?_
 .rintro i x ys σ H Kt Kf hx ⟨sh,sm,kC,zs,rfl,po,ep,fr⟩ kt kf;obtain⟨z,hz,rfl⟩:=vq hx;have hi:i<Dr.length:=(eR.mp hz).1;have Py:z∈Dr:=dz hz;have hl:zs.length=i:=by rw[<-b_,ep,aT,kK,b_];lia
  refine hs z σ H Kt Kf Py sh sm (sm _ _ (Px z Py)) (fun σ2 p yy hp=>?_)
  .have nD:D≠p:=am kC hp;refine kt _ _ _ (by rw[aq nD];exact kC) (by rw[dZ,hl];exact bv hi (aZ hn (by decide))) ⟨yy,bj (sm.trans (aj hp)) hD,ae,zs++[(p,F z.2)],?_,?_,?_,?_⟩
   .rw[eO];rfl
   .refine PO.putL (xs:=zr zs) ?_ (by rw[aq nD];exact kC);exact(po.putN hp).append (PO.one ae)
   .have e2:(zp Dr)[i]?=some z.2:=by unfold zp;rw[cA,hz];rfl
    rw[eQ,ep,gW,e2,BR,dt];rfl
   .intro z hz;rcases cL.mp hz with z'|z'
    .exact fr z z'
    .rw[dA.mp z'];exact sm.free hp
 .rintro ys σ H ⟨_,sm,kC,zs,rfl,po,ep,fr⟩;rw[dZ,<-b_,i_] at ep;exact hd zs H sm kC po ep fr
theorem Ds{H:Hp}{zs:Zs}(ho:PO H zs):∃g:Addr->Int×Int,(∀z∈zs,g z.1=z.2)/\∀ {as:bR},as.Perm (zs.map (·.1))->∃jx:Zs,jx.Perm zs/\as=jx.map (·.1):=by
 classical
 let f:Addr->Int×Int:=fun a=>match H a with
  |some (.tup [.int x,.int y])=>(x,y)
  |_=>(0,0)
 have e2:∀z∈zs,f z.1=z.2:=fun z hz=>by
  show (match H z.1 with|some (.tup [.int x,.int y])=>(x,y)|_=>(0,0))=z.2;rw[ho z hz]
 have e:(zs.map (·.1)).map (fun a=>(a,f a))=zs:=by
  rw[dQ];conv=>rhs;rw[<-kX zs]
  refine j5 fun z hz=>?_;show (z.1,f z.1)=z;rw[e2 z hz]
 refine⟨f,e2,fun {as} h=>⟨as.map fun a=>(a,f a),?_,?_⟩⟩
 .have:=h.map (fun a=>(a,f a));rw[e] at this;exact this
 .rw[dQ];exact(kX as).symm
abbrev Rk(us:oW):Prop:=us.Pairwise fun u v=>pk u<=pk v
theorem Kl{K:a_}{H:Hp}{l:Addr}{zs:Zs}{Q:VK}(hl:H l=some (.lst (zr zs)))(ho:PO H zs)(hz:zs.length<64)(hb:∀u∈zp zs,0<=u.2/\u.2<64)(up:(zp zs).Pairwise fun u v=>u.2<v.2)(q:∀ (D:Addr) (jx:Zs),H D=none->jx.Perm zs->Rk (zp jx)->Q (.ref D) (upd H D (.lst (zr jx)))):JR K [.ref l] H Q:=by
 obtain⟨g,hg,aal⟩:=Ds ho;refine⟨l,zs.map (·.1),g,rfl,a8.of (by rw[<-iX];exact hl),fun a ha=>?_,by rw[aT];exact hz,?_,fun D ny hD hp so=>?_⟩
 .obtain⟨z,hz,rfl⟩:=bB.mp ha;rw[hg z hz];exact⟨cu.of (ho z hz),hb _ (bB.mpr ⟨z,hz,rfl⟩)⟩
 .refine gk.mpr ((gk.mp up).imp_of_mem fun {a b} ha hb h=>?_);rw[hg a ha,hg b hb];exact h
 .obtain⟨jx,h1,rfl⟩:=aal hp;rw[<-iX];refine q D jx hD h1 ?_;unfold zp Rk;rw[gk] at so |-;refine so.imp_of_mem fun {a b} ha hb h=>?_;rw[hg a (h1.mem_iff.mp ha),hg b (h1.mem_iff.mp hb)] at h;exact h
open lj
abbrev E9:Stmt:=gw (top 31) 0
abbrev Rm:Stmt:=gw (top 31) 3
abbrev Rn:Stmt:=gw (top 31) 4
abbrev Km:Stmt:=gw (top 31) 6
abbrev Dt:Stmt:=gw (top 31) 8
theorem n12:¬ (("house_count":Str)="tie_list"):=by decide +kernel
theorem n13:¬ (("house_count":Str)="out_lists"):=by decide +kernel
theorem n14:¬ (("house_count":Str)="distances"):=by decide +kernel
theorem n34:¬ (("out_lists":Str)="distances"):=by decide +kernel
def rp(n:Int)(tl ol ds:Addr):List (Str×V):=eY "distances" (.ref ds) (eY "out_lists" (.ref ol) (eY "tie_list" (.ref tl) (eY "house_count" (.int n) [])))
theorem Nd(n:Int)(tl ol ds:Addr):(rp n tl ol ds).lookup ("house_count":Str)=some (.int n):=by
 unfold rp;rw[bS,ao n14,bS,ao n13,bS,ao n12,bS,ap rfl]
theorem tW(n:Int)(tl ol ds:Addr){m:Str}(h1:¬ m="house_count")(h2:¬ m="tie_list")(h3:¬ m="out_lists")(h4:¬ m="distances"):(rp n tl ol ds).lookup m=none:=by
 unfold rp;rw[bS,ao h4,bS,ao h3,bS,ao h2,bS,ao h1];all_goals rfl
theorem E_(n:Int)(tl ol ds:Addr):(rp n tl ol ds).lookup ("out_lists":Str)=some (.ref ol):=by
 unfold rp;rw[bS,ao n34,bS,ap rfl]
theorem Fa(n:Int)(tl ol ds:Addr):(rp n tl ol ds).lookup ("distances":Str)=some (.ref ds):=by
 unfold rp;rw[bS,ap rfl]
def bK(H:Hp)(L:iP)(l:Addr)(n:Nat)(r:Nat->List Nat):Prop:=∃bs:List Addr,H l=some (.lst (bs.map V.ref))/\(∀b∈bs,L b)/\Holds H bs n (fun h=>.lst (NV (r h)))
theorem bK.keep(R:bK H L l n r)(hl:L l)(k:∀b o,L b->H b=some o->H' b=some o):bK H' L l n r:=
 let ⟨bs,a,b,c⟩:=R
 ⟨bs,k _ _ hl a,b,c.mono fun j hj e=>k _ _ (b _ (by rw[cw,cz (by rw[c.1];exact hj)];exact ie _)) e⟩
theorem bK.row(R:bK H L l n r)(hh:h<n):∃ (bs:bR) (b:Addr),H l=some (.lst (bs.map V.ref))/\(bs.map V.ref)[h]?=some (V.ref b)/\H b=some (.lst (NV (r h)))/\L b:=by
 obtain⟨bs,a,b,c⟩:=R;have hl:h<bs.length:=by rw[c.1];exact hh
 refine⟨bs,bs[h],a,by rw[cA,cz hl];rfl,?_,b _ (ie _)⟩;have:=c.2 h hh;rw[cw,cz hl] at this;exact this
def Nf(H:Hp)(L:iP)(tl:Addr)(ts:Ts):Prop:=L tl/\∃zs:Zs,H tl=some (.lst (zr zs))/\PO H zs/\(∀z∈zs,L z.1)/\(zp zs).Perm ts/\Ord (zp zs)
theorem Nf.keep(h:Nf H L tl ts)(k:∀b o,L b->H b=some o->H' b=some o):Nf H' L tl ts:=
 let ⟨a,zs,b,c,d,e⟩:=h;⟨a,zs,k _ _ a b,fun z hz=>k _ _ (d z hz) (c z hz),d,e⟩
structure dE(C:Addr)(H:Hp)(L:iP)(p:Addr)(n:Nat)(ts:Ts):Prop where
 lD:cJ n ts
 ob:∃dx tl ol ds,H p=some (.ins C dx (rp n tl ol ds))/\L ol/\L ds/\bK H L ol n (bX n ts)/\bK H L ds n (fun h=>(List.range n).map (far ts h))/\Nf H L tl ts
theorem dE.keep(N:dE C H L p n ts)(k:∀b o,L b->H b=some o->H' b=some o)(kp:∀o,H p=some o->H' p=some o):dE C H' L p n ts:=
 let ⟨dx,tl,ol,ds,a,l1,l2,b,c,d⟩:=N.ob
 ⟨N.lD,dx,tl,ol,ds,kp _ a,l1,l2,b.keep l1 k,c.keep l2 k,d.keep k⟩
theorem dE.same(N:dE C H L p n ts)(s:aI H H'):dE C H' L p n ts:=N.keep (fun b o _ e=>s b o e) (fun o e=>s _ o e)
structure NT(K:a_)(mg:cr)(C:Addr):Prop where
 cl:HW K C
 nH:je K C "house_count"
 nT:je K C "tie_list"
 nO:je K C "out_lists"
 nD:je K C "distances"
 Ng:mg "Net"=some (.ref C)
structure jW(P:bL)(w:World)(K:a_)(mg:cr)(base:Heap)(CX:Be)(k:Nat)(C:Addr)(x:Str)(ps:bQ)(sp:Sp):Prop where
 ex:∃f fd,Qu K C x f/\lw K fd ps []/\bU P w K mg base CX k f fd ps sp
theorem Nh:aN ["self","thing"] ["self","thing"] (aw Dt):=dW (by decide +kernel)
theorem Hm{i n:Nat}(h:i<n):jV (some (i:Int)) 0 ((n:Int)-1)=true:=by unfold jV;simp;lia
def pT(C:Addr):Sp:=fun vs H Q _=>∃ (L:iP) (p:Addr) (n:Nat) (ts:Ts) (i:Nat),vs=[.ref p,.int i]/\dE C H L p n ts/\i<n/\Q .cI H
theorem Hn{f C:Addr}{fd:eA}(F:iH K "check_house" "Net.check_house" Dt f fd)(T:NT K mg C)(HH:d9 P w K mg base bo 3 "is_house" ["many","thing"] (tV K)):
  bU P w K mg base bo 4 f fd ["self","thing"] (pT C):=by
 refine F.ok Nh (fun vs H Q E h=>?_) (fun fX A outer s H vs Q E hr h=>?_)
 .obtain⟨L,p,n,ts,i,rfl,_⟩:=h;rfl
 .obtain⟨L,p,n,ts,i,rfl,N,hi,k⟩:=h;obtain⟨dx,tl,ol,ds,h1,_⟩:=N.ob;refine⟨_,av (dS (oj (jQ (aH HH hr aM (aa (k8 (pv 0) rfl) (aa (pv 1) ag))))) ff b8),?_⟩;refine⟨_,rfl,p,C,dx,_,_,rfl,h1,T.cl,T.nH,Nd _ _ _ _,_,rfl,_,some (i:Int),n,rfl,.int _,_,rfl,?_⟩;rw[Hm hi];exact jS k
theorem Ro(n:Int)(tl ol ds:Addr):(rp n tl ol ds).lookup ("check_house":Str)=none:=tW n tl ol ds (by decide +kernel) (by decide +kernel) (by decide +kernel) (by decide +kernel)
theorem Rp(n:Int)(tl ol ds:Addr):(rp n tl ol ds).lookup ("far":Str)=none:=tW n tl ol ds (by decide +kernel) (by decide +kernel) (by decide +kernel) (by decide +kernel)
theorem be:(NV xs).length=xs.length:=aT _
theorem Wm:aN ["self","house"] ["self","house"] (aw Rm):=dW (by decide +kernel)
def Du(C:Addr):Sp:=fun vs H Q _=>∃ (L:iP) (p:Addr) (n:Nat) (ts:Ts) (i:Nat),vs=[.ref p,.int i]/\dE C H L p n ts/\i<n/\∀r H',aI H H'->H r=none->H' r=some (.lst (NV (bX n ts i)))->Q (.ref r) H'
theorem Ni(F:iH K "out" "Net.out" Rm f fd)(T:NT K mg C)(B:Bl mg)(M:jW P w K mg base bo 4 C "check_house" ["self","thing"] (pT C)):
  bU P w K mg base bo 5 f fd ["self","house"] (Du C):=by
 obtain⟨fM,fdM,mM,bM,GM⟩:=M.ex;refine F.ok Wm (fun vs H Q E h=>?_) (fun fX A outer s H vs Q E hr h=>?_)
 .obtain⟨L,p,n,ts,i,rfl,_⟩:=h;rfl
 .obtain⟨L,p,n,ts,i,rfl,N,hi,k2⟩:=h;obtain⟨dx,tl,ol,ds,h1,_,_,R,_⟩:=N.ob;refine⟨_,ak (cG (eZ (pv 0) T.cl mM GM hr bM .nil aM (aa (pv 1) ag)))
   (av (bh (cU xY (by rfl) B.lst qj (aa (aX aG (k8 (pv 0) rfl) (pv 1) (fun _ _=>rfl)) ag)))),?_⟩
  refine⟨_,rfl,p,dx,_,rfl,h1,Ro _ _ _ _,_,rfl,L,p,n,ts,i,rfl,N,hi,?_⟩;obtain⟨bs,b,r1,r2,r3,_⟩:=R.row hi;exact⟨_,rfl,p,C,dx,_,_,rfl,h1,T.cl,T.nO,E_ _ _ _ _,_,rfl,ol,_,_,_,rfl,rfl,a8.of r1,aD r2,b,_,rfl,.inl (a8.of r3),fun l hl=>k2 l _ (aj hl) hl ae⟩
theorem Wn:aN ["self","one","other"] ["self","one","other"] (aw Rn):=dW (by decide +kernel)
def oB(C:Addr):Sp:=fun vs H Q _=>∃ (L:iP) (p:Addr) (n:Nat) (ts:Ts) (i j:Nat),vs=[.ref p,.int i,.int j]/\dE C H L p n ts/\i<n/\j<n/\Q (.int (far ts i j:Nat)) H
theorem Nj(F:iH K "far" "Net.far" Rn f fd)(T:NT K mg C)(M:jW P w K mg base bo 4 C "check_house" ["self","thing"] (pT C)):
  bU P w K mg base bo 5 f fd ["self","one","other"] (oB C):=by
 obtain⟨fM,fdM,mM,bM,GM⟩:=M.ex;refine F.ok Wn (fun vs H Q E h=>?_) (fun fX A outer s H vs Q E hr h=>?_)
 .obtain⟨L,p,n,ts,i,j,rfl,_⟩:=h;rfl
 .obtain⟨L,p,n,ts,i,j,rfl,N,hi,hj,k⟩:=h;obtain⟨dx,tl,ol,ds,h1,_,_,_,R,_⟩:=N.ob;refine⟨_,ak (cG (eZ (pv 0) T.cl mM GM hr bM .nil aM (aa (pv 1) ag)))
   (ak (cG (eZ (pv 0) T.cl mM GM hr bM .nil aM (aa (pv 2) ag)))
   (av (bh (aX aG (aX aG (k8 (pv 0) rfl) (pv 1) (fun _ _=>rfl)) (pv 2) (fun _ _=>rfl))))),?_⟩
  refine⟨_,rfl,p,dx,_,rfl,h1,Ro _ _ _ _,_,rfl,L,p,n,ts,i,rfl,N,hi,?_⟩;refine⟨_,rfl,p,dx,_,rfl,h1,Ro _ _ _ _,_,rfl,L,p,n,ts,j,rfl,N,hj,?_⟩;obtain⟨bs,b,r1,r2,r3,_⟩:=R.row hi;have hg:(NV ((List.range n).map (far ts i)))[j]?=some (.int (far ts i j:Nat)):=by
   rw[cA,cA,f_ hj];rfl
  exact⟨_,rfl,p,C,dx,_,_,rfl,h1,T.cl,T.nD,Fa _ _ _ _,_,rfl,ds,_,_,_,rfl,rfl,a8.of r1,aD r2,_,rfl,b,_,_,_,rfl,rfl,a8.of r3,aD hg,k⟩
abbrev Dv:Stmt:=top 32
abbrev Rq:Stmt:=top 33
abbrev Rt:Stmt:=top 34
abbrev Ru:Stmt:=top 10
theorem Wo:aN ["many","one","other"] ["many","one","other"] (aw Ru):=dW (by decide +kernel)
def Ko:Sp:=fun vs H Q _=>∃ (n a b:Int),vs=[.int n,.int a,.int b]/\0<=a/\a<n/\0<=b/\b<n/\a≠b/\Q (.bl true) H
theorem Rv(F:iH K "are_unlike_houses" "are_unlike_houses" Ru f fd)(HH:d9 P w K mg base bo 3 "is_house" ["many","thing"] (tV K)):
  bU P w K mg base bo 4 f fd ["many","one","other"] Ko:=by
 refine F.ok Wo (fun vs H Q E h=>?_) (fun fX A outer s H vs Q E hr h=>?_)
 .obtain⟨n,a,b,rfl,_⟩:=h;rfl
 .obtain⟨n,a,b,rfl,a1,a2,b1,b2,qd,k⟩:=h;refine⟨_,av (bh (l4 (aH HH hr aM (aa (pv 0) (aa (pv 1) ag))) (l4 (aH HH hr aM (aa (pv 0) (aa (pv 2) ag))) (qP (pe zO (pv 1) (pv 2) (bp _)))))),?_⟩;refine⟨_,rfl,_,rfl,_,_,n,rfl,.int a,_,rfl,?_⟩;rw[ap (show jV (some a) 0 (n-1)=true by unfold jV;simp;lia)];refine⟨_,rfl,_,rfl,_,_,n,rfl,.int b,_,rfl,?_⟩;rw[ap (show jV (some b) 0 (n-1)=true by unfold jV;simp;lia)];refine⟨_,rfl,_,rfl,rfl,?_⟩;have e:(!decide (V.int a=V.int b))=true:=by simp[qd]
  rw[e];exact k
theorem Wp:aN ["many","thing"] ["many","thing"] (aw Rq):=dW (by decide +kernel)
def Kp:Sp:=fun vs H Q _=>∃ (n:Int) (p:Addr) (a b:Int),vs=[.int n,.ref p]/\H p=some (.tup [.int a,.int b])/\0<=a/\a<n/\0<=b/\b<n/\a≠b/\Q (.bl true) H
theorem Rx(F:iH K "is_tie" "is_tie" Rq f fd)(R:d9 P w K mg base bo 1 "is_row" ["thing","length"] (Kk K))(U:d9 P w K mg base bo 4 "are_unlike_houses" ["many","one","other"] Ko):
  bU P w K mg base bo 5 f fd ["many","thing"] Kp:=by
 refine F.ok Wp (fun vs H Q E h=>?_) (fun fX A outer s H vs Q E hr h=>?_)
 .obtain⟨n,p,a,b,rfl,_⟩:=h;rfl
 .obtain⟨n,p,a,b,rfl,hp,a1,a2,b1,b2,qd,k⟩:=h;refine⟨_,av (bh (l4 (aH R (hr.mono (by decide)) aM (aa (pv 1) (aa az ag)))
   (qP (aH U hr aM (aa (pv 0) (aa (aX eN (pv 1) az (fun _ _=>rfl)) (aa (aX eN (pv 1) az (fun _ _=>rfl)) ag))))))),?_⟩
  refine⟨_,rfl,_,_,_,rfl,.tup hp,true,rfl,?_⟩;exact⟨_,rfl,_,rfl,p,_,_,_,rfl,rfl,cu.of hp,aD (j:=0) rfl,_,rfl,p,_,_,_,rfl,rfl,cu.of hp,aD (j:=1) rfl,n,a,b,rfl,a1,a2,b1,b2,qd,k⟩
theorem Fb:aN ["many","ties","tie"] ["many","ties"] (aw Dv):=dW (by decide +kernel)
theorem Kq:W.kitOne K (.type "list") (.type "list")=some true:=by kernel_rfl
structure iI(H:Hp)(l:Addr)(n:Nat)(zs:Zs):Prop where
 lD:cJ n (zp zs)
 at_:H l=some (.lst (zr zs))
 po:PO H zs
theorem iI.same(h:iI H l n zs)(s:aI H H'):iI H' l n zs:=⟨h.lD,s _ _ h.at_,h.po.same s⟩
def mR:Sp:=fun vs H Q _=>∃ (n:Nat) (l:Addr) (zs:Zs),vs=[.int n,.ref l]/\iI H l n zs/\∀H',aI H H'->Q .cI H'
theorem Kr(F:iH K "check_ties" "check_ties" Dv f fd)(B:Bl mg)(gF:∃t,mg "FEWEST_HOUSES"=some (.int 2 t))(gM:∃t,mg "MOST_HOUSES"=some (.int 32 t))(W:d9 P w K mg base bo 2 "is_whole_within" ["thing","least","most"] (pS K))(T:d9 P w K mg base bo 5 "is_tie" ["many","thing"] Kp):
  bU P w K mg base bo 6 f fd ["many","ties"] mR:=by
 obtain⟨tF,gF⟩:=gF;obtain⟨tM,gM⟩:=gM;refine F.ok Fb (fun vs H Q E h=>?_) (fun fX A outer s H vs Q E hr h=>?_)
 .obtain⟨n,l,zs,rfl,_⟩:=h;rfl
 .refine⟨_,ak (dS (oj (jQ (aH W (hr.mono (by decide)) aM (aa (pv 0) (aa (tD (v:=.int 2) rfl gF ⟨_,rfl⟩) (aa (tD (v:=.int 32) rfl gM ⟨_,rfl⟩) ag)))))) ff b8)
   (ak (dS (oj (jQ (aJ jf (by rfl) B.Pw rH (aa (pv 1) (aa (kZ (v:=.ty "list") rfl B.lst qj rfl) ag))))) ff b8)
   (ak (du eI rfl (bN (pv 1)) (aA (i:=2) Fb.nd rfl aL) (av (dS (oj (jQ (aH T hr aM (aa (pv 0) (aa (pv 2) ag))))) ff b8)))
   (av (dS (aY zO (aJ Af (by rfl) B.len fc (aa (cU (Gv rfl (by have:=hr.un;show (A.deeper _).units+8<_;lia)) (by rfl) B.set PyProof.Rows.boot_set (aa (pv 1) ag)) ag)) (aJ aV (by rfl) B.len fc (aa (pv 1) ag)) (bp _)) ff b8)))),?_⟩
  obtain⟨n,l,zs,rfl,tt,k⟩:=h;obtain⟨fi,hl,po⟩:=id tt;have n1:=fi.n1;have n2:=fi.n2;refine⟨_,rfl,_,_,2,32,rfl,.int n,_,rfl,?_⟩;rw[show jV (some (n:Int)) 2 32=true by unfold jV;simp;lia];refine jS ?_;refine⟨_,rfl,_,_,_,.type "list",true,rfl,⟨rfl,Kq⟩,.of (.lst hl),_,rfl,jS ?_⟩;refine⟨_,rfl,l,rfl,⟨_,a8.of hl⟩,eM (K:=K) (a:=l) (xs:=zr zs) (fun i σ H2=>H2=H/\∃v,σ=[some (.int n),some (.ref l),v]) ⟨rfl,none,rfl⟩ (fun i σ H2 _ ⟨e,_⟩=>by rw[e];exact a8.of hl) ?_ ?_⟩
  .rintro i x σ H2 hx ⟨rfl,v,rfl⟩;obtain⟨z,hz,rfl⟩:=vq hx;have Py:z∈zs:=dz hz;have hzp:z.2∈zp zs:=bB.mpr ⟨z,Py,rfl⟩;have r:=fi.rg _ hzp;exact⟨_,rfl,_,rfl,n,_,_,_,rfl,po z Py,r.1.1,r.1.2,r.2.1,r.2.2,fi.ne _ hzp,_,rfl,jS ⟨rfl,_,rfl⟩⟩
  .rintro σ H2 ⟨rfl,v,rfl⟩;have e8:(zp zs).length<=256:=fi.len;refine⟨_,rfl,l,zs.map (·.1),zp zs,rfl,a8.of (by rw[<-iX];exact hl),by rw[aT,b_],fun i hi=>?_,fi.nd,fun y hy=>?_,by lia,fun D hD=>?_⟩
   .rw[b_] at hi;rw[AJ hi,E8 hi];exact cu.of (po _ (ie hi))
   .have r:=fi.rg _ hy;lia
   .have nl:l≠D:=am hl hD;refine⟨D,_,rfl,ae,by lia,_,rfl,l,zr zs,rfl,.inl (a8.of (by rw[aq nl];exact hl)),rfl,_,rfl,?_⟩;have ez:(!decide (V.int (((zp zs).length:Nat):Int)=V.int (((zr zs).length:Nat):Int)))=false:=by rw[b_,dZ];simp
    rw[ez];exact jS (k _ (aj hD))
abbrev AL:Stmt:=top 35
theorem rq(S:rM)(p q:Int×Int->Int)(h:Int)(hD:H D=none)(hl:H l=some (.lst (zr zs)))(po:PO H zs)(hn:zs.length<=1000)(s0:S σB)(hg:∀z σ H2 (Kt:j9) (Kf:ir),z∈zs->S σ->H2 z.1=some (oQ z.2)->(∀σ2,S σ2->p z.2=h->Kt (.int (q z.2)) σ2 H2)->(∀σ2,S σ2->p z.2≠h->Kf σ2 H2)->
   g (.ref z.1) σ H2 fun σ2 H2=>tt σ2 H2 fun b H3=>if b=true then te σ2 H3 fun v H4=>Kt v σ2 H4 else Kf σ2 H3)(hd:d_ (upd H D (.lst (IV (((zp zs).filter fun y=>decide (p y=h)).map q))))):ix (IU K l) g tt te D d_ σB (upd H D (.lst [])):=by
 have nl:l≠D:=am hl hD;have tk:∀ {i:Nat} {z:Addr×(Int×Int)},zs[i]?=some z->(zp zs).take (i+1)=(zp zs).take i++[z.2]:=fun {i z} hz=>by
  rw[gW,show (zp zs)[i]?=some z.2 by unfold zp;rw[cA,hz];rfl];rfl
 refine fZ (xs:=zr zs) (fun i ys σ H2=>S σ/\ys=IV ((((zp zs).take i).filter fun y=>decide (p y=h)).map q)/\H2=upd H D (.lst ys)) ⟨s0,by simp,rfl⟩ (fun i ys σ H2 _ ⟨_,_,e⟩=>by rw[e];exact a8.of (by rw[aq nl];exact hl)) ?_ ?_
 .rintro i x ys σ H2 Kt Kf hx ⟨hS,ey,rfl⟩ kt kf;obtain⟨z,hz,rfl⟩:=vq hx;have Py:z∈zs:=dz hz;have hp:=po z Py;have na:z.1≠D:=am hp hD;have hi:i<zs.length:=(eR.mp hz).1;refine hg z σ _ Kt Kf Py hS (by rw[aq na];exact hp) (fun σ2 s2 e=>?_) (fun σ2 s2 e=>?_)
  .refine kt _ _ _ ae ?_ ⟨s2,?_,?_⟩
   .rw[ey,aT,aT];exact eK (iK _ _) (eK (xt _ _) (bv (show i<1000 by lia) (by decide)))
   .rw[ey,tk hz,ic,dt];have:decide (p z.2=h)=true:=by simp[e]
    simp[eU,this]
   .rw[mK]
  .refine kf _ _ ⟨s2,?_,rfl⟩;have:decide (p z.2=h)=false:=by simp[e]
   rw[ey,tk hz,ic];simp[eU,this]
 .rintro ys σ H2 ⟨_,ey,rfl⟩;rw[dZ,<-b_,i_] at ey;rw[ey];exact hd
theorem Up:(["one","other","house"]:bQ).Nodup:=by decide +kernel
theorem Fc:aN ["many","ties","house","leading_out","leading_in"] ["many","ties"] (aw Rt):=dW (by decide +kernel)
theorem Ry(F:iH K "check_balance" "check_balance" Rt f fd)(B:Bl mg)(gM:∃t,mg "MOST_TIES_OUT"=some (.int 8 t)):
  bU P w K mg base bo 1 f fd ["many","ties"] mR:=by
 obtain⟨tM,gM⟩:=gM;refine F.ok Fc (fun vs H Q E h=>?_) (fun fX A outer s H vs Q E hr h=>?_)
 .obtain⟨n,l,zs,rfl,_⟩:=h;rfl
 .obtain⟨n,l,zs,rfl,T,k⟩:=h;have fi:=T.lD;have n1:=fi.n1;have n2:=fi.n2;have e8:zs.length<=256:=by have:=fi.len;rw[b_] at this;exact this
  refine'⟨_,av (du eI rfl (b9 rfl B.range (aa (pv 0) ag)) (aA (i:=2) Fc.nd rfl cW)
   (ak (aW (i:=3) Fc.nd rfl aL (aJ aV (by rfl) B.len fc (aa ?c1 ag)))
   (ak (aW (i:=4) Fc.nd rfl aL (aJ aV (by rfl) B.len fc (aa ?c2 ag)))
   (ak (dS (aY zO (pv 3) (pv 4) (bp _)) ff b8)
   (av (dS (aY O5 (pv 3) (tD (v:=.int 8) rfl gM ⟨_,rfl⟩) (bp _)) ff b8)))))),?_⟩
  case c1=>
   refine' cQ (g:=uN K 2 (gn (bH 0) (gn (bH 1) uM))) (NB:=["one","other","house"]) (src:=[none,none,some 2]) (bz (by kernel_rfl)) rfl (bN (pv 1)) ?g ?t ?e;case g=>exact fun cl C s₃ H₃ fp=>dX (n:=2) rfl (aE (aA (i:=0) Up rfl aL cW) (aE (aA (i:=1) Up rfl aL cW) cM))
   case t=>exact fun cl C s₃ H₃ fp=>g8 (aY iQ (pv 0) (pv 2) (bp _))
   case e=>exact fun cl C s₃ H₃ fp=>pv 0
  case c2=>
   refine' cQ (g:=uN K 2 (gn (bH 0) (gn (bH 1) uM))) (NB:=["one","other","house"]) (src:=[none,none,some 2]) (bz (by kernel_rfl)) rfl (bN (pv 1)) ?g ?t ?e;case g=>exact fun cl C s₃ H₃ fp=>dX (n:=2) rfl (aE (aA (i:=0) Up rfl aL cW) (aE (aA (i:=1) Up rfl aL cW) cM))
   case t=>exact fun cl C s₃ H₃ fp=>g8 (aY iQ (pv 1) (pv 2) (bp _))
   case e=>exact fun cl C s₃ H₃ fp=>pv 1
  refine⟨_,rfl,n,rfl,by lia,by lia,eh (n:=n) (lo:=0) (fun i σ H2=>aI H H2/\∃a b c,σ=[some (.int n),some (.ref l),a,b,c]) ⟨aI.refl _,none,none,none,rfl⟩ ?_ ?_⟩
  .rintro i σ H2 hi ⟨sm,a,b,c,rfl⟩;have T2:=T.same sm;refine⟨_,rfl,l,rfl,⟨_,a8.of T2.at_⟩,fun D hD=>rq (fun σ=>∃a b,σ=[a,b,some (.int (0+(i:Int)))]) (·.1) (·.1) (0+(i:Int)) hD T2.at_ T2.po (by lia) ⟨_,_,rfl⟩ ?_ ?_⟩
   .rintro z σ H3 Kt Kf hj ⟨x,y,rfl⟩ ha kt kf;refine⟨z.1,_,rfl,cu.of ha,rfl,_,_,rfl,_,_,rfl,rfl,?_⟩;refine⟨_,rfl,_,rfl,rfl,_,rfl,?_⟩;refine gU (fun e=>?_) (fun e=>?_)
    .exact⟨_,rfl,kt _ ⟨_,_,rfl⟩ (by simpa using e)⟩
    .exact kf _ ⟨_,_,rfl⟩ (by simpa using e)
   .refine⟨D,_,rfl,.inl (a8.of ae),?_⟩;have Pu:=bj (o:=.lst (IV (((zp zs).filter fun y=>decide (y.1=0+(i:Int))).map (·.1)))) (sm.trans (aI.refl _)) (H:=H) (by cases z:H D with|none=>rfl|some o=>rw[sm _ _ z] at hD;cases hD);have T3:=T.same Pu;refine⟨_,rfl,l,rfl,⟨_,a8.of T3.at_⟩,fun D' hD'=>rq (fun σ=>∃a b,σ=[a,b,some (.int (0+(i:Int)))]) (·.2) (·.2) (0+(i:Int)) hD' T3.at_ T3.po (by lia) ⟨_,_,rfl⟩ ?_ ?_⟩
    .rintro z σ H3 Kt Kf hj ⟨x,y,rfl⟩ ha kt kf;refine⟨z.1,_,rfl,cu.of ha,rfl,_,_,rfl,_,_,rfl,rfl,?_⟩;refine⟨_,rfl,_,rfl,rfl,_,rfl,?_⟩;refine gU (fun e=>?_) (fun e=>?_)
     .exact⟨_,rfl,kt _ ⟨_,_,rfl⟩ (by simpa using e)⟩
     .exact kf _ ⟨_,_,rfl⟩ (by simpa using e)
    .refine⟨D',_,rfl,.inl (a8.of ae),?_⟩;rw[iF] at *;have q1:(IV (((zp zs).filter fun y=>decide (y.1=(i:Int))).map (·.1))).length=(IV (((zp zs).filter fun y=>decide (y.2=(i:Int))).map (·.2))).length:=by
      rw[aT,aT,aT,aT];exact fi.GY i
     have q2:(IV (((zp zs).filter fun y=>decide (y.1=(i:Int))).map (·.1))).length<=8:=by
      rw[aT,aT];exact fi.most i
     refine⟨_,rfl,_,rfl,rfl,_,rfl,?_⟩;rw[<-q1];rw[show (!decide (V.int (((IV (((zp zs).filter fun y=>decide (y.1=(i:Int))).map (·.1))).length:Nat):Int)=V.int (((IV (((zp zs).filter fun y=>decide (y.1=(i:Int))).map (·.1))).length:Nat):Int)))=false by simp];refine jS ?_;refine⟨_,rfl,_,_,rfl,rfl,_,rfl,?_⟩;rw[show decide ((((IV (((zp zs).filter fun y=>decide (y.1=(i:Int))).map (·.1))).length:Nat):Int) > 8)=false by rw[Bz];lia];exact jS ⟨Pu.trans (aj hD'),_,_,_,rfl⟩
  .rintro σ H2 ⟨sm,a,b,c,rfl⟩;exact k H2 sm
def Nk:Expr:=match (cP AL).getD 1 (.Pass ⟨0,0,0,0⟩) with
 |.Return (some (.Call _ _ (k::_) _)) _=>k.value
 |_=>.Name "x" ⟨0,0,0,0⟩
def Nl:Arguments:=match Nk with
 |.Lambda a _ _ _=>a
 |_=>{ posonlyargs:=[],args:=[],vararg:=none,kwonlyargs:=[],kw_defaults:=[],kwarg:=none,defaults:=[] }
def Nm:Expr:=match Nk with
 |.Lambda _ b _ _=>b
 |e=>e
def Wq:Scope:=match Nk with
 |.Lambda _ _ s _=>s
 |_=>{ kind:=.function,names:=[],isGenerator:=false,isCoroutine:=false }
def Rz:Pos:=match Nk with
 |.Lambda _ _ _ p=>p
 |_=>⟨0,0,0,0⟩
def Pz:Str:=("houses_out":Str)++".<locals>."++"<lambda>"
abbrev mY(Pt:Addr)(H:Hp):Prop:=dU Rz Pz Pt H
def mn(Pt:Addr)(H H':Hp):Prop:=∀b o,H b=some o->b≠Pt->H' b=some o
theorem mn.of(a:aI H H'):mn Pt H H':=fun c o h _=>a c o h
theorem mY.not(t:mY Pt H)(h:H b=some o)(n:∀ps,o≠.jo ps):b≠Pt:=by
 rintro rfl;rcases t with z|⟨c,z,_⟩ <;> · rw[h] at z;exact n _ (cB z)
theorem mY.same(t:mY Pt H)(e:aI H H'):mY Pt H':=by
 rcases t with z|⟨c,z,y⟩
 .exact .inl (e _ _ z)
 .exact .inr ⟨c,e _ _ z,e _ _ y⟩
theorem Nn{n a b h:Int}(hn:0<n)(a0:0<=a)(a1:a<n)(b0:0<=b)(b1:b<n)(e:(a-h) % n=(b-h) % n):a=b:=by
 have h1:=Int.emod_emod_of_dvd (a-h) (Int.dvd_refl n);have q:(a-b) % n=0:=by
  have:a-b=(a-h)-(b-h):=by lia
  rw[this,Int.sub_emod,e,Int.sub_self,Int.zero_emod]
 obtain⟨c,hc⟩:=Int.dvd_of_emod_eq_zero q;have c0:c=0:=by
  rcases Int.lt_trichotomy c 0 with z|z|z
  .have:n*c<=n*(-1):=Iq (by lia) (by lia);lia
  .exact z
  .have:n*1<=n*c:=Iq (by lia) (by lia);lia
 rw[c0] at hc;lia
theorem v8{ts:Ts}{h:Int}(nd:ts.Nodup):((ts.filter fun y=>decide (y.1=h)).map (·.2)).Nodup:=by
 refine L2.q8 (nd.filter _) fun x hx y hy e=>?_;have a:=(gb.mp hx).2;have b:=(gb.mp hy).2;simp at a b;exact iG (a.trans b.symm) e
theorem Ho{n:Nat}{ts:Ts}{h:Nat}(F:cJ n ts)(hh:h<n){out:dG}(ko:QT (h:Int) (n:Int) ((ts.filter fun y=>decide (y.1=(h:Int))).map (·.2)) out):out.map V.int=NV (bX n ts h):=by
 obtain⟨ps,hp,rfl,hs⟩:=ko;have Aj:(ps.map (·.2)).Perm ((ts.filter fun y=>decide (y.1=(h:Int))).map (·.2)):=by
  have:=hp.map (·.2);rw[dQ] at this;refine this.trans (lR ?_);conv=>rhs;rw[<-kX ((ts.filter fun y=>decide (y.1=(h:Int))).map (·.2))]
  rfl
 have mem:∀z,z∈ps.map (·.2)↔((h:Int),z)∈ts:=fun z=>by
  rw[Aj.mem_iff,bB];constructor
  .rintro⟨y,hy,rfl⟩;obtain⟨y1,y2⟩:=gb.mp hy;have:y.1=(h:Int):=by simpa using y2
   rw[<-this];exact y1
  .intro hz;exact⟨_,gb.mpr ⟨hz,by simp⟩,rfl⟩
 have nd:(ps.map (·.2)).Nodup:=Aj.nodup_iff.mpr (v8 F.nd);have key:∀q∈ps,q.1=(q.2-(h:Int)) % (n:Int):=fun q hq=>by
  obtain⟨z,_,e⟩:=bB.mp (hp.mem_iff.mp hq);rw[<-e]
 have hn:(0:Int)<n:=by have:=F.n1;lia
 have sorted:(ps.map (·.2)).Pairwise fun x y=>(x-(h:Int)) % (n:Int)<(y-(h:Int)) % (n:Int):=by
  refine gk.mpr ?_;have nd2:=gk.mp nd;refine(hs.and nd2).imp_of_mem fun {x y} hx hy wO=>?_;have l1:=wO.1;rw[key x hx,key y hy] at l1;have ax:=F.rg _ ((mem x.2).mp (bB.mpr ⟨x,hx,rfl⟩));have ay:=F.rg _ ((mem y.2).mp (bB.mpr ⟨y,hy,rfl⟩));have ne:(x.2-(h:Int)) % (n:Int)≠(y.2-(h:Int)) % (n:Int):=fun z=>wO.2 (Nn hn ax.2.1 ax.2.2 ay.2.1 ay.2.2 z);lia
 have e:ps.map (·.2)=(bX n ts h).map fun (o:Nat)=>(o:Int):=by
  refine rV (k:=fun z=>(z-(h:Int)) % (n:Int)) sorted ?_ fun z=>?_
  .refine gk.mpr ?_;exact rT hh
  .rw[mem,bB];constructor
   .intro hz;have r:=F.rg _ hz;refine⟨z.toNat,(jh F hh).mpr ?_,by lia⟩;show (((h:Nat):Int),((z.toNat:Nat):Int))∈ts;rw[show ((z.toNat:Nat):Int)=z by lia];exact hz
   .rintro⟨o,ho,rfl⟩;exact(jh F hh).mp ho
 rw[e,dQ];rfl
theorem Ks:aN ["many","ties","house","others"] ["many","ties","house"] (aw AL):=dW (by decide +kernel)
def yz(Pt:Addr):Sp:=fun vs H Q _=>∃ (n:Nat) (l:Addr) (h:Nat) (zs:Zs),vs=[.int n,.ref l,.int h]/\h<n/\iI H l n zs/\mY Pt H/\
 ∀ (r:Addr) (H':Hp),mY Pt H'->mn Pt H H'->H r=none->H' r=some (.lst (NV (bX n (zp zs) h)))->Q (.ref r) H'
theorem No(F:sI K "houses_out" "houses_out" AL f fd c)(B:Bl mg)(kb:K.In base)(hb:q9 mg base)(hc:W.codeHdIn K c Pt=true):
  bU P w K mg base bo 1 f fd ["many","ties","house"] (yz Pt):=by
 refine F.ok Ks (fun vs H Q E h=>?_) (fun A outer s H vs Q E hr h=>?_)
 .obtain⟨n,l,h,zs,rfl,_⟩:=h;rfl
 .obtain⟨n,l,h,zs,rfl,hh,T,tb,k⟩:=h;have fi:=T.lD;have n1:=fi.n1;have e8:zs.length<=256:=by have:=fi.len;rw[b_] at this;exact this
  have LS:VM (l8 bo P w K mg base ["many","ties","house","others"] "houses_out" (aw AL) f (.ref c) A outer s H E).Bd Pz Nl Nm Wq "other" "house" "many" 2 0:=
   ⟨⟨_,_,_,_,_,rfl⟩,fun _ _ _ _ _=>rfl,rfl,rfl,rfl,rfl,rfl,rfl,rfl,by decide +kernel,by decide +kernel,by decide +kernel,rfl,rfl,rfl,by decide,⟨by decide,by decide⟩,⟨by decide,by decide⟩⟩
  refine'⟨_,ak (fE (i:=3) (g:=uN K 2 (gn (bH 0) (gn (bH 1) uM))) (NB:=["one","other","house"]) (src:=[none,none,some 2]) (bz (by kernel_rfl)) rfl (bN (pv 1)) ?g ?t ?e Ks.nd rfl rfl rfl)
   (av (bh (km (C2 LS hr) rfl B.sorted nF (aa (pv 3) ag) (ph (u8 (NB:=["other","house","many"]) (src:=[none,some 2,some 0]) (pG kb hb hc) (bz (by kernel_rfl))) uR)))),?_⟩
  case g=>exact fun cl C s₃ H₃ fp=>dX (n:=2) rfl (aE (aA (i:=0) Up rfl aL cW) (aE (aA (i:=1) Up rfl aL cW) cM))
  case t=>exact fun cl C s₃ H₃ fp=>g8 (aY iQ (pv 0) (pv 2) (bp _))
  case e=>exact fun cl C s₃ H₃ fp=>pv 1
  refine⟨_,rfl,l,rfl,⟨_,a8.of T.at_⟩,fun D hD=>rq (fun σ=>∃a b,σ=[a,b,some (.int (h:Int))]) (·.1) (·.2) (h:Int) hD T.at_ T.po (by lia) ⟨_,_,rfl⟩ ?_ ?_⟩
  .rintro z σ H3 Kt Kf hj ⟨x,y,rfl⟩ ha kt kf;refine⟨z.1,_,rfl,cu.of ha,rfl,_,_,rfl,_,_,rfl,rfl,?_⟩;refine⟨_,rfl,_,rfl,rfl,_,rfl,?_⟩;refine gU (fun e=>?_) (fun e=>?_)
   .exact⟨_,rfl,kt _ ⟨_,_,rfl⟩ (by simpa using e)⟩
   .exact kf _ ⟨_,_,rfl⟩ (by simpa using e)
  .generalize LU:((zp zs).filter fun y=>decide (y.1=(h:Int))).map (·.2)=os;have Ie:os.length<=8:=by rw[<-LU,aT];exact fi.most h
   have sm:aI H (upd H D (.lst (IV os))):=aj hD;refine⟨_,rfl,tb.same sm,fun f' c' H2 t2' iz zD z9=>?_⟩;have t2:mY Pt H2:=t2';have jy:H2 D=some (.lst (IV os)):=iz _ _ ae ((tb.same sm).not ae nofun);refine⟨D,f',c',os,h,n,rfl,rfl,a8.of jy,(by lia),z9,zD,rfl,rfl,by lia,fun r out CQ ko=>?_⟩;rw[<-LU] at ko;rw[Ho fi hh ko];have Pu:aI H2 (upd H2 r (.lst (NV (bX n (zp zs) h)))):=aj CQ;refine k r _ (t2.same Pu) (fun b o e hb=>Pu _ _ (iz b o (sm _ _ e) hb)) ?_ ae;cases z:H r with
   |none=>rfl
   |some o=>
    by_cases hP:r=Pt
    .rcases t2 with q|⟨_,q,_⟩ <;> · rw[<-hP,CQ] at q;cases q
    .rw[iz r o (sm _ _ z) hP] at CQ;cases CQ
abbrev Ku:Stmt:=top 36
abbrev Dw:Stmt:=top 37
def iA(n:Nat)(R:aQ)(f:t8):List V:=(List.range n).map fun x=>if x∈R then V.int ((f x:Nat):Int) else .cI
theorem kD:(iA n R f).length=n:=by unfold iA;rw[aT,dk]
theorem jj(h:x<n):(iA n R f)[x]?=some (if x∈R then V.int ((f x:Nat):Int) else .cI):=by
 unfold iA;rw[cA,f_ h];rfl
theorem vv(hs:s<n):(List.replicate n V.cI).set s (V.int 0)=iA n [s] (fun _=>0):=by
 apply lK;intro x;by_cases hx:x<n
 .rw[jj hx];by_cases e:x=s
  .subst e;rw[qo (by rw[i9];exact hx),ap (by simp)];rfl
  .rw[qp (fun z=>e z.symm),t_,ap hx,ao (by simp[e])]
 .rw[f9 (by rw[ja,i9];lia),f9 (by rw[kD];lia)]
theorem AM(hv:v<n):(iA n R f).set v (V.int ((k:Nat):Int))=iA n (R++[v]) (put f v k):=by
 apply lK;intro x;by_cases hx:x<n
 .rw[jj hx];by_cases e:x=v
  .subst e;rw[qo (by rw[kD];exact hx),ap (by simp),ky]
  .rw[qp (fun z=>e z.symm),jj hx,hW e];by_cases h:x∈R
   .rw[ap h,ap (gC _ h)]
   .rw[ao h,ao (fun z=>(cL.mp z).elim h fun z=>e (by simpa using z))]
 .rw[f9 (by rw[ja,kD];lia),f9 (by rw[kD];lia)]
def Wr(σ:St):Nat:=match σ[4]? with
 |some (some (V.int z))=>z.toNat
 |_=>0
theorem nbO:(["others"]:bQ).Nodup:=by decide +kernel
def vw(H:Hp)(ol:Addr)(n:Nat)(ts:Ts):Prop:=∃bs:List Addr,H ol=some (.lst (bs.map V.ref))/\Holds H bs n (fun h=>.lst (NV (bX n ts h)))
theorem vw.same(x:vw H ol n ts)(e:aI H H'):vw H' ol n ts:=let ⟨bs,a,b⟩:=x;⟨bs,e _ _ a,b.mono fun _ _ z=>e _ _ z⟩
theorem PD{as:bR}{i:Nat}{x:V}(h:(as.map V.ref)[i]?=some x):i<as.length/\x=.ref (as.getD i 0):=by
 rw[cA] at h;cases e:as[i]? with
 |none=>rw[e] at h;cases h
 |some a=>
  rw[e] at h;refine⟨(eR.mp e).1,?_⟩;rw[cw,e];exact(cB h).symm
theorem oC:aN ["out_lists","start","distances","reached","at","house","other"] ["out_lists","start"] (aw Ku):=dW (by decide +kernel)
def yA:Sp:=fun vs H Q _=>∃ (ol:Addr) (n s:Nat) (ts:Ts),vs=[.ref ol,.int s]/\cJ n ts/\s<n/\vw H ol n ts/\
 ∀ (r:Addr) (H':Hp),aI H H'->H r=none->H' r=some (.lst (NV ((List.range n).map (far ts s))))->Q (.ref r) H'
theorem Np{f:Addr}{fd:eA}(F:iH K "distances_from" "distances_from" Ku f fd)(B:Bl mg):bU P w K mg base bo 1 f fd ["out_lists","start"] yA:=by
 refine F.ok oC (fun vs H Q E h=>?_) (fun fX A outer s H vs Q E hr h=>?_)
 .obtain⟨ol,n,s,ts,rfl,_⟩:=h;rfl
 .obtain⟨ol,n,st,ts,rfl,fi,hs,O,k⟩:=h;have n1:=fi.n1;have n2:=fi.n2;refine'⟨_,ak (fE (i:=2) (g:=bH 0) (NB:=["others"]) (src:=[none]) (bz (by kernel_rfl)) rfl (bN (pv 0)) ?g ?t ?e oC.nd rfl rfl rfl)
   (ak (d8 az (gx (pv 2) (pv 1) dY))
   (ak (aW (i:=3) oC.nd rfl aL (cH (aa (pv 1) ag)))
   (ak (aW (i:=4) oC.nd rfl aL az)
   (ak (zH eI (aY ni (pv 4) (aJ aV (by rfl) B.len fc (aa (pv 3) ag)) (bp _))
    (ak (aW (i:=5) oC.nd rfl aL (aX aG (pv 3) (pv 4) (fun _ _=>rfl)))
    (ak (du eI rfl (bN (aX aG (pv 0) (pv 5) (fun _ _=>rfl))) (aA (i:=6) oC.nd rfl aL)
     (av (dS (aY Cr (aX aG (pv 2) (pv 6) (fun _ _=>rfl)) ii (bp _))
      (ak (d8 (a9 dM (aX aG (pv 2) (pv 5) (fun _ _=>rfl)) az) (gx (pv 2) (pv 6) dY))
      (av (cG (gQ gy i8 i7 cV (pv 3) (aa (pv 6) ag))))) b8)))
    (av (Qp (i:=4) oC.nd rfl aL az Qq)))))
   (av (bh (pv 2))))))),?_⟩
  case g=>exact fun cl C s₃ H₃ fp=>aA (i:=0) nbO rfl aL cW
  case t=>exact fun cl C s₃ H₃ fp=>dC
  case e=>exact fun cl C s₃ H₃ fp=>ii
  obtain⟨bs,Ie,PJ,O9⟩:=id O;refine⟨_,rfl,ol,rfl,⟨_,a8.of Ie⟩,fun D hD=>?_⟩;have nol:ol≠D:=am Ie hD;refine fZ (xs:=bs.map V.ref) (fun i ys σ H2=>(∃a,σ=[a])/\ys=List.replicate i V.cI/\H2=upd H D (.lst ys)) ⟨⟨_,rfl⟩,rfl,rfl⟩ (fun i ys σ H2 _ ⟨_,_,e⟩=>by rw[e];exact a8.of (by rw[aq nol];exact Ie)) ?_ ?_
  .rintro i x ys σ H2 Kt Kf hx ⟨⟨a,rfl⟩,rfl,rfl⟩ kt kf;have hi:=(PD hx).1;refine kt _ _ _ ae ?_ ⟨⟨_,rfl⟩,?_,by rw[mK]⟩
   .rw[i9];exact bv hi (by rw[PJ];exact aZ n2 (by decide))
   .rw[ud]
  .rintro ys σ H2 ⟨_,rfl,rfl⟩;rw[aT,PJ];refine⟨_,rfl,_,rfl,D,_,st,st,rfl,rfl,ae,by rw[i9];exact eJ hs,?_⟩;rw[mK,vv hs];refine⟨_,rfl,by show 1<=sizeLine;decide,fun R hR=>?_⟩;have Ij:D≠R:=am (H:=upd H D (.lst (iA n [st] (fun _=>0)))) ae hR;have Nq:H R=none:=by rw[aq Ij.symm] at hR;exact hR
   refine zL (fun σ H2=>∃ (i:Nat) (Rs:aQ) (f:t8),i<=Rs.length/\Bm n ts st i Rs f/\(∃a b,σ=[some (.ref ol),some (.int st),some (.ref D),some (.ref R),some (.int (i:Int)),a,b])/\aI H H2/\H2 D=some (.lst (iA n Rs f))/\H2 R=some (.lst (NV Rs)))
    (fun σ _=>n-Wr σ) ⟨0,[st],fun _=>0,cp _,Bm.start hs,⟨none,none,rfl⟩,bj (aj hD) Nq,?_,ae⟩ ?_ ?_
   .rw[aq Ij,ae]
   .rintro σ H2 ⟨i,Rs,f,hi,Bf,⟨a,b,rfl⟩,sm,jy,v9⟩;have hRn:Rs.length<=n:=f8 Bf.nd Bf.lt;refine⟨_,rfl,_,rfl,R,_,rfl,.inl (a8.of v9),_,_,rfl,rfl,_,rfl,?_⟩;rw[be];by_cases wP:i<Rs.length
    .rw[show decide ((i:Int)<((Rs.length:Nat):Int))=true by simp;lia];refine vT ?_;have hu:Rs[i]?=some Rs[i]:=cz wP;generalize Rs[i]=u at hu;have AN:u<n:=Bf.lt u (dz hu);have huR:(NV Rs)[i]?=some (.int (u:Int)):=by rw[cA,hu];rfl
     refine⟨_,rfl,_,rfl,R,_,_,_,rfl,rfl,a8.of v9,aD huR,?_⟩;have hb1:(bs.map V.ref)[u]?=some (.ref (bs.getD u 0)):=by
      rw[cA,cw,cz (by rw[PJ];exact AN)];rfl
     have hb2:=sm _ _ (O9 _ AN);refine⟨_,rfl,_,rfl,ol,_,_,_,rfl,rfl,a8.of (sm _ _ Ie),aD hb1,_,rfl,⟨_,a8.of hb2⟩,?_⟩;have nbD:bs.getD u 0≠D:=am (O9 _ AN) hD;have nbR:bs.getD u 0≠R:=am (O9 _ AN) Nq;refine eM (K:=K) (xs:=NV (bX n ts u)) (fun j σ H3=>∃ (iY:aQ) (f':t8),Bm n ts st i iY f'/\iY[i]?=some u/\(∀v∈(bX n ts u).take j,v∈iY/\f' v<=f' u+1)/\
      (∃b,σ=[some (.ref ol),some (.int st),some (.ref D),some (.ref R),some (.int (i:Int)),some (.int (u:Int)),b])/\aI H H3/\H3 D=some (.lst (iA n iY f'))/\H3 R=some (.lst (NV iY)))
      ⟨Rs,f,Bf,hu,fun v hv=>by simp at hv,⟨_,rfl⟩,sm,jy,v9⟩ (fun j σ H3 _ ⟨_,_,_,_,_,_,Hq,_⟩=>a8.of (Hq _ _ (O9 _ AN))) ?_ ?_
     .rintro j x σ H3 hx ⟨iY,f',yB,sw,dn,⟨b',rfl⟩,Hq,pU,Bk⟩;rw[cA] at hx;cases hv:(bX n ts u)[j]? with
      |none=>rw[hv] at hx;cases hx
      |some v=>
       rw[hv] at hx;obtain rfl:V.int ((v:Nat):Int)=x:=cB hx;have RB:v∈bX n ts u:=dz hv;have Kv:v<n:=tR fi AN RB;have tuv:T ts u v:=(jh fi AN).mp RB;have tk:(bX n ts u).take (j+1)=(bX n ts u).take j++[v]:=by rw[gW,hv];rfl
       have Kw:u∈iY:=dz sw;refine⟨_,rfl,_,rfl,D,_,_,_,rfl,rfl,a8.of pU,aD (jj Kv),rfl,_,rfl,?_⟩;by_cases Dx:v∈iY
       .rw[ap Dx];refine jS ⟨iY,f',yB,sw,fun x hx=>?_,⟨_,rfl⟩,Hq,pU,Bk⟩;rw[tk] at hx;rcases cL.mp hx with z|z
        .exact dn x z
        .simp at z;subst z;exact⟨Dx,yB.bd u sw _ Dx⟩
       .rw[ao Dx];refine vT ?_;have L3:(iA n iY f')[u]?=some (.int ((f' u:Nat):Int)):=by rw[jj AN,ap Kw]
        refine⟨_,rfl,_,rfl,D,_,_,_,rfl,rfl,a8.of pU,aD L3,_,_,rfl,rfl,_,rfl,_,rfl,D,_,_,_,rfl,rfl,pU,by rw[kD];exact eJ Kv,?_⟩;have e1:(iA n iY f').set v (.int (((f' u:Nat):Int)+1))=iA n (iY++[v]) (put f' v (f' u+1)):=by
         rw[show ((f' u:Nat):Int)+1=((f' u+1:Nat):Int) by lia,AM Kv]
        rw[e1];have tQ:(upd H3 D (.lst (iA n (iY++[v]) (put f' v (f' u+1))))) R=some (.lst (NV iY)):=by rw[aq Ij.symm];exact Bk
        have Kx:iY.length<=n:=f8 yB.nd yB.lt;refine⟨_,rfl,.inl ⟨rfl,_,a8.of tQ⟩,_,rfl,R,_,_,rfl,rfl,tQ,by rw[be];exact bv (show iY.length<33 by lia) (by decide),?_⟩;have vJ:i<iY.length:=(eR.mp sw).1;have nuv:u≠v:=fun z=>Dx (z ▸ Kw);refine⟨iY++[v],put f' v (f' u+1),yB.add sw Kv tuv Dx,by rw[j3 vJ];exact sw,fun x hx=>?_,⟨_,rfl⟩,bj (bj Hq hD) Nq,?_,?_⟩
        .rw[hW nuv];rw[tk] at hx;rcases cL.mp hx with z|z
         .obtain⟨q1,q2⟩:=dn x z;exact⟨gC _ q1,by rw[hW (fun (z:x=v)=>Dx (z ▸ q1))];exact q2⟩
         .simp at z;subst z;exact⟨by simp,by rw[ky];exact aP _⟩
        .rw[aq Ij,ae]
        .rw[ae];show _=some (HO.lst (NV (iY++[v])));rw[show NV (iY++[v])=NV iY++[.int (v:Int)] by unfold NV;rw[dt];rfl]
     .rintro σ H3 ⟨iY,f',yB,sw,dn,⟨b',rfl⟩,Hq,pU,Bk⟩;rw[be,i_] at dn;have vJ:i<iY.length:=(eR.mp sw).1;have Kx:iY.length<=n:=f8 yB.nd yB.lt;refine⟨_,rfl,_,_,rfl,rfl,⟨⟨i+1,iY,f',vJ,yB.next sw (fun v t=>dn v ((jh fi AN).mpr t)),⟨_,_,rfl⟩,Hq,pU,Bk⟩,?_⟩⟩;show n-((i:Int)+1).toNat<n-(i:Int).toNat;lia
    .rw[show decide ((i:Int)<((Rs.length:Nat):Int))=false by rw[Bz];lia];have e:iA n Rs f=NV ((List.range n).map (far ts st)):=by
      unfold iA NV;rw[dQ];refine j5 fun x hx=>?_;obtain⟨q1,q2⟩:=Bf.done fi (by lia) (bY.mp hx);rw[ap q1,q2];rfl
     rw[e] at jy;refine jS ⟨_,rfl,k D H2 sm hD jy⟩
   .rintro σ H2 Q1 Q2 imp ⟨v,e1,v2,e2,p,ys,e3,e4,i1,i2,e5,e6,kk,e7,q⟩;exact⟨v,e1,v2,e2,p,ys,e3,e4,i1,i2,e5,e6,kk,e7,imp _ _ q⟩
theorem Ws:(["row"]:bQ).Nodup:=by decide +kernel
theorem Nr:aN ["distances"] ["distances"] (aw Dw):=dW (by decide +kernel)
def yC:Sp:=fun vs H Q _=>∃ (l:Addr) (ds:bR) (n:Nat) (o:Nat->List V),vs=[.ref l]/\H l=some (.lst (ds.map V.ref))/\n<=32/\Holds H ds n (fun j=>.lst (o j))/\(∀j,j<n->∀x∈o j,∃i,x=.int i)/\∀H',aI H H'->Q .cI H'
theorem Ky(F:iH K "check_reached" "check_reached" Dw f fd)(B:Bl mg):bU P w K mg base bo 1 f fd ["distances"] yC:=by
 refine F.ok Nr (fun vs H Q E h=>?_) (fun fX A outer s H vs Q E hr h=>?_)
 .obtain⟨l,ds,n,o,rfl,_⟩:=h;rfl
 .obtain⟨l,ds,n,o,rfl,hl,n2,hh,hx,k⟩:=h;refine'⟨_,av (dS (jQ (aJ (wK rfl) (by rfl) B.any PyProof.Rows.boot_any (aa ?c ag))) ff b8),?_⟩;case c=>
   refine' cQ (g:=bH 0) (te:=jR (ZK K false) (tC .cI) (bb 0)) (NB:=["row"]) (src:=[none]) (bz (by kernel_rfl)) rfl (bN (pv 0)) ?g ?t ?e;case g=>exact fun cl C s₃ H₃ fp=>aA (i:=0) Ws rfl aL cW
   case t=>exact fun cl C s₃ H₃ fp=>dC
   case e=>exact fun cl C s₃ H₃ fp=>pe Gc ii (pv 0) rfl
  refine⟨_,rfl,l,rfl,⟨_,a8.of hl⟩,fun D hD=>?_⟩;have nl:l≠D:=am hl hD;refine fZ (xs:=ds.map V.ref) (fun i ys σ H2=>(∃a,σ=[a])/\ys=(List.replicate i false).map V.bl/\H2=upd H D (.lst ys)) ⟨⟨_,rfl⟩,rfl,rfl⟩ (fun i ys σ H2 _ ⟨_,_,e⟩=>by rw[e];exact a8.of (by rw[aq nl];exact hl)) ?_ ?_
  .rintro i x ys σ H2 Kt Kf hxi ⟨⟨a,rfl⟩,rfl,rfl⟩ kt kf;obtain⟨hi,rfl⟩:=PD hxi;rw[hh.1] at hi;have hd:=hh.2 i hi;have nd:ds.getD i 0≠D:=am hd hD;have q1:(o i).all g7=true:=kM.mpr fun x qQ=>by obtain⟨z,rfl⟩:=hx i hi x qQ;rfl
   have q2:LW .cI (o i)=false:=by
    unfold LW;rw[ur];intro x qQ;obtain⟨z,rfl⟩:=hx i hi x qQ;exact fun z=>by cases z
   refine⟨_,rfl,_,_,rfl,.inl (a8.of (by rw[aq nd];exact hd)),rfl,q1,?_⟩;refine kt _ _ _ ae ?_ ⟨⟨_,rfl⟩,?_,by rw[mK]⟩
   .rw[aT,i9];exact bv hi (aZ n2 (by decide))
   .rw[ud,dt,q2];rfl
  .rintro ys σ H2 ⟨_,rfl,rfl⟩;refine⟨D,_,rfl,a8.of ae,_,rfl,?_⟩;have e:(List.replicate (ds.map V.ref).length false).any id=false:=by
    rw[ur];intro x qQ;rw[(BS.mp qQ).2];decide
   rw[e];exact jS (k _ (aj hD))
theorem nb2:(["one","other"]:bQ).Nodup:=by decide +kernel
theorem Wt:(["house","many","ties"]:bQ).Nodup:=by decide +kernel
theorem aam:(["house","self"]:bQ).Nodup:=by decide +kernel
def pV(p Pt:Addr)(H H':Hp):Prop:=∀b o,H b=some o->b≠p->b≠Pt->H' b=some o
theorem iI.mono(h:iI H l n zs)(e:pV p Pt H H')(hp:H p=some (.ins C dx fs))(tb:mY Pt H):iI H' l n zs:=
 ⟨h.lD,e _ _ h.at_ (ig h.at_ hp (by intro z;cases z)) (tb.not h.at_ nofun),fun z hz=>e _ _ (h.po z hz) (ig (h.po z hz) hp (by intro z;cases z)) (tb.not (h.po z hz) nofun)⟩
theorem mY.mono(t:mY Pt H)(e:∀b o,H b=some o->b≠p->H' b=some o)(hp:H p=some (.ins C dx fs)):mY Pt H':=by
 rcases t with z|⟨c,z,y⟩
 .exact .inl (e _ _ z (ig z hp (by intro q;cases q)))
 .exact .inr ⟨c,e _ _ z (ig z hp (by intro q;cases q)),e _ _ y (ig y hp (by intro q;cases q))⟩
theorem mY.full(t:mY Pt H):H Pt≠none:=by
 rcases t with z|⟨c,z,y⟩ <;> rw[z] <;> intro q <;> cases q
theorem pV.free(s:pV p Pt H H')(hp:H' p≠none)(tb:mY Pt H')(h:H' r=none):H r=none:=by
 cases z:H r with
 |none=>rfl
 |some o=>
  by_cases e1:r=p
  .subst e1;exact absurd h hp
  .by_cases e2:r=Pt
   .subst e2;exact absurd h tb.full
   .rw[s r o z e1 e2] at h;cases h
theorem PL(h:k [] H):h_ σ H k:=h
theorem mS{H:Hp}{p:Addr}{o:HO}(h:H p=some o):H p≠none:=by rw[h];intro z;cases z
theorem RC:aN ["self","many","ties"] ["self","many","ties"] (aw E9):=dW (by decide +kernel)
def Dy(C Pt:Addr):Sp:=fun vs H Q E=>∃ (p dx:Addr) (n:Nat) (l:Addr) (zs:Zs),vs=[.ref p,.int n,.ref l]/\H p=some (.ins C dx [])/\iI H l n zs/\mY Pt H/\
  ∀H',dE C H' (fun a=>H a=none) p n (zp zs)->mY Pt H'->pV p Pt H H'->Q .cI H'
theorem Nt{f C Pt:Addr}{fd:eA}(F:iH K "__init__" "Net.__init__" E9 f fd)(T:NT K mg C)(B:Bl mg)(CT:d9 P w K mg base bo 6 "check_ties" ["many","ties"] mR)(CB:d9 P w K mg base bo 1 "check_balance" ["many","ties"] mR)(HO':d9 P w K mg base bo 1 "houses_out" ["many","ties","house"] (yz Pt))(DF:d9 P w K mg base bo 1 "distances_from" ["out_lists","start"] yA)(CR:d9 P w K mg base bo 1 "check_reached" ["distances"] yC):
  bU P w K mg base bo 7 f fd ["self","many","ties"] (Dy C Pt):=by
 refine F.ok RC (fun vs H Q E h=>?_) (fun fX A outer s H vs Q E hr h=>?_)
 .obtain⟨p,dx,n,l,zs,rfl,_⟩:=h;rfl
 .have Dz:df 1 _:=hr.mono (by decide);refine'⟨_,ak (cG (aH CT hr aM (aa (pv 1) (aa (pv 2) ag))))
   (ak (cG (aH CB Dz aM (aa (pv 1) (aa (pv 2) ag))))
   (ak (uQ (pv 0) (pv 1) rfl)
   (ak (uQ (pv 0) (aJ C9 (by rfl) B.sorted nF (aa ?c1 ag)) rfl)
   (ak (uQ (pv 0) ?c2 rfl)
   (ak (uQ (pv 0) ?c3 rfl)
   (av (cG (aH CR Dz aM (aa (k8 (pv 0) rfl) ag))))))))),?_⟩
  case c1=>
   refine' cQ (g:=uN K 2 (gn (bH 0) (gn (bH 1) uM))) (te:=sn (bJ (bb 0) (bJ (bb 1) h_))) (NB:=["one","other"]) (src:=[none,none]) (bz (by kernel_rfl)) rfl (bN (pv 2)) ?g ?t ?e;case g=>exact fun cl C s₃ H₃ fp=>dX (n:=2) rfl (aE (aA (i:=0) nb2 rfl aL cW) (aE (aA (i:=1) nb2 rfl aL cW) cM))
   case t=>exact fun cl C s₃ H₃ fp=>dC
   case e=>exact fun cl C s₃ H₃ fp=>bT (aa (pv 0) (aa (pv 1) ag))
  case c2=>
   refine' cQ (g:=bH 0) (te:=rN (yz Pt) [] E0 (bJ (bb 1) (bJ (bb 2) (bJ (bb 0) h_)))) (NB:=["house","many","ties"]) (src:=[none,some 1,some 2]) (bz (by kernel_rfl)) rfl (b9 rfl B.range (aa (pv 1) ag)) ?g ?t ?e;case g=>exact fun cl C s₃ H₃ fp=>aA (i:=0) Wt rfl aL cW
   case t=>exact fun cl C s₃ H₃ fp=>dC
   case e=>exact fun cl C s₃ H₃ fp=>aH HO' Dz aM (aa (pv 1) (aa (pv 2) (aa (pv 0) ag)))
  case c3=>
   refine' cQ (g:=bH 0) (te:=rN yA [] E0 (bJ (Mq K (bb 1) "out_lists") (bJ (bb 0) h_))) (NB:=["house","self"]) (src:=[none,some 0]) (bz (by kernel_rfl)) rfl (b9 rfl B.range (aa (pv 1) ag)) ?g ?t ?e;case g=>exact fun cl C s₃ H₃ fp=>aA (i:=0) aam rfl aL cW
   case t=>exact fun cl C s₃ H₃ fp=>dC
   case e=>exact fun cl C s₃ H₃ fp=>aH DF Dz aM (aa (k8 (pv 1) rfl) (aa (pv 0) ag))
  obtain⟨p,dx,n,l,zs,rfl,hp,TT,tb,k⟩:=h;have fi:=TT.lD;have n1:=fi.n1;have n2:=fi.n2;have e8:zs.length<=256:=by have:=fi.len;rw[b_] at this;exact this
  refine⟨_,rfl,_,rfl,n,l,zs,rfl,TT,fun H1 s1=>?_⟩;refine⟨_,rfl,_,rfl,n,l,zs,rfl,TT.same s1,fun H2 s2=>?_⟩;have Uq:aI H H2:=s1.trans s2;refine⟨_,rfl,_,rfl,p,C,dx,[],rfl,Uq _ _ hp,T.cl,T.nH,(by show 0<1000;decide),?_⟩
  let G1:Hp:=upd H2 p (.ins C dx (eY "house_count" (.int n) []))
  have d1:pV p Pt H G1:=fun b o e h1 _=>by show upd _ _ _ _=_;rw[aq h1];exact Uq _ _ e
  have YN:G1 p=some (.ins C dx (eY "house_count" (.int n) [])):=ae;have TT1:iI G1 l n zs:=TT.mono d1 hp tb;have tb1:mY Pt G1:=tb.mono (fun b o e h1=>by show upd _ _ _ _=_;rw[aq h1];exact Uq _ _ e) hp;refine⟨_,rfl,l,rfl,⟨_,a8.of TT1.at_⟩,fun D hD=>?_⟩;refine vt (fun y=>y) (fun σ=>∃a b,σ=[a,b]) TT1.at_ TT1.po hD (by lia) ⟨_,_,rfl⟩ ?_ ?_
  .rintro z σ H3 R Kf hz ⟨a,b,rfl⟩ _ ha kk;refine⟨_,_,rfl,cu.of ha,rfl,_,_,rfl,_,_,rfl,rfl,?_⟩;exact⟨_,rfl,_,rfl,by show 2<=sizeLine;decide,fun t ht=>kk _ _ ⟨_,_,rfl⟩ ht⟩
  .intro zo H3 sm pU RD ez Wu;rw[List.map_id'] at ez;have HY:zo.length=zs.length:=by rw[<-b_,ez,b_]
   refine PL ?_;refine Nb pU RD (by lia) (fun u hu=>by have:=(fi.rg u (ez ▸ hu)).2;lia) fun tl PM htl pm mZ=>?_;have aan:H tl=none:=d1.free (mS YN) tb1 (sm.free htl);have LP:∀z∈PM,H z.1=none:=fun z hz=>d1.free (mS YN) tb1 (Wu z (pm.mem_iff.mp hz));have e3p:H3 p=some (.ins C dx (eY "house_count" (.int n) [])):=sm _ _ YN;have RE:p≠tl:=am e3p htl;refine⟨_,rfl,p,C,dx,_,rfl,by rw[aq RE];exact e3p,T.cl,T.nT,by show 1<1000;decide,?_⟩
   let G2:Hp:=upd (upd H3 tl (.lst (zr PM))) p (.ins C dx (eY "tie_list" (.ref tl) (eY "house_count" (.int n) [])))
   have q2:∀b o,H3 b=some o->b≠p->G2 b=some o:=fun b o e h1=>by
    show upd _ _ _ _=_;rw[aq h1,aq (am e htl)];exact e
   have d2:pV p Pt H G2:=fun b o e h1 h2=>q2 _ _ (sm _ _ (d1 _ _ e h1 h2)) h1;have g2t:G2 tl=some (.lst (zr PM)):=by show upd _ _ _ _=_;rw[aq RE.symm,ae]
   have g2o:PO G2 PM:=fun z hz=>q2 _ _ (RD z (pm.mem_iff.mp hz)) (ig (RD z (pm.mem_iff.mp hz)) e3p (by intro z;cases z));have RH:G2 p=some (.ins C dx (eY "tie_list" (.ref tl) (eY "house_count" (.int n) []))):=ae;have TT2:iI G2 l n zs:=TT.mono d2 hp tb;have RI:mY Pt G2:=tb1.mono (fun b o e h1=>q2 _ _ (sm _ _ e) h1) YN;refine⟨_,rfl,n,rfl,by lia,by lia,fun D2 jy=>?_⟩;refine fJ (n:=n) (lo:=0) (fun i ys σ H4=>(∃a,σ=[a,some (.int n),some (.ref l)])/\∃bs:List Addr,ys=bs.map V.ref/\(∀b∈bs,H b=none)/\Holds H4 bs i (fun h=>.lst (NV (bX n (zp zs) h)))/\mn Pt G2 H4/\mY Pt H4/\H4 D2=some (.lst ys)/\∀b∈bs,b≠D2)
    ⟨⟨_,rfl⟩,[],rfl,(fun _ h=>nomatch h),Holds.nil,mn.of (aj jy),RI.same (aj jy),ae,(fun _ h=>nomatch h)⟩ ?_ ?_
   .rintro i ys σ H4 Kt Kf hi ⟨⟨a,rfl⟩,bs,rfl,hbN,hb,yD,Ur,Bo,hbD⟩ kt kf;have TT4:iI H4 l n zs:=TT2.mono (p:=p) (fun b o e _ h2=>yD _ _ e h2) RH RI;have Us:=yD _ _ RH (RI.not RH nofun);refine⟨_,rfl,_,rfl,_,rfl,n,l,i,zs,by rw[iF];rfl,hi,TT4,Ur,fun r H5 t5 zi AO hr5=>?_⟩;have hrN:H r=none:=pV.free (fun b o e h1 h2=>yD _ _ (d2 _ _ e h1 h2) h2) (mS Us) Ur AO;have YO:H5 D2=some (.lst (bs.map V.ref)):=zi _ _ Bo (Ur.not Bo nofun);have Wv:r≠D2:=by rintro rfl;rw[Bo] at AO;cases AO
    have nA:∀b o vX,H5 b=some o->b≠D2->(upd H5 D2 vX) b=some o:=fun b o vX e h=>by rw[aq h];exact e
    refine kt _ _ _ YO (by rw[aT,hb.1];exact bv hi (aZ n2 (by decide))) ⟨⟨_,rfl⟩,bs++[r],by rw[dt];rfl,?_,?_,?_,?_,ae,?_⟩
    .intro b vW;rcases cL.mp vW with z|z
     .exact hbN b z
     .rw[dA.mp z];exact hrN
    .refine Holds.snoc (hb.mono fun j hj e=>?_) (nA _ _ _ hr5 Wv);refine nA _ _ _ (zi _ _ e (Ur.not e nofun)) (hbD _ ?_);rw[cw,cz (by rw[hb.1];exact hj)];exact ie _
    .intro b o e h;exact nA _ _ _ (zi _ _ (yD _ _ e h) h) (am e jy)
    .rcases t5 with z|⟨c,z,y⟩
     .exact .inl (nA _ _ _ z (ig z YO (by intro q;cases q)))
     .exact .inr ⟨c,nA _ _ _ z (ig z YO (by intro q;cases q)),nA _ _ _ y (ig y YO (by intro q;cases q))⟩
    .intro b vW;rcases cL.mp vW with z|z
     .exact hbD b z
     .rw[dA.mp z];exact Wv
   .rintro ys σ H4 ⟨_,bs,rfl,hbN,hb,yD,Ur,Bo,hbD⟩;have Us:H4 p=some (.ins C dx (eY "tie_list" (.ref tl) (eY "house_count" (.int n) []))):=yD _ _ RH (RI.not RH nofun);have aao:H D2=none:=d2.free (mS RH) RI jy;refine⟨_,rfl,p,C,dx,_,rfl,Us,T.cl,T.nO,by have h1:=fA "tie_list" (V.ref tl) (eY "house_count" (V.int n) []);have h2:=fA "house_count" (V.int n) [];simp at h2;lia,?_⟩
    let G3:Hp:=upd H4 p (.ins C dx (eY "out_lists" (.ref D2) (eY "tie_list" (.ref tl) (eY "house_count" (.int n) []))))
    have q3:∀b o,H4 b=some o->b≠p->G3 b=some o:=fun b o e h1=>by show upd _ _ _ _=_;rw[aq h1];exact e
    have RJ:G3 p=some (.ins C dx (eY "out_lists" (.ref D2) (eY "tie_list" (.ref tl) (eY "house_count" (.int n) [])))):=ae;have d3:pV p Pt H G3:=fun b o e h1 h2=>q3 _ _ (yD _ _ (d2 _ _ e h1 h2) h2) h1;have tb3:mY Pt G3:=Ur.mono q3 Us;have hb3:Holds G3 bs n (fun h=>.lst (NV (bX n (zp zs) h))):=hb.mono fun j hj e=>q3 _ _ e (ig e Us (by intro z;cases z));have g3D:G3 D2=some (.lst (bs.map V.ref)):=q3 _ _ Bo (ig Bo Us (by intro z;cases z));have O3:vw G3 D2 n (zp zs):=⟨bs,g3D,hb3⟩
    refine⟨_,rfl,n,rfl,by lia,by lia,fun D3 RM=>?_⟩;refine fJ (n:=n) (lo:=0) (fun i ys σ H6=>(∃a,σ=[a,some (.ref p)])/\∃ds:List Addr,ys=ds.map V.ref/\(∀b∈ds,H b=none)/\Holds H6 ds i (fun s=>.lst (NV ((List.range n).map (far (zp zs) s))))/\aI G3 H6/\H6 D3=some (.lst ys)/\∀b∈ds,b≠D3)
     ⟨⟨_,rfl⟩,[],rfl,(fun _ h=>nomatch h),Holds.nil,aj RM,ae,(fun _ h=>nomatch h)⟩ ?_ ?_
    .rintro i ys σ H6 Kt Kf hi ⟨⟨a,rfl⟩,ds,rfl,hdN,hd,Nv,RP,Vb⟩ kt kf;refine⟨_,rfl,p,C,dx,_,_,rfl,Nv _ _ RJ,T.cl,T.nO,by rw[bS,ap rfl],_,rfl,D2,n,i,zp zs,by rw[iF];rfl,fi,hi,O3.same Nv,fun r H7 st7 RQ hr7=>?_⟩;have e7D:H7 D3=some (.lst (ds.map V.ref)):=st7 _ _ RP;have Wv:r≠D3:=by rintro rfl;rw[RP] at RQ;cases RQ
     have hrN:H r=none:=pV.free (fun b o e h1 h2=>Nv _ _ (d3 _ _ e h1 h2)) (mS (Nv _ _ RJ)) (tb3.same Nv) RQ;have nA:∀b o vX,H7 b=some o->b≠D3->(upd H7 D3 vX) b=some o:=fun b o vX e h=>by rw[aq h];exact e
     refine kt _ _ _ e7D (by rw[aT,hd.1];exact bv hi (aZ n2 (by decide))) ⟨⟨_,rfl⟩,ds++[r],by rw[dt];rfl,?_,?_,?_,ae,?_⟩
     .intro b vW;rcases cL.mp vW with z|z
      .exact hdN b z
      .rw[dA.mp z];exact hrN
     .refine Holds.snoc (hd.mono fun j hj e=>?_) (nA _ _ _ hr7 Wv);refine nA _ _ _ (st7 _ _ e) (Vb _ ?_);rw[cw,cz (by rw[hd.1];exact hj)];exact ie _
     .intro b o e;exact nA _ _ _ (st7 _ _ (Nv _ _ e)) (am e RM)
     .intro b vW;rcases cL.mp vW with z|z
      .exact Vb b z
      .rw[dA.mp z];exact Wv
    .rintro ys σ H6 ⟨_,ds,rfl,hdN,hd,Nv,RP,Vb⟩;have Ww:=Nv _ _ RJ;refine⟨_,rfl,p,C,dx,_,rfl,Ww,T.cl,T.nD,by have h1:=fA "tie_list" (V.ref tl) (eY "house_count" (V.int n) []);have h2:=fA "house_count" (V.int n) [];have h3:=fA "out_lists" (V.ref D2) (eY "tie_list" (V.ref tl) (eY "house_count" (V.int n) []));simp at h2;lia,?_⟩;have q4:∀b o u,H6 b=some o->b≠p->(upd H6 p u) b=some o:=fun b o u e h1=>by rw[aq h1];exact e
     refine⟨_,rfl,p,C,dx,_,_,rfl,ae,T.cl,T.nD,by rw[bS,ap rfl],D3,ds,n,fun s=>NV ((List.range n).map (far (zp zs) s)),rfl,q4 _ _ _ RP (ig RP Ww (by intro z;cases z)),n2,hd.mono fun j hj e=>q4 _ _ _ e (ig e Ww (by intro z;cases z)),fun j hj x hx=>?_,fun H8 s8=>?_⟩
     .obtain⟨y,hy,rfl⟩:=bB.mp hx;exact⟨_,rfl⟩
     .have up:∀b o,G3 b=some o->b≠p->H8 b=some o:=fun b o e h1=>s8 _ _ (q4 _ _ _ (Nv _ _ e) h1);have aap:H D3=none:=d3.free (mS RJ) tb3 RM;have upT:∀b o,G2 b=some o->b≠p->b≠Pt->H8 b=some o:=fun b o e h1 h2=>up _ _ (q3 _ _ (yD _ _ e h2) h1) h1;refine k H8 ⟨fi,dx,tl,D2,D3,s8 _ _ ae,aao,aap,⟨bs,up _ _ g3D (ig g3D RJ (by intro z;cases z)),hbN,hb3.mono fun j hj e=>up _ _ e (ig e RJ (by intro z;cases z))⟩,
       ⟨ds,s8 _ _ (q4 _ _ _ RP (ig RP Ww (by intro z;cases z))),hdN,hd.mono fun j hj e=>s8 _ _ (q4 _ _ _ e (ig e Ww (by intro z;cases z)))⟩,
       ⟨aan,PM,upT _ _ g2t RE.symm (RI.not g2t nofun),fun z hz=>upT _ _ (g2o z hz) (ig (g2o z hz) RH (by intro z;cases z)) (RI.not (g2o z hz) nofun),LP,((show (zp PM).Perm (zp zo) from pm.map _).trans (lR ez)),mZ⟩⟩ ?_ fun b o e h1 h2=>up _ _ (d3 _ _ e h1 h2) h1
      exact tb3.mono up RJ
theorem jz:NV xs++[.int (x:Int)]=NV (xs++[x]):=by unfold NV;rw[dt];rfl
theorem pW{xs:aQ}{i:Nat}{x:V}(h:(NV xs)[i]?=some x):∃y,xs[i]?=some y/\x=.int (y:Int):=by
 unfold NV at h;rw[cA] at h;cases e:xs[i]? with
 |none=>rw[e] at h;cases h
 |some z=>rw[e] at h;exact⟨z,rfl,(cB h).symm⟩
end
end rY
namespace L2
open PySem PySem.Spec PyProof.Rows
section
variable {X:Cx}
def Wx(X:Cx)(H:Hp)(d:Nat)(x y:V):Prop:=∀ (af:cE) (s:aR) (σ:St) (A:br) (u v:Value),aU X af σ H s->A.units+d<cLine->bW x u->bW y v->SeqAt.EqAt A s u v true
theorem Ny:Wx X H 0 (.int i) (.int i):=by
 intro af s σ A u v I hu rx ry;have h:=xV (A:=A) (s:=s) rx ry rfl rfl;rw[show uT (.int i) (.int i)=true by show decide (i=i)=true;simp] at h;exact h
theorem Hr(I:aU X af σ H s)(hu:A.units+d<cLine)(rx:ba xs us)(ry:ba ys vs)(he:∀i,i<xs.length->i<ys.length->Wx X H d (xs.getD i .cI) (ys.getD i .cI)):∀j (h1:j<us.toArray.size) (h2:j<vs.toArray.size),SeqAt.EqAt A s us.toArray[j] vs.toArray[j] true:=by
 intro j h1 h2;have j1:j<xs.length:=by rw[rx.length];simpa using h1
 have j2:j<ys.length:=by rw[ry.length];simpa using h2
 have e1:xs[j]?=some (xs.getD j .cI):=by rw[cw,cz j1];rfl
 have e2:ys[j]?=some (ys.getD j .cI):=by rw[cw,cz j2];rfl
 obtain⟨u,VJ,ru⟩:=rx.get e1;obtain⟨v,QS,rv⟩:=ry.get e2;have eu:us.toArray[j]=u:=by
  have:us[j]?=some us.toArray[j]:=by simp at h1 |-
  rw[VJ] at this;exact(cB this).symm
 have ev:vs.toArray[j]=v:=by
  have:vs[j]?=some vs.toArray[j]:=by simp at h2 |-
  rw[QS] at this;exact(cB this).symm
 rw[eu,ev];exact he j j1 j2 af s σ A u v I hu ru rv
theorem Kz:(List.range n).all (fun _=>true)=true:=kM.mpr fun _ _=>rfl
def Wy(X:Cx)(Qz:Bool)(d:Nat):R2:=fun x y H Q=>∃p q xs ys,x=.ref p/\y=.ref q/\cu X.K H p xs/\cu X.K H q ys/\xs.length=ys.length/\(∀i,i<xs.length->i<ys.length->Wx X H d (xs.getD i .cI) (ys.getD i .cI))/\Q (.bl (!Qz)) H
theorem Nz(hu:X.A.units+(d+1)<cLine):nh X (compareOp .Eq) (Wy X false d):=by
 intro af s σ H x y v u Q I rx ry h;obtain⟨p,q,xs,ys,rfl,rfl,hp,hq,hl,he,k⟩:=h;obtain rfl:v=Value.ref p:=rx;obtain rfl:u=Value.ref q:=ry;obtain⟨us,r1,p1,_⟩:=I.tuple hp;obtain⟨vs,r2,p2,_⟩:=I.tuple hq;have e:(us.toArray.size==vs.toArray.size)=true:=by simp only[ce];rw[<-r1.length,<-r2.length,hl];simp
 refine SeqAt.eq_tupleAt (e:=fun _=>true) (show s.heap.IsTuple p us.toArray from p1) (show s.heap.IsTuple q vs.toArray from p2) (by lia) (Hr I (by show X.A.units+1+d<cLine;lia) r1 r2 he) ⟨.bl _,H,I,rfl,?_⟩;rw[Kz,e];exact k
end
end L2
namespace rY
open PySem L2 lj
section
variable {P:bL} {w:World} {K:a_} {mg:cr} {base:Heap}
end
end rY
namespace L2
open PySem PySem.Spec PyProof.Rows
def vx(P:bL)(w:World)(h:Heap)(vs:bw)(ps:List (List iV×Addr×Value)):Prop:=vs.length=ps.length/\∀ (i:Nat) (v:Value),vs[i]?=some v->∃ (a:Addr) (o:Obj) (n:Nat) (b:Addr) (k:List iV) (x:Value),v=Value.ref a/\h.get? a=some o/\o.cls=.type "tuple"/\o.data=.seq #[.ref b,x] n/\(tupleKind (cZ P w)).is h k b/\ps[i]?=some (k,b,x)
theorem AQ(x:(tupleKind (cZ Pzz w)).is h k b)(q:∀b o,(∃xs n,o.data=.seq xs n)->h.get? b=some o->h'.get? b=some o):(tupleKind (cZ Pzz w)).is h' k b:=by
 obtain⟨o,its,n,h1,h2,h3,h4⟩:=x;exact⟨o,its,n,q _ _ ⟨_,_,h3⟩ h1,h2,h3,h4⟩
theorem vx.keeps(x:vx Pzz w h vs ps)(k:∀b o,(∃xs n,o.data=.seq xs n)->h.get? b=some o->h'.get? b=some o):vx Pzz w h' vs ps:=
 ⟨x.1,fun i v hv=>let ⟨a,o,n,b,kk,y,e1,e2,e3,e4,e5,e6⟩:=x.2 i v hv;⟨a,o,n,b,kk,y,e1,k a o ⟨_,_,e4⟩ e2,e3,e4,AQ e5 k,e6⟩⟩
theorem vy{P:bL}{w:World}{h h':Heap}{d:Addr}{xs:List (List iV×Addr×Value)}(x:h.DictOfH (tupleKind (cZ P w)) d xs)(kd:∀o,h.get? d=some o->h'.get? d=some o)(q:∀b o,(∃xs n,o.data=.seq xs n)->h.get? b=some o->h'.get? b=some o):h'.DictOfH (tupleKind (cZ P w)) d xs:=by
 obtain⟨o,es,ep,h1,h2,h3,h4,h5,h6⟩:=x;exact⟨o,es,ep,kd _ h1,h2,h3,h4,fun y hy=>AQ (h5 y hy) q,h6⟩
section
variable {prog:bL} {w:World} {A:br} {E:bV} {s:aR} {R:zu} {l d Ia:Addr}
theorem DA{vs:bw}{ps:List (List iV×Addr×Value)}(hh:A.handled=none)(hu:A.units+4<cLine)(hlD:l≠d)(ZW:l≠Ia)(hdI:d≠Ia):
  ∀ (k i:Nat) (j:Int) (t:Tok) (s:aR) (dR:List (List iV×Addr×Value)),vs.length-i=k->i<=vs.length->s.heap.IsListIter Ia l i->s.heap.IsList l vs.toArray->vx prog w s.heap vs ps->s.heap.DictOfH (tupleKind (cZ prog w)) d dR->dR.length+k<=4096->
   (∀h' tk,(∀b o,b≠d->b≠Ia->s.heap.get? b=some o->h'.get? b=some o)->h'.DictOfH (tupleKind (cZ prog w)) d ((ps.drop i).foldl (fun m p=>storedH m p.1 p.2.1 p.2.2) dR)->R (.ok (.ret .none)) { s with heap:=h',toks:=tk })->
   codeAny (model prog w) A (.builtin "dict.update.loop" ⟨[.ref d,.ref Ia,.int j t,.none],[]⟩) R s:=by
 intro k;induction k with
 |zero=>
  intro i j t s dR hk hi zj hl hp hD hz hR;refine lS rR ?_;rw[qu jv _];show wpAny _ A.in1 (pyNext (.ref Ia) >>= _) _ _ s;refine au (BQ (show A.in1.handled=none from hh) zj hl (by simp;lia) fun h' eb=>?_);have hd:ps.drop i=[]:=by rw[List.drop_eq_nil_iff];have:=hp.1;lia
  have hR':=hR h' s.toks (fun b o hb MJ e=>eb b o MJ e);rw[hd] at hR';refine au (wpAny_pure (wpAny_pure (hR' ?_)));refine vy hD (fun o e=>eb d o hdI e) fun b o hb e=>eb b o (fun z=>?_) e;obtain⟨oi,e1,_,d1⟩:=zj;obtain⟨xs,m,hb⟩:=hb;rw[z,e1] at e;cases e;rw[d1] at hb;cases hb
 |succ k ih=>
  intro i j t s dR hk hi zj hl hp hD hz hR;have eX:i<vs.length:=by lia
  refine lS rR ?_;rw[qu jv _];show wpAny _ A.in1 (pyNext (.ref Ia) >>= _) _ _ s;have hv:vs[i]?=some vs[i]:=cz eX;refine au (BN zj hl (x:=vs[i]) (by simpa using hv) fun h1 QN sG=>?_);have Yx:∀b ob,(∃xs n,ob.data=.seq xs n)->s.heap.get? b=some ob->b≠Ia:=fun b ob ⟨xs,m,z⟩ e z'=>by
   obtain⟨oi,e1,_,d1⟩:=zj;rw[z',e1] at e;cases e;rw[d1] at z;cases z
  have k1:∀b ob,(∃xs n,ob.data=.seq xs n)->s.heap.get? b=some ob->h1.get? b=some ob:=fun b ob hb e=>(sG.2 b (Yx b ob hb e)).trans e;have mW:vx prog w h1 vs ps:=hp.keeps k1;have DB:h1.DictOfH (tupleKind (cZ prog w)) d dR:=vy hD (fun o e=>(sG.2 d hdI).trans e) k1;have Bi:h1.IsList l vs.toArray:=by
   obtain⟨ol,q1,q2⟩:=hl;exact⟨ol,(sG.2 l ZW).trans q1,q2⟩
  obtain⟨a,o,n,b,kk,x,ea,VA,ec,ed,ek,ep⟩:=mW.2 i _ hv;rw[ea];have neD:∀b ob,(∃xs n,ob.data=.seq xs n)->h1.get? b=some ob->b≠d:=fun b ob ⟨xs,m,z⟩ e z'=>by
   obtain⟨oS,es,US,q1,_,q4,_⟩:=DB;rw[z',q1] at e;cases e;rw[q4] at z;cases z
  have hT:Shared.TypeIs { s with heap:=h1 } (.ref a) "tuple":=⟨o,VA,ec⟩
  refine au (gK ?_);show wpAny _ A.in1 (Sem.tryCatch (Builtin.Dict.pairItems (.ref a)) _ >>= _) _ _ _;refine au (wpAny_tryCatch ?_);unfold Builtin.Dict.pairItems;refine au (qL hT ?_);rw[ap (by decide)];refine au (iE VA ed (wpAny_pure ?_));show wpAny _ A.in1 (holding [.ref b,x] (dictSet d (.ref b) x)) _ _ _;refine gK (wpAny_dictSet_heap (s:={ s with heap:=h1 }) (show A.in1.units<cLine from by show A.units+1<cLine;lia) ek DB (fun h2 jy qY=>?_) (aZ (by lia:dR.length<=4096) (by decide)));refine wpAny_pure ⟨uI jv _,?_⟩;have z7:i<ps.length:=by have:=hp.1;lia
  have ZY:ps.drop i=(kk,b,x)::ps.drop (i+1):=by
   rw[qh z7];have:ps[i]?=some ps[i]:=cz z7;rw[this] at ep;rw[cB ep]
  have e8:(storedH dR kk b x).length<=dR.length+1:=by
   unfold storedH;split
   .rw[aT];lia
   .rw[dh];simp
  have k2:∀b ob,(∃xs n,ob.data=.seq xs n)->h1.get? b=some ob->h2.get? b=some ob:=fun b ob hb e=>(qY.2 b (neD b ob hb e)).trans e;refine ih (i+1) _ _ { s with heap:=h2,toks:=_ } (storedH dR kk b x) (by lia) eX ?_ ?_ (mW.keeps k2) jy (by lia) fun h3 ZZ k3 D3=>?_
  .obtain⟨oi,q1,q2⟩:=QN;exact⟨oi,(qY.2 Ia (dI hdI)).trans q1,q2⟩
  .obtain⟨ol,q1,q2⟩:=Bi;exact⟨ol,(qY.2 l hlD).trans q1,q2⟩
  .refine hR h3 ZZ (fun b ob hb MJ e=>k3 b ob hb MJ ((qY.2 b hb).trans ((sG.2 b MJ).trans e))) ?_;rw[ZY];exact D3
end
section
variable {prog:bL} {w:World} {A:br} {E:bV} {s:aR} {l:Addr}
theorem RU(h:Heap):(h.push { cls:=.type "dict",data:=.dict #[] }).DictOfH (tupleKind (cZ Pzz w)) h.objs.size []:=
 ⟨_,#[],0,cX _ rfl,⟨rfl,rfl,rfl⟩,rfl,rfl,(fun x hx=>nomatch hx),kQ⟩
theorem DC(hh:A.handled=none)(hu:A.units+8<cLine)(hl:s.heap.get? l=some { cls:=.type "list",data:=.seq vs.toArray n })(hp:vx prog w s.heap vs ps)(hz:vs.length<=4096)(h:∀h' tk,h'.DictOfH (tupleKind (cZ prog w)) s.heap.objs.size (ps.foldl (fun m p=>storedH m p.1 p.2.1 p.2.2) [])->(∀b o,s.heap.get? b=some o->h'.get? b=some o)->Q (.ref s.heap.objs.size) { s with heap:=h',toks:=tk }):
  wpAny (model prog w) A (call (.type "dict") [.ref l]) Q E s:=by
 refine callType_codes (Q₁:=fun obj s₁=>obj=.ref s.heap.objs.size/\s₁={ s with heap:=s.heap.push { cls:=.type "dict",data:=.dict #[] } }) F.kt_called_dict (F.kt_typeCall_dict_1 _) F.entry_dict_init (kt_code_dict_new _ ⟨rfl,rfl⟩) ?_;rintro obj s₁ ⟨rfl,rfl⟩;have PP:(s.heap.push { cls:=.type "dict",data:=.dict #[] }).DictOf (cZ prog w) s.heap.objs.size []:=Heap.DictOf.new s.heap;have uV:(s.heap.push { cls:=.type "dict",data:=.dict #[] }).DictOfH (tupleKind (cZ prog w)) s.heap.objs.size []:=RU s.heap;have iC:(s.heap.push { cls:=.type "dict",data:=.dict #[] }).objs.size=s.heap.objs.size+1:=jb ..;have up:∀b o,s.heap.get? b=some o->(s.heap.push { cls:=.type "dict",data:=.dict #[] }).get? b=some o:=fun b o e=>bP _ e;have eX:l<s.heap.objs.size:=aS hl;refine⟨PP.typeIs,F.args_dict_init_2 _ _,?_⟩;generalize (s.heap.push { cls:=.type "dict",data:=.dict #[] })=hD at *;have hT:Shared.TypeIs { s with heap:=hD } (.ref l) "list":=⟨_,up _ _ hl,rfl⟩
 unfold Builtin.«dict.__init__»;refine au ?_;unfold Builtin.Dict.selfAndRest;refine au (wpAny_notOrdered_dict PP.typeIs (wpAny_pure ?_));show wpAny _ _ (Builtin.Dict.updateFrom "dict.__init__" s.heap.objs.size (.ref l) [] .none) _ _ _;unfold Builtin.Dict.updateFrom;refine au (qL hT ?_);rw[ap (by decide)];refine au (QZ (s:={ s with heap:=hD }) (show A.in1.handled=none from hh) (up _ _ hl) fun h1 tk1 k1=>?_);have Bi:h1.get? l=some { cls:=.type "list",data:=.seq vs.toArray n }:=k1 _ _ (up _ _ hl);have tX:h1.IsList l vs.toArray:=⟨_,Bi,rfl,n,rfl⟩
 rw[ap (by rfl)];refine au (fv ?_);refine au (ux (s:={ s with heap:=h1,toks:=tk1 }) tX ?_);have hDI:s.heap.objs.size<h1.objs.size:=by
  obtain⟨o,es,ep,q1,q2⟩:=uV;exact aS (k1 _ _ q1)
 refine wpAny_pure ⟨uI jv _,?_⟩;refine DA (l:=l) (vs:=vs) (ps:=ps) (Ia:=h1.objs.size) (show A.in1.handled=none from hh) (show A.units+1+4<cLine by lia) (bf eX) (bf (qI eX hDI)) (bf hDI) vs.length 0 0 0 _ [] (by simp) (cp _) ⟨_,cX _ rfl,rfl,rfl⟩ ?_ ?_ ?_ (by simpa using hz) fun h2 DD k2 D2=>?_
 .exact⟨_,bP _ Bi,rfl,n,rfl⟩
 .exact hp.keeps fun b o _ e=>bP _ (k1 _ _ (up _ _ e))
 .exact vy uV (fun o e=>bP _ (k1 _ _ e)) fun b o _ e=>bP _ (k1 _ _ e)
 .refine⟨rfl,h h2 DD D2 fun b o e=>k2 b o (bf (aS e)) (bf (qI (aS e) hDI)) (bP _ (k1 _ _ (up _ _ e)))⟩
end
abbrev TK:=List iV×Addr×V
def eF(m:List (List iV×V))(ps:List TK):List (List iV×V):=ps.foldl (fun m p=>u9 m p.1 p.2.2) m
inductive KP (H:Hp):List TK->List (List iV×Addr×Value)->Prop where
 |nil:KP H [] []
 |cons {k:List iV} {b:Addr} {v:V} {u:Value} {ps:List TK} {us:List (List iV×Addr×Value)} (hb:H b=some (.tup (k.map kV))) (r:bW v u) (t:KP H ps us):KP H ((k,b,v)::ps) ((k,b,u)::us)
theorem KP.fold:∀ {ps:List TK} {us:List (List iV×Addr×Value)} {m:List (List iV×V)} {m':List (List iV×Addr×Value)},KP H ps us->KT H m m'->KT H (eF m ps) (us.foldl (fun m p=>storedH m p.1 p.2.1 p.2.2) m')
 |[],_,_,_,.nil,r=>r
 |(k,b,v)::ps,_,m,m',.cons (us:=us) hb rv t,r=>by
  have:=KP.fold (ps:=ps) (us:=us) t (r.put k hb rv);exact this
theorem rZ:∀ (ps:List TK) (m:List (List iV×V)),(eF m ps).length<=m.length+ps.length
 |[],m=>by show m.length<=_;simp
 |p::ps,m=>by
  have h1:=rZ ps (u9 m p.1 p.2.2);have h2:=Am m p.1 p.2.2;show (eF (u9 m p.1 p.2.2) ps).length<=_;rw[fj];lia
theorem AR(ok:oh Pzz w H h):∀ (ts:bR) (ps:List TK),ts.length=ps.length->(∀i,i<ps.length->∃k b v,ps[i]?=some (k,b,v)/\H (ts.getD i 0)=some (.tup [.ref b,v])/\H b=some (.tup (k.map kV)))->
  ∃us:List (List iV×Addr×Value),KP H ps us/\vx Pzz w h (ts.map Value.ref) us
 |[],[],_,_=>⟨[],.nil,rfl,fun i v hv=>by simp at hv⟩
 |[],_::_,e,_=>by simp at e
 |_::_,[],e,_=>by simp at e
 |t::ts,(k,b,v)::ps,e,hs=>by
  obtain⟨us,r,T⟩:=AR ok ts ps (by simpa using e) fun i hi=>by
   obtain⟨k',b',v',h1,h2,h3⟩:=hs (i+1) (by simp;lia);exact⟨k',b',v',by simpa using h1,by simpa using h2,h3⟩
  obtain⟨k0,b0,v0,g1,g2,g3⟩:=hs 0 (by simp);have g1':(k,b,v)=(k0,b0,v0):=by simpa using g1
  cases g1';have g2':H t=some (.tup [.ref b,v]):=by simpa using g2
  obtain⟨_,its,rv,o,q1,q2,n,q3⟩:=ok t _ g2';cases rv with
  |cons ra rr=>
   cases rr with
   |cons rb rr2=>
    cases rr2;rename_i ka vb;obtain rfl:ka=Value.ref b:=ra;refine⟨(k,b,vb)::us,.cons g3 rb r,by simp[T.1],fun i x hx=>?_⟩;cases i with
    |zero=>
     have qQ:Value.ref t=x:=by simpa using hx
     exact⟨t,o,n,b,k,vb,qQ.symm,q1,q2,q3.1,rc ok g3,rfl⟩
    |succ i=>exact T.2 i x (by simpa using hx)
section
variable {X:Cx}
def RV:List V->Hp->VK->Prop:=fun xs H Q=>∃ (l:Addr) (ts:bR) (ps:List TK),xs=[.ref l]/\H l=some (.lst (ts.map V.ref))/\ts.length=ps.length/\(∀i,i<ps.length->∃k b v,ps[i]?=some (k,b,v)/\H (ts.getD i 0)=some (.tup [.ref b,v])/\H b=some (.tup (k.map kV)))/\ps.length<=4096/\
 ∀D,H D=none->Q (.ref D) (upd H D (.dT (eF [] ps)))
theorem DE(hc:X.calm=true)(hu:X.A.units+8<cLine):gf X (.type "dict") RV:=by
 intro af s σ H xs us Q I r h;obtain⟨l,ts,ps,rfl,hl,e8,ht,hz,q⟩:=h;obtain⟨u1,rfl,r1⟩:=r.one;obtain rfl:u1=Value.ref l:=r1;obtain⟨z,its,n,rv,_,e⟩:=I.x_ hl;have yj:its=ts.map Value.ref:=yi rv;subst yj;obtain⟨vs,kv,T⟩:=AR I.cY ts ps e8 ht;refine DC (I.ok.hd hc) hu e T (by rw[aT,e8];exact hz) fun h' tk D k=>?_;have hs:sysModules<s.heap.objs.size:=qI (by decide:sysModules<mainGlobals) (I.mod.glob.keeps I.bk).lt;have nf:=I.cY.fresh (aP s.heap.objs.size);have I2:aU X af σ (upd H s.heap.objs.size (.dT (eF [] ps))) { s with heap:=h',toks:=tk }:=by
  obtain⟨o,es,ep,h1,h2,h3,h4,_,h6⟩:=D;refine I.z4 (t':=tk) k (qt (aP _)) ⟨?_,?_,_,KT.keeps (KP.fold kv .nil) fun b ys eb=>?_,o,es,ep,h1,h2,h3,h4,h6⟩
  .have:=rZ ps [];exact aZ this (aZ (by simpa using hz) (by decide:4096<=sizeLine))
  .rw[o0];exact gO hs
  .rw[aq (am eb nf)];exact eb
 exact⟨.ref s.heap.objs.size,_,I2,rfl,q _ nf⟩
end
structure Wz(K:a_)(C:Addr):Prop where
 makes:W.makesIn K C=true
 init:W.findIn K (.ref C) "__init__"=some (some (.builtin "object.__init__"))
 keep:W.keepIn K (.ref C)=true
section
variable {X:Cx} {C:Addr} {x:Str} {p pos:Pos}
def aaq(C:Addr):TE:=fun _ H Q=>∀y dx,H y=none->H dx=none->dx≠y->Q (.ref y) (upd (upd H dx (.own y)) y (.ins C dx []))
theorem yE(M:Wz X.K C)(hg:Gl X x)(hm:X.mg x=some (.ref C))(Ga:(x==("__debug__":Str))=false:=by decide):PE X (.Call (.Name x p) [] [] pos) (aaq C):=by
 intro af s σ H Q I h;refine nQ (tw I hg hm ?_ Ga);have I2:=aU.made (C:=C) I;have d_:wpAny (model X.prog X.w) X.A (call (.ref C) []) (EP X af σ Q) X.xe s:=by
  refine qN ?_;refine F9 I.o_ M.makes M.init (fun self=>W.Looks.of_pure (W.oi_bind self)) ?_;have Y:=W.makes_of (M:=model X.prog X.w) I.o_ M.makes;have t1:W.Looks (model X.prog X.w) ((s.heap.push W.emptyDict).push (W.instObj C s.heap.objs.size)) (typeOf (.ref (s.heap.objs.size+1))) (.ref C):=(W.Looks.ld (by heap_get)).andThen .now;have t2:W.Looks (model X.prog X.w) ((s.heap.push W.emptyDict).push (W.instObj C s.heap.objs.size)) (isInstance (.ref (s.heap.objs.size+1)) (.type "object")) true:=t1.andThen (Y.top.keeps fun b o e=>bP _ (bP _ e));refine xu W.oi_plain W.entry_oi (@W.check_slot (model X.prog X.w) _ _ _ "object.__init__" "object" "__init__" (.ref (s.heap.objs.size+1)) [] [] _ W.oi_kind W.oi_split t2 (W.oi_args (.ref (s.heap.objs.size+1))) ?_);rw[W.oi_run];refine wpAny_pure (And.intro rfl ?_);exact⟨.ref (s.heap.objs.size+1),_,I2,rfl,h _ _ (I.cY.fresh (xK _)) (I.cY.fresh (aP _)) (bf (lL _))⟩
 exact W.callWith_K0 I.o_ M.keep d_
end
section
variable {X:Cx}
def WA:R2:=fun x y H Q=>∃a b xs ys,x=.ref a/\y=.ref b/\H a=some (.tup xs)/\H b=some (.tup ys)/\xs.length+ys.length<=sizeLine/\∀r H',aI H H'->H' r=some (.tup (xs++ys))->Q (.ref r) H'
theorem NA:nh X (binaryOp .Add) WA:=by
 intro af s σ H x y v u Q I rx ry h;obtain⟨a,b,xs,ys,rfl,rfl,ha,hb,hz,q⟩:=h;cases rx;cases ry;obtain⟨its,r1,p1,_⟩:=I.tuple (cu.of ha);obtain⟨k9,r2,p2,_⟩:=I.tuple (cu.of hb);obtain⟨⟨cls,dd,data,sl⟩,ho,hc,n,hd⟩:=id p1;obtain⟨⟨acl,dd2,data2,sl2⟩,Ut,Uo,n2,RW⟩:=id p2;simp only at hc hd Uo RW;subst hc hd Uo RW;have e:its.toArray++k9.toArray=(its++k9).toArray:=by simp
 by_cases hv:xs=[]
 .subst hv;have hi:its=[]:=r1.tI.mpr rfl;exact concat_meets ⟨_,ho,rfl⟩ ⟨_,Ut,rfl⟩ Cf seq_tuple_add BC BA (Bw _ _)
   (tuple_addW0 a b its.toArray k9.toArray n n2 dd dd2 sl sl2 (by simp[hi])) ⟨ho,Ut,⟨.ref b,H,I,rfl,q b H (aI.refl _) hb⟩⟩
 .have hi:its≠[]:=fun z=>hv (r1.tI.mp z);by_cases hw:ys=[]
  .subst hw;have hj:k9=[]:=r2.tI.mpr rfl;exact concat_meets ⟨_,ho,rfl⟩ ⟨_,Ut,rfl⟩ Cf seq_tuple_add BC BA (Bw _ _)
    (tuple_addW1 a b its.toArray k9.toArray n n2 dd dd2 sl sl2 (by simpa using hi) (by simp[hj])) ⟨ho,Ut,⟨.ref a,H,I,rfl,q a H (aI.refl _) (by rw[jH];exact ha)⟩⟩
  .have hj:k9≠[]:=fun z=>hw (r2.tI.mp z);refine concat_meets ⟨_,ho,rfl⟩ ⟨_,Ut,rfl⟩ Cf seq_tuple_add BC BA (Bw _ _)
    (tuple_addW2 a b its.toArray k9.toArray n n2 dd dd2 sl sl2 (by simpa using hi) (by simpa using hj) (by rw[ce,ce,<-r1.length,<-r2.length];exact hz)) ⟨ho,Ut,?_⟩
   rw[e];have nf:=I.cY.fresh (aP s.heap.objs.size);refine⟨.ref s.heap.objs.size,_,I.laid (t':=s.toks) (o:=.tup (xs++ys)) (fun b ob q=>bP _ q) (aP _) ?_,rfl,q _ _ (aj nf) ae⟩;exact⟨by rw[dh];exact hz,_,r1.append r2,lZ.new _ _⟩
theorem pX{prog:bL}{w:World}{A:br}{E:bV}{s:aR}{t sl:Addr}{items:bD}{vl vu:Value}{lo hi:lr}{Q:bV}(ht:IsTup s.heap t items)(hs:s.heap.IsSliceOf sl vl vu .none)(pl:IsPart vl lo)(pu:IsPart vu hi)(hw:HT.fY items.size 0 lo=0/\HT.fY items.size items.size hi=items.size)(h:Q (.ref t) s):wpAny (model prog w) A (getItem (.ref t) (.ref sl)) Q E s:=by
 obtain⟨os,LU,Ys,LV⟩:=id hs;have ZG:s.TypeIs (.ref sl) "slice":=⟨os,LU,Ys⟩
 unfold getItem;try with_reducible refine gK ?_
 first|refine au (wpAny_pure ?_)|skip
 refine au (wpAny_sequenceKey ht.typeIs (by decide) ?_);refine au (oY (name:=Str.ofString "__getitem__") ht.typeIs wf
  (lM wf ht.typeIs entry_tuple_getitem ?_ (args_tuple_getitem _ _)))
 show wpAny _ _ (Builtin.Tuple.tupleItemsOf (.ref t) >>= _) _ _ s;refine au (tupleItemsOf_ ht ?_);refine au (qL ZG ?_);rw[ap (by decide)];refine au (HT.j_ hs pl pu ?_);have aar:(((HT.fY items.size 0 lo:Nat):Int)==0&&(1:Int)==1&&(HT.fY items.size items.size hi-HT.fY items.size 0 lo)==items.size)=true:=by
  rw[hw.1,hw.2];simp
 show wpAny _ _ (if (((HT.fY items.size 0 lo:Nat):Int)==0&&(1:Int)==1&&(HT.fY items.size items.size hi-HT.fY items.size 0 lo)==items.size)=true then _ else _) _ _ s;rw[ap aar];refine au (Q:=_) (m:=Builtin.Tuple.tupleIsExact (.ref t)) ?_;unfold Builtin.Tuple.tupleIsExact;refine au (qL ht.typeIs ?_);refine wpAny_pure ?_;rw[ap (by decide)];exact au (fv (wpAny_pure ⟨_,rfl,wpAny_pure h⟩))
def aas:V->Option Int->Option Int->Hp->VK->Prop:=fun x lo hi H Q=>∃a xs,x=.ref a/\H a=some (.tup xs)/\∀r H',aI H H'->H' r=some (.tup (iu xs lo hi))->Q (.ref r) H'
theorem KA{xs:bg}{lo hi:lr}(hw:HT.fY xs.length 0 lo=0/\HT.fY xs.length xs.length hi=xs.length):iu xs lo hi=xs:=by
 unfold iu;rw[hw.1,hw.2,uF,Cc,i_]
theorem Fd:Yt X aas:=by
 intro af s σ H x v vl vu lo hi sl Q I rx hs pl pu h;obtain⟨a,xs,rfl,hx,q⟩:=h;by_cases hw:HT.fY xs.length 0 lo=0/\HT.fY xs.length xs.length hi=xs.length
 .cases rx;obtain⟨its,r,ht,hz⟩:=I.tuple (cu.of hx);have e8:its.toArray.size=xs.length:=by rw[ce];exact r.length.symm
  refine⟨"tuple",_,wf.lookup,ht.typeIs,?_⟩;exact pX ht hs pl pu (by rw[e8];exact hw) ⟨.ref a,H,I,rfl,q a H (aI.refl _) (by rw[KA hw];exact hx)⟩
 .exact Qx af s σ H _ v vl vu lo hi sl Q I rx hs pl pu ⟨a,xs,rfl,cu.of hx,hw,fun p hp=>q p _ (aj hp) ae⟩
end
end L2
namespace lj
abbrev gu(ts:Ts)(h:Int):Nat:=(ts.filter fun t=>decide (t.1=h)).length
theorem Fe:gu (ts++us) h=gu ts h+gu us h:=by unfold gu;rw[ic,dh]
theorem yF:gu [(a,b),(b,a)] h=(if a=h then 1 else 0)+(if b=h then 1 else 0):=by
 unfold gu;by_cases c1:a=h <;> by_cases c2:b=h <;> simp[c1,c2]
theorem Ff:gu (et (ps++[(a,b)])) h=gu (et ps) h+((if a=h then 1 else 0)+(if b=h then 1 else 0)):=by
 rw[oz,Fe];exact congrArg _ yF
theorem NC:et [(a,b)]=[(a,b),(b,a)]:=rfl
theorem ND(ha:a<n)(hb:b<n)(rS:a≠b):Bn n [(ci a,ci b),(ci b,ci a)]:=by
 have ne:ci a≠ci b:=fun e=>rS (d7 e);refine⟨?_,?_,?_,?_,?_⟩
 .rw[gI];refine⟨fun h=>?_,by simp⟩;have:=dA.mp h;exact ne (congrArg Prod.fst this)
 .intro t ht;rcases bq.mp ht with rfl|ht
  .exact⟨⟨by lia,by lia⟩,⟨by lia,by lia⟩⟩
  .rw[dA.mp ht];exact⟨⟨by lia,by lia⟩,⟨by lia,by lia⟩⟩
 .intro t ht;rcases bq.mp ht with rfl|ht
  .exact ne
  .rw[dA.mp ht];exact fun e=>ne e.symm
 .intro h;by_cases c1:ci a=h <;> by_cases c2:ci b=h <;> simp[c1,c2]
 .intro h;have:=yF (a:=ci a) (b:=ci b) (h:=h);show gu [(ci a,ci b),(ci b,ci a)] h<=8;rw[this];split <;> split <;> lia
theorem cJ.pair(F:cJ n (et ps))(ha:a<n)(hb:b<n)(rS:a≠b)(h1:(ci a,ci b)∉ps)(h2:(ci b,ci a)∉ps)(d1:gu (et ps) (ci a)<=7)(d2:gu (et ps) (ci b)<=7):cJ n (et (ps++[(ci a,ci b)])):=by
 rw[oz,NC];have ne:ci a≠ci b:=fun e=>rS (d7 e);refine F.app (tS F.pre (ND ha hb rS) (fun t ht=>?_) fun h=>?_)
 .rcases bq.mp ht with rfl|ht
  .exact fun z=>(pO.mp z).elim h1 h2
  .rw[dA.mp ht];exact fun z=>(pO.mp z).elim h2 h1
 .show gu (et ps) h+gu [(ci a,ci b),(ci b,ci a)] h<=8;rw[yF];have m:=F.most h;by_cases c1:ci a=h
  .subst c1;rw[ap rfl,ao (fun e=>ne e.symm)];lia
  .by_cases c2:ci b=h
   .subst c2;rw[ao c1,ap rfl];lia
   .rw[ao c1,ao c2];exact m
theorem NF(Pzz:Bn n ts):Bn n (ts.map v7):=by
 have fl:∀h:Int,((ts.map v7).filter fun t=>decide (t.1=h)).length=(ts.filter fun t=>decide (t.2=h)).length:=fun h=>by
  rw[qG,aT];rfl
 have fl2:∀h:Int,((ts.map v7).filter fun t=>decide (t.2=h)).length=(ts.filter fun t=>decide (t.1=h)).length:=fun h=>by
  rw[qG,aT];rfl
 refine⟨?_,fun t ht=>?_,fun t ht=>?_,fun h=>?_,fun h=>?_⟩
 .refine gk.mpr (Pzz.nd.imp fun {x y} wO e=>wO ?_);have e1:=congrArg Prod.fst e;have e2:=congrArg Prod.snd e;exact iG e2 e1
 .obtain⟨u,hu,rfl⟩:=bB.mp ht;exact⟨(Pzz.rg u hu).2,(Pzz.rg u hu).1⟩
 .obtain⟨u,hu,rfl⟩:=bB.mp ht;exact fun e=>Pzz.ne u hu e.symm
 .rw[fl,fl2,Pzz.GY]
 .rw[fl,<-Pzz.GY];exact Pzz.most h
theorem RX(h:3<=m)(hk:k<m):pk m (pk m k)≠k:=by
 unfold pk;split <;> split <;> lia
theorem AS(n1:3<=n)(n2:n<=32)(pm:xs.Perm (List.range n)):cJ n (et (v6 xs)):=by
 have F:=wW (by lia) n2 pm;have nd:xs.Nodup:=pm.nodup_iff.mpr jG;have hl:xs.length=n:=by rw[pm.length_eq,dk]
 have lt:∀x∈xs,x<n:=fun x hx=>bY.mp (pm.mem_iff.mp hx);obtain⟨Pzz,one⟩:=yr nd lt (by lia);have Q:=NF Pzz;refine cJ.perm ?_ ji;refine F.app (tS Pzz Q (fun t ht hm=>?_) fun h=>?_)
 .obtain⟨u,hu,rfl⟩:=bB.mp ht;obtain⟨k,hk,rfl⟩:=pN hu;obtain⟨j,hj,e⟩:=pN hm;have e1:xs.getD k 0=xs.getD (pk xs.length j) 0:=d7 (congrArg Prod.fst e);have e2:xs.getD (pk xs.length k) 0=xs.getD j 0:=d7 (congrArg Prod.snd e);have pj:=wV hj;have pk':=wV hk;rw[dD hk,dD pj] at e1;rw[dD pk',dD hj] at e2;have i1:=kB nd hk pj e1;have i2:=kB nd pk' hj e2;rw[<-i2] at i1;exact RX (by lia) hk i1.symm
 .have o1:=one h;have e:((v6 xs).map v7).filter (fun t=>decide (t.1=h))=((v6 xs).filter fun t=>decide (t.2=h)).map v7:=by rw[qG];rfl
  rw[e,aT,<-Pzz.GY];lia
def oG(xs:aQ):Ts:=(List.range xs.length).map fun k=>(ci (xs.getD k 0),ci (xs.getD ((k+1) % xs.length) 0))
theorem KB:((List.range m).map fun k=>(k+1) % m).Perm (List.range m):=by
 cases m with
 |zero=>exact iD _
 |succ m=>
  rw[lu,dt,List.map_singleton,Nat.mod_self];have e:(List.range m).map (fun k=>(k+1) % (m+1))=(List.range m).map (·+1):=j5 fun k hk=>jE (by have:=bY.mp hk;lia);rw[e];refine j4.trans ?_;rw[<-lu,qm];exact iD _
theorem mT:(oG xs).Perm (v6 xs):=by
 have h:=(KB (m:=xs.length)).map fun k=>(ci (xs.getD (pk xs.length k) 0),ci (xs.getD k 0))
 rw[dQ] at h;refine List.Perm.trans (lR ?_) h;unfold oG;refine j5 fun k hk=>?_;have LX:=bY.mp hk;have:pk xs.length ((k+1) % xs.length)=k:=by
  by_cases c:k+1=xs.length
  .rw[c,Nat.mod_self];unfold pk;rw[ap rfl];lia
  .rw[jE (by lia)];unfold pk;rw[ao (by lia)];lia
 show _=(ci (xs.getD (pk xs.length ((k+1) % xs.length)) 0),ci (xs.getD ((k+1) % xs.length) 0));rw[this]
theorem cJ.round(F:cJ n ts)(nd:xs.Nodup)(lt:∀x∈xs,x<n)(c2:2<=xs.length)(hf:∀x∈xs,gu ts (ci x)<=7)(hn:∀t∈oG xs,t∉ts):cJ n (ts++oG xs):=by
 have Pzz:=G0 F.pre nd lt c2 (fun t ht=>?_) (fun t ht=>hn t (mT.mem_iff.mpr ht))
 .exact(F.app Pzz).perm (lG _ mT)
 .obtain⟨k,hk,rfl⟩:=pN ht;exact hf _ (mQ (wV hk))
end lj
namespace rY
open PySem L2 lj
abbrev RY:Stmt:=top 39
abbrev KC:Stmt:=top 40
abbrev KD:Stmt:=top 52
structure Uu(mg:cr):Prop where
 abs:mg "abs"=none
 divmod:mg "divmod"=none
 dict:mg "dict"=none
 zip:mg "zip"=none
 repr:mg "repr"=none
theorem Ht:∀ {xs:bg},ju e xs []=decide (xs=[])
 |[]=>rfl
 |x::xs=>by simp[ju]
def bn(H:Hp)(p:Addr):Prop:=∃a b:Int,H p=some (.lst [.int a,.int b])/\0<=a/\0<=b/\b<4294967296
theorem bn.same(h:bn H p)(s:aI H H'):bn H' p:=let ⟨a,b,e,r⟩:=h;⟨a,b,s _ _ e,r⟩
theorem bn.full(h:bn H p):H p≠none:=by obtain⟨a,b,e,_⟩:=h;rw[e];intro z;cases z
theorem bn.ne(h:bn H p)(e:H q=none):q≠p:=by rintro rfl;exact h.full e
theorem bn.put(h:bn H p)(n:p≠q):bn (upd H q o) p:=let ⟨a,b,e,r⟩:=h;⟨a,b,by rw[aq n];exact e,r⟩
theorem bn.neT(h:bn H p)(e:H q=some (.tup xs)):q≠p:=by rintro rfl;obtain⟨a,b,z,_⟩:=h;rw[e] at z;cases z
theorem PO.r0(h:PO H zs)(s:aO p H H')(hp:bn H p):PO H' zs:=fun z hz=>s _ _ (h z hz) (hp.neT (h z hz))
theorem WB{j:Int}(h1:0<j)(h2:j<2 ^ 200):Nat.log2 j.natAbs<200:=(Nat.log2_lt (by lia)).mpr (by lia)
theorem KE{X:Cx}:nh X (binaryOp .FloorDiv) (rI (fun _ j=>0<j/\j<2 ^ 200) fun i j=>.int (i / j)):=U8 fun i j _ _ _ _ _ hc q=>by
 have h1:(0:Int)<j:=hc.1;have h2:j<2 ^ 200:=hc.2;refine PyProof.Rows.floordiv_int (by lia) (by rw[Bt i (by lia)];exact q) (.inl (Iz ?_));exact qI (WB h1 h2) (by decide)
theorem yG{X:Cx}:gf X (.builtin "divmod") (fun xs H Q=>∃i j,xs=[.int i,.int j]/\(0<j/\j<2 ^ 200)/\∀p,H p=none->Q (.ref p) (upd H p (.tup [.int (i / j),.int (i % j)]))):=by
 intro af s σ H xs us Q I r h;obtain⟨i,j,rfl,⟨h1,h2⟩,q⟩:=h;obtain⟨u,w',rfl,⟨t,rfl⟩,⟨t',rfl⟩⟩:=IY r;refine PyProof.Rows.divmod_int (by lia) ?_ (.inl (Iz (qI (WB h1 h2) (by decide))));rw[Bt i (by lia),Bs i (by lia)];have hn:H s.heap.objs.size=none:=I.cY.fresh (aP _);refine⟨.ref s.heap.objs.size,_,?_,rfl,q _ hn⟩;refine I.laid (fun b o e=>bP _ e) (aP _) ⟨by simp only[fj,List.length_nil];rw[ge];decide,[.int (i / j) s.toks,.int (i % j) (s.toks+1)],.cons ⟨_,rfl⟩ (.cons ⟨_,rfl⟩ .nil),?_⟩;exact⟨_,cX s.heap rfl,rfl,0,rfl,rfl⟩
section
variable {P:bL} {w:World} {K:a_} {mg:cr} {base:Heap}
theorem PQ:aN ["_law_script","_law_k","_law_cell"] ["_law_script","_law_k"] (aw RY):=dW (by decide +kernel)
def KG(K:a_):Sp:=fun vs H Q _=>∃ (a:Addr) (ns:dG) (k:Nat),vs=[.ref a,.int k]/\a8 K H a (ns.map V.int)/\k<64/\∀ (r:Addr) (H':Hp),aI H H'->H r=none->bn H' r->Q (.ref r) H'
theorem RZ(F:iH K "_law_pot" "_law_pot" RY f fd)(B:Bl mg)(B2:Uu mg):bU P w K mg base bo 1 f fd ["_law_script","_law_k"] (KG K):=by
 refine F.ok PQ (fun vs H Q E h=>?_) (fun fX A outer s H vs Q E hr h=>?_)
 .obtain⟨a,ns,k,rfl,_⟩:=h;rfl
 .obtain⟨a,ns,k,rfl,hS,hk,q⟩:=h;refine⟨_,(ak (aW (i:=2) PQ.nd rfl aL (zF (aY ni (pv 1) (aJ aV (by rfl) B.len fc (aa (pv 0) ag)) (bp _)) (aX aG (pv 0) (pv 1) (fun _ _=>rfl)) az))
   (av (bh (cH (aa (aJ (wu rfl) (by rfl) B.max BH (aa az (aa (a9 k6 (aJ zP (by rfl) B2.abs PyProof.Rows.boot_abs (aa (pv 2) ag)) (a9 Cq az az)) ag))) (aa (a9 dM (a9 dM (a9 jd (aJ zP (by rfl) B2.abs PyProof.Rows.boot_abs (aa (pv 2) ag)) az) (a9 l7 az (pv 1))) az) ag)))))),?_⟩
  dsimp only;refine wX (fun σ Hc=>Hc=H/\∃c:Int,σ=[some (.ref a),some (.int k),some (.int c)]) ?_ ?_
  .rintro σ Hc ⟨rfl,c,rfl⟩;obtain⟨z,hz,z0⟩:∃z:Int,z=(if c<0 then -c else c)/\0<=z:=⟨_,rfl,by split <;> lia⟩
   have m0:0<=z % 2147483629:=uy _ (by decide);have m1:z % 2147483629<2147483629:=ui _ (by decide);refine⟨_,rfl,c,rfl,?_⟩;rw[<-hz];refine⟨_,_,rfl,rfl,⟨by decide,by decide,by decide⟩,_,_,rfl,rfl,0,_,rfl,_,rfl,c,rfl,?_⟩;rw[<-hz];refine⟨_,_,rfl,rfl,(by show (0:Int)<2147483629;decide),_,rfl,_,_,rfl,rfl,.inl ⟨by decide,by decide⟩,_,_,rfl,rfl,_,_,rfl,rfl,by show 2<=sizeLine;decide,fun r CQ=>?_⟩;exact q r _ (aj CQ) CQ ⟨_,_,ae,by split <;> lia,by lia,by lia⟩
  .intro N hN;refine⟨_,rfl,_,rfl,a,_,rfl,.inl hS,_,_,rfl,rfl,_,rfl,gU (fun e=>?_) (fun e=>hN _ _ ⟨rfl,0,rfl⟩)⟩;have Ph:k<ns.length:=by have:=fu e;rw[aT] at this;lia
   exact⟨_,rfl,_,rfl,a,_,_,.int ns[k],rfl,rfl,hS,aD (by rw[cA,cz Ph];rfl),hN _ _ ⟨rfl,_,rfl⟩⟩
theorem KH:aN ["_law_pot_here","_law_many","_law_digit"] ["_law_pot_here","_law_many"] (aw KC):=dW (by decide +kernel)
def io:Sp:=fun vs H Q _=>∃ (p:Addr) (m:Nat),vs=[.ref p,.int m]/\0<m/\m<2 ^ 200/\bn H p/\∀ (d:Nat) (H':Hp),d<m->aO p H H'->bn H' p->Q (.int d) H'
theorem NG(F:iH K "_law_take" "_law_take" KC f fd)(B2:Uu mg):bU P w K mg base bo 1 f fd ["_law_pot_here","_law_many"] io:=by
 refine F.ok KH (fun vs H Q E h=>?_) (fun fX A outer s H vs Q E hr h=>?_)
 .obtain⟨p,m,rfl,_⟩:=h;rfl
 .obtain⟨p,m',rfl,m0',m1',⟨a,b,hp,a0,b0,b1⟩,q'⟩:=h;generalize hm:((m':Nat):Int)=m;have m0:0<m:=by lia
  have m1:m<2 ^ 200:=by lia
  have q:∀ (d a b:Int) (H':Hp),0<=d->d<m->0<=a->0<=b->b<4294967296->aO p H H'->H' p=some (.lst [.int a,.int b])->Q (.int d) H':=fun d a b H' h1 h2 h3 h4 h5 h6 h7=>by
   have:=q' d.toNat H' (by lia) h6 ⟨a,b,h7,h3,h4,h5⟩;rw[qr h1] at this;exact this
  refine⟨_,(ak (dS (aY O5 (aX aG (pv 0) az (fun _ _=>rfl)) az (bp _)) (ak (d8 (aJ yG (by rfl) B2.divmod PyProof.Rows.boot_divmod (aa (aX aG (pv 0) az (fun _ _=>rfl)) (aa (pv 1) ag))) (dX (n:=2) rfl (aE (gx (pv 0) az dY) (aE (aA (i:=2) KH.nd rfl aL) cM))))
    (av (bh (pv 2)))) b8)
   (ak (d8 (a9 jd (a9 dM (a9 l7 (aX aG (pv 0) az (fun _ _=>rfl)) az) az) az) (gx (pv 0) az dY))
   (av (bh (a9 jd (a9 KE (a9 jd (a9 l7 (aX aG (pv 0) az (fun _ _=>rfl)) (aX aG (pv 0) az (fun _ _=>rfl))) az) az) (pv 1)))))),?_⟩
  have g0:zS [V.int a,V.int b] 0=some (.int a):=aD (j:=0) rfl;have g1:zS [V.int a,V.int b] 1=some (.int b):=aD (j:=1) rfl;refine⟨_,rfl,p,_,_,_,rfl,rfl,a8.of hp,g0,_,_,rfl,rfl,_,rfl,?_⟩;refine gU (fun e=>?_) (fun e=>?_)
  .refine⟨_,rfl,p,_,_,_,rfl,rfl,a8.of hp,g0,_,rfl,_,_,rfl,⟨m0,by lia⟩,fun t ht=>?_⟩;have npt:p≠t:=am hp ht;refine⟨t,_,rfl,cu.of ae,rfl,_,_,rfl,?_⟩;refine⟨_,rfl,p,_,0,0,rfl,rfl,by rw[aq npt];exact hp,eJ (j:=0) (by show 0<2;decide),_,_,rfl,rfl,_,rfl,?_⟩;exact q _ _ _ _ (uy _ (by lia)) (ui _ m0) (Int.ediv_nonneg a0 (by lia)) b0 b1 (fun c o e n=>by rw[aq n,aq (am e ht)];exact e) ae
  .refine⟨_,rfl,p,_,_,_,rfl,rfl,a8.of hp,g1,_,_,rfl,rfl,.inl ⟨by lia,by lia⟩,_,_,rfl,rfl,_,_,rfl,rfl,(by show (0:Int)<2147483647;decide),?_⟩;refine⟨_,rfl,p,_,1,1,rfl,rfl,hp,eJ (j:=1) (by show 1<2;decide),?_⟩;have c0:0<=(b*48271+12345) % 2147483647:=uy _ (by decide);have c1:(b*48271+12345) % 2147483647<2147483647:=ui _ (by decide);refine⟨_,rfl,p,_,_,_,rfl,rfl,a8.of ae,aD (j:=1) rfl,_,rfl,p,_,_,_,rfl,rfl,a8.of ae,aD (j:=1) rfl,_,_,rfl,rfl,.inl ⟨by lia,by lia⟩,_,_,rfl,rfl,(by show (0:Int)<2147483629;decide),_,_,rfl,rfl,⟨by decide,by decide⟩,_,rfl,_,_,rfl,rfl,m0,?_⟩;exact q _ _ _ _ (uy _ (by lia)) (ui _ m0) a0 c0 (by lia) aO.upd ae
theorem AT:∀ {xs:aQ} {k:Nat},(NV xs).eraseIdx k=NV (xs.eraseIdx k)
 |[],_=>rfl
 |x::xs,0=>rfl
 |x::xs,k+1=>congrArg (V.int (x:Nat)::·) (AT (xs:=xs) (k:=k))
theorem vz:∀ {ls:aQ} {k:Nat} (hk:k<ls.length),(ls[k]::ls.eraseIdx k).Perm ls
 |x::xs,0,_=>iD _
 |x::xs,k+1,h=>(List.Perm.swap x _ _).trans ((vz (ls:=xs) (k:=k) (by simpa using h)).cons x)
theorem KI{xs ls:aQ}{k v:Nat}{r:aQ}(p:(xs++ls).Perm r)(h:ls[k]?=some v):(xs++[v]++ls.eraseIdx k).Perm r:=by
 refine List.Perm.trans ?_ p;rw[dP];refine lG _ ?_;obtain⟨hk,e⟩:=eR.mp h;subst e;exact vz hk
theorem R1:aN ["_law_pot_here"] ["_law_pot_here"] (aw KD):=dW (by decide +kernel)
def DG:Sp:=fun vs H Q _=>∃ (p:Addr),vs=[.ref p]/\bn H p/\∀ (d:Nat) (H':Hp),d<10 ^ 18->aO p H H'->bn H' p->Q (.int d) H'
theorem NH(F:iH K "_law_beat" "_law_beat" KD f fd)(D:d9 P w K mg base bo 1 "_law_take" ["_law_pot_here","_law_many"] io):bU P w K mg base bo 2 f fd ["_law_pot_here"] DG:=by
 refine F.ok R1 (fun vs H Q E h=>?_) (fun fX A outer s H vs Q E hr h=>?_)
 .obtain⟨p,rfl,_⟩:=h;rfl
 .obtain⟨p,rfl,hp,q⟩:=h;refine⟨_,(av (bh (aX aG (cH (aa (aH D hr aM (aa (pv 0) (aa az ag))) (aa (aH D hr aM (aa (pv 0) (aa (a9 Cq az az) ag))) ag))) (aH D hr aM (aa (pv 0) (aa az ag))) (fun _ _=>rfl)))),?_⟩;refine⟨_,rfl,p,40,rfl,by decide,by decide,hp,fun d1 H1 hd1 s1 mW=>⟨_,rfl,_,_,rfl,rfl,⟨by decide,by decide,by decide⟩,p,10 ^ 18,rfl,by decide,by decide,mW,fun d2 H2 RW s2 vK=>⟨by show 2<=sizeLine;decide,fun l hl=>?_⟩⟩⟩;have sl:=aj (o:=.lst [.int (d1:Int),.int (d2:Int)]) hl;refine⟨_,rfl,p,2,rfl,by decide,by decide,vK.same sl,fun d3 H3 hd3 s3 nB=>?_⟩;have s4:=((s1.trans s2).trans (aO.of sl)).trans s3;have hl3:=s3 _ _ (ae (H:=H2) (a:=l) (o:=.lst [.int (d1:Int),.int (d2:Int)])) (vK.ne hl);rcases(show d3=0\/d3=1 by lia) with rfl|rfl
  .exact⟨l,_,_,_,rfl,rfl,a8.of hl3,aD (j:=0) rfl,q d1 H3 (by lia) s4 nB⟩
  .exact⟨l,_,_,_,rfl,rfl,a8.of hl3,aD (j:=1) rfl,q d2 H3 RW s4 nB⟩
end
end rY
namespace lj
theorem vk.zero(Tr:vk n (List.range n) k ts)(hk:k<=n)(h:k<=x):gu ts (ci x)=0:=by
 unfold gu;rw[ub.mpr];· rfl
 intro t ht z;obtain⟨a,b,ha,hb,rfl⟩:=Tr.ends t ht;rw[List.take_range,B7 hk] at ha;have:=bY.mp ha;have:=d7 (fu z);lia
def ren(xs:aQ)(t:lF):Int×Int:=(ci (xs.getD t.1.toNat 0),ci (xs.getD t.2.toNat 0))
theorem vA{n:Nat}{xs:aQ}(pm:xs.Perm (List.range n)){a b:Nat}(ha:a<n)(hb:b<n)(e:xs.getD a 0=xs.getD b 0):a=b:=by
 have xl:xs.length=n:=by have:=pm.length_eq;rwa [dk] at this
 rw[dD (by lia),dD (by lia)] at e;exact kB (pm.nodup_iff.mpr jG) (by lia) (by lia) e
theorem PU{n:Nat}{xs:aQ}(pm:xs.Perm (List.range n)){a:Nat}(ha:a<n):xs.getD a 0<n:=by
 have xl:xs.length=n:=by have:=pm.length_eq;rwa [dk] at this
 exact bY.mp (pm.mem_iff.mp (mQ (by lia)))
theorem KJ{n:Nat}{xs:aQ}(pm:xs.Perm (List.range n)){b:Nat}(hb:b<n):∃a,a<n/\xs.getD a 0=b:=by
 have xl:xs.length=n:=by have:=pm.length_eq;rwa [dk] at this
 obtain⟨a,ha,e⟩:=nK.mp (pm.mem_iff.mpr (bY.mpr hb));exact⟨a,by lia,by rw[dD ha];exact e⟩
theorem WC(h:T ts a b):T (ts.map (ren xs)) (xs.getD a 0) (xs.getD b 0):=bB.mpr ⟨_,h,rfl⟩
theorem AU:∀ {k b:Nat},fU ts k a b->fU (ts.map (ren xs)) k (xs.getD a 0) (xs.getD b 0)
 |0,b,h=>congrArg (fun x=>xs.getD x 0) (show a=b from h)
 |k+1,b,⟨c,w,t⟩=>⟨_,AU w,WC t⟩
theorem fV:∀ {l:List α},(∀x∈l,c (f x)=d x)->((l.map f).filter c).length=(l.filter d).length
 |[],_=>rfl
 |x::l,h=>by
  rw[gJ,eU,eU,h x cK];have ih:=fV (l:=l) fun y hy=>h y (dq _ hy);split <;> simp[ih]
theorem cJ.ren{n:Nat}{ts:Ts}{xs:aQ}(F:cJ n ts)(pm:xs.Perm (List.range n)):cJ n (ts.map (ren xs)):=by
 have PV:∀t∈ts,∃a b:Nat,a<n/\b<n/\t=(ci a,ci b):=fun t ht=>by
  obtain⟨⟨a0,a1⟩,⟨b0,b1⟩⟩:=F.rg t ht;exact⟨t.1.toNat,t.2.toNat,by lia,by lia,iG (qr a0).symm (qr b0).symm⟩
 have c1:∀h:Int,(∃a,a<n/\h=ci (xs.getD a 0))\/∀a,a<n->ci (xs.getD a 0)≠h:=fun h=>by
  by_cases z:∃a,a<n/\h=ci (xs.getD a 0)
  .exact .inl z
  .exact .inr fun a ha e=>z ⟨a,ha,e.symm⟩
 have cf:∀h:Int,((ts.map (lj.ren xs)).filter fun t=>decide (t.1=h)).length=((ts.map (lj.ren xs)).filter fun t=>decide (t.2=h)).length/\((ts.map (lj.ren xs)).filter fun t=>decide (t.1=h)).length<=8:=fun h=>by
  rcases c1 h with ⟨a,ha,rfl⟩|no
  .rw[fV (d:=fun t=>decide (t.1=ci a)) fun t ht=>?_,fV (d:=fun t=>decide (t.2=ci a)) fun t ht=>?_]
   .exact⟨F.GY _,F.most _⟩
   .obtain⟨x,y,hx,hy,rfl⟩:=PV t ht;exact uv.mpr ⟨fun e=>congrArg ci (vA pm hy ha (d7 e)),fun e=>by have:=d7 e;show ci (xs.getD y 0)=_;rw[this]⟩
   .obtain⟨x,y,hx,hy,rfl⟩:=PV t ht;exact uv.mpr ⟨fun e=>congrArg ci (vA pm hx ha (d7 e)),fun e=>by have:=d7 e;show ci (xs.getD x 0)=_;rw[this]⟩
  .rw[fV (d:=fun _=>false) fun t ht=>?_,fV (d:=fun _=>false) fun t ht=>?_]
   .have z:ts.filter (fun _=>false)=[]:=ub.mpr fun x _ q=>nomatch q;rw[z];exact⟨rfl,cp _⟩
   .obtain⟨x,y,hx,hy,rfl⟩:=PV t ht;exact gY (no y hy)
   .obtain⟨x,y,hx,hy,rfl⟩:=PV t ht;exact gY (no x hx)
 refine⟨F.n1,F.n2,?_,fun t ht=>?_,fun t ht=>?_,fun h=>(cf h).1,fun h=>(cf h).2,fun a b ha hb=>?_⟩
 .refine(gk.mpr (F.nd.imp_of_mem fun {t u} ht hu ne e=>ne ?_));obtain⟨x,y,hx,hy,rfl⟩:=PV t ht;obtain⟨x',y',qQ,YC,rfl⟩:=PV u hu;have e1:x=x':=vA pm hx qQ (d7 (congrArg Prod.fst e));have e2:y=y':=vA pm hy YC (d7 (congrArg Prod.snd e));rw[e1,e2]
 .obtain⟨u,hu,rfl⟩:=bB.mp ht;obtain⟨x,y,hx,hy,rfl⟩:=PV u hu;have:=PU pm hx;have:=PU pm hy;exact⟨⟨by show (0:Int)<=ci _;lia,by show ci (xs.getD x 0)<_;lia⟩,⟨by show (0:Int)<=ci _;lia,by show ci (xs.getD y 0)<_;lia⟩⟩
 .obtain⟨u,hu,rfl⟩:=bB.mp ht;have:=F.ne u hu;obtain⟨x,y,hx,hy,rfl⟩:=PV u hu;intro e;exact this (congrArg ci (vA pm hx hy (d7 e)))
 .obtain⟨a',QE,rfl⟩:=KJ pm ha;obtain⟨b',vW,rfl⟩:=KJ pm hb;obtain⟨k,w⟩:=F.con a' b' QE vW;exact⟨k,AU w⟩
theorem KL:∀ {xs:List α},(xs.flatMap fun x=>f x++g x).Perm (xs.flatMap f++xs.flatMap g)
 |[]=>.refl _
 |x::xs=>by
  rw[nU,nU,nU,dP,dP];refine lG _ (((KL (xs:=xs)).append_left _).trans ?_);rw[<-dP,<-dP];exact xn _ j4
theorem yH{α β γ:Type}{f:α->β->List γ}{ys:List β}:∀ {xs:List α},(xs.flatMap fun x=>ys.flatMap (f x)).Perm (ys.flatMap fun y=>xs.flatMap fun x=>f x y)
 |[]=>by
  rw[List.flatMap_nil,List.flatMap_eq_nil_iff.mpr fun y _=>List.flatMap_nil]
 |x::xs=>by
  rw[nU];refine((yH (xs:=xs)).append_left _).trans ?_;refine(KL (xs:=ys)).symm.trans (lR ?_);exact congrArg (fun g=>ys.flatMap g) (funext fun y=>(nU (f:=fun x=>f x y)).symm)
theorem wY:∀ {l:List α},(l.filter c).map f=l.flatMap fun x=>if c x=true then [f x] else []
 |[]=>rfl
 |x::l=>by
  rw[eU,nU,<-wY (l:=l)];by_cases h:c x=true
  .rw[ap h,ap h];rfl
  .rw[ao h,ao h];rfl
def AV(ns:aQ)(i h:Nat):List (Nat×Nat):=(List.range i).flatMap fun j=>if h / pr (ns.take j) % ns.getD j 0+1<ns.getD j 0 then [(h,h+pr (ns.take j))] else []
theorem KM{m:Nat}{ns:aQ}:((List.range m).flatMap (AV ns ns.length)).Perm ((List.range ns.length).flatMap fun j=>E4 m (pr (ns.take j)) (ns.getD j 0)):=by
 refine(yH (f:=fun h j=>if h / pr (ns.take j) % ns.getD j 0+1<ns.getD j 0 then [(h,h+pr (ns.take j))] else [])).trans (lR ?_);refine congrArg (fun f=>(List.range ns.length).flatMap f) (funext fun j=>?_);unfold E4;rw[wY];refine congrArg (fun f=>(List.range m).flatMap f) (funext fun h=>?_);simp
def NI(b i h:Nat):List (Nat×Nat):=(List.range (b-h / b ^ i % b-1)).map fun k=>(h,h+(k+1)*b ^ i)
def Hu(b i h:Nat):List (Nat×Nat):=(List.range i).flatMap fun j=>NI b j h
theorem KO{f b:Nat}:((List.range (b ^ f)).flatMap (Hu b f)).Perm (vp f b):=yH (f:=fun h j=>NI b j h)
theorem mq(h:ps.Perm qs):(et ps).Perm (et qs):=by
 unfold et;exact List.Perm.flatMap_right _ h
theorem Hv(n1:3<=n)(n2:n<=32):cJ n (et (oG (List.range n))):=(AS n1 n2 (iD _)).perm (mq mT)
end lj
namespace rY
open PySem L2 lj
theorem mr:∀ {k:Nat},(List.replicate k [x]).flatten=List.replicate k x
 |0=>rfl
 |k+1=>by rw[nM,uq,mr,nM];rfl
theorem wZ{A B:Prop}{b:Bool}(hb:b=true)(h:A):if b=true then A else B:=by rw[ap hb];exact h
theorem r6{A B:Prop}{b:Bool}(hb:b=false)(h:B):if b=true then A else B:=by rw[ao (by rw[hb];decide)];exact h
def pY(H:Hp)(D:Addr)(ts:Ts)(H2:Hp):Prop:=aI H H2/\∃zs:Zs,H2 D=some (.lst (zr zs))/\PO H2 zs/\zp zs=ts
theorem NJ(c:Nat->Bool)(c_:rM)(hD:H0 D=none)(hn:n<=1000)(h0:c_ σB)(hs:∀x σ H (Kt:j9) (Kf:ir),x<n->c_ σ->aI H0 H->(∀σ2 H2,c_ σ2->aI H H2->c x=true->Kt (.int (lo+(x:Nat))) σ2 H2)->(∀σ2 H2,c_ σ2->aI H H2->c x=false->Kf σ2 H2)->
   g (.int (lo+(x:Nat))) σ H fun σ2 H2=>tt σ2 H2 fun b H3=>if b=true then te σ2 H3 fun v H4=>Kt v σ2 H4 else Kf σ2 H3)(hd:∀H,aI H0 H->H D=some (.lst (((List.range n).filter c).map fun (x:Nat)=>V.int (lo+(x:Int))))->d_ H):ix (HV lo n) g tt te D d_ σB (upd H0 D (.lst [])):=by
 refine fJ (fun i ys σ H=>c_ σ/\aI H0 H/\H D=some (.lst ys)/\ys=((List.range i).filter c).map fun (x:Nat)=>V.int (lo+(x:Int))) ⟨h0,aj hD,ae,rfl⟩ ?_ ?_
 .rintro i ys σ H Kt Kf hi ⟨sh,sm,kC,rfl⟩ kt kf;refine hs i σ H Kt Kf hi sh sm (fun σ2 H2 yy s2 e=>?_) (fun σ2 H2 yy s2 e=>?_)
  .refine kt _ _ _ (s2 _ _ kC) ?_ ⟨yy,bj (sm.trans s2) hD,ae,?_⟩
   .rw[aT];refine eK (iK _ _) ?_;rw[dk];exact bv (show i<1000 by lia) (by decide)
   .rw[lu,ic,dt];simp[eU,e]
  .refine kf _ _ ⟨yy,sm.trans s2,s2 _ _ kC,?_⟩;rw[lu,ic];simp[eU,e]
 .rintro ys σ H ⟨_,sm,kC,rfl⟩;exact hd H sm kC
theorem rA:∀ {xs:aQ} {j x:Nat},(NV xs).set j (.int (x:Int))=NV (xs.set j x)
 |[],_,_=>rfl
 |y::ys,0,x=>rfl
 |y::ys,j+1,x=>congrArg (V.int (y:Int)::·) (rA (xs:=ys) (j:=j) (x:=x))
theorem iS(h:j<xs.length):(NV xs)[j]?=some (.int ((xs.getD j 0:Nat):Int)):=by
 unfold NV;rw[cA,cw,cz h];rfl
def eS(n:Nat)(ps:Ts):List Nat:=(List.range n).map fun (h:Nat)=>gu (et ps) (ci h)
theorem iB:(eS n ps).length=n:=by unfold eS;rw[aT,dk]
theorem kG(hh:h<n):(eS n ps).getD h 0=gu (et ps) (ci h):=by
 unfold eS;rw[cw,cA,f_ hh];rfl
theorem AW(ha:a<n)(hb:b<n)(rS:a≠b):((eS n ps).set a (gu (et ps) (ci a)+1)).set b (gu (et ps) (ci b)+1)=eS n (ps++[(ci a,ci b)]):=by
 have ne:∀x y:Nat,ci x=ci y->x=y:=fun x y e=>d7 e;refine lK fun i=>?_;by_cases hi:i<n
 .have g:∀qs:Ts,(eS n qs)[i]?=some (gu (et qs) (ci i)):=fun qs=>by unfold eS;rw[cA,f_ hi];rfl
  rw[g,Ff,um,um,g,ja,iB];by_cases c1:b=i
  .subst c1;rw[ap rfl,ap hb,ao (fun z=>rS (ne _ _ z)),ap rfl,jI]
  .rw[ao c1,ao (fun z=>c1 (ne _ _ z))];by_cases c2:a=i
   .subst c2;rw[ap rfl,ap ha,ap rfl]
   .rw[ao c2,ao (fun z=>c2 (ne _ _ z))];rfl
 .rw[f9 (by rw[ja,ja,iB];lia),f9 (by rw[iB];lia)]
theorem KR:List.replicate n (V.int 0)=NV (eS n []):=by
 refine lK fun i=>?_;unfold NV eS;rw[dQ,t_,cA];by_cases hi:i<n
 .rw[ap hi,f_ hi];rfl
 .rw[ao hi,f9 (by rw[dk];lia)];rfl
theorem vB(Pv:zE)(h0:Pv 0 [] σB H0)(hl:∀i ys σ H,i<=xs.length->Pv i ys σ H->cu K H a xs)(hs:∀i x ys σ H (Kt:j9) (Kf:ir),xs[i]?=some x->Pv i ys σ H->
   (∀v σ2 H4,H4 D=some (.lst ys)->ys.length<sizeLine->Pv (i+1) (ys++[v]) σ2 (upd H4 D (.lst (ys++[v])))->Kt v σ2 H4)->(∀σ2 H3,Pv (i+1) ys σ2 H3->Kf σ2 H3)->
   g x σ H fun σ2 H2=>tt σ2 H2 fun b H3=>if b=true then te σ2 H3 fun v H4=>Kt v σ2 H4 else Kf σ2 H3)(hd:∀ys σ H,Pv xs.length ys σ H->d_ H):ix (Zw K a) g tt te D d_ σB H0:=by
 refine⟨fun i m σ H=>m=xs.length-i/\i<=xs.length/\∃ys,Pv i ys σ H,⟨xs.length,by simp,cp _,[],h0⟩,?_⟩;rintro i m σ H ⟨rfl,hi,ys,p⟩;have q:=hl i ys σ H hi p;by_cases eX:i<xs.length
 .refine .inr ⟨⟨xs,xs[i],q,by simp[eX]⟩,?_⟩;rintro x H' ⟨rfl,y⟩;exact hs i x ys σ _ (fun v σ2 H4=>∃ys,H4 D=some (.lst ys)/\ys.length<sizeLine/\∃m',m'<xs.length-i/\m'=xs.length-(i+1)/\i+1<=xs.length/\∃vX,Pv (i+1) vX σ2 (upd H4 D (.lst (ys++[v]))))
   (fun σ2 H3=>∃m',m'<xs.length-i/\m'=xs.length-(i+1)/\i+1<=xs.length/\∃vX,Pv (i+1) vX σ2 H3) (y xs q) p
   (fun v σ2 H4 z1 z2 z3=>⟨ys,z1,z2,_,by lia,rfl,eX,_,z3⟩) (fun σ2 H3 z=>⟨_,by lia,rfl,eX,_,z⟩)
 .have e:i=xs.length:=by lia
  subst e;exact .inl ⟨⟨xs,q,aP _⟩,hd ys σ H p⟩
theorem NK(c:Int×Int->Bool)(c_:rM)(ha:H0 a=some (.lst (zr zs)))(hD:H0 D=none)(hn:zs.length<=1000)(h0:c_ σB)(hs:∀z σ H (Kt:j9) (Kf:ir),z∈zs->c_ σ->aI H0 H->(∀σ2 H2,c_ σ2->aI H H2->c z.2=true->Kt (.ref z.1) σ2 H2)->(∀σ2 H2,c_ σ2->aI H H2->c z.2=false->Kf σ2 H2)->
   g (.ref z.1) σ H fun σ2 H2=>tt σ2 H2 fun b H3=>if b=true then te σ2 H3 fun v H4=>Kt v σ2 H4 else Kf σ2 H3)(hd:∀H,aI H0 H->H D=some (.lst (zr (zs.filter fun z=>c z.2)))->d_ H):ix (IU K a) g tt te D d_ σB (upd H0 D (.lst [])):=by
 refine fZ (xs:=zr zs) (fun i ys σ H=>c_ σ/\aI H0 H/\H D=some (.lst ys)/\ys=zr ((zs.take i).filter fun z=>c z.2)) ⟨h0,aj hD,ae,rfl⟩ (fun i ys σ H _ z=>a8.of (z.2.1 _ _ ha)) ?_ ?_
 .rintro i x ys σ H Kt Kf hx ⟨sh,sm,kC,rfl⟩ kt kf;obtain⟨z,hz,rfl⟩:=vq hx;have hi:i<zs.length:=(eR.mp hz).1;have tk:zs.take (i+1)=zs.take i++[z]:=by rw[gW,hz];rfl
  refine hs z σ H Kt Kf (dz hz) sh sm (fun σ2 H2 yy s2 e=>?_) (fun σ2 H2 yy s2 e=>?_)
  .refine kt _ _ _ (s2 _ _ kC) ?_ ⟨yy,bj (sm.trans s2) hD,ae,?_⟩
   .rw[dZ];exact eK (iK _ _) (eK (xt _ _) (bv (show i<1000 by lia) (by decide)))
   .rw[tk,ic,eO];simp[eU,e,zr]
  .refine kf _ _ ⟨yy,sm.trans s2,s2 _ _ kC,?_⟩;rw[tk,ic];simp[eU,e]
 .rintro ys σ H ⟨_,sm,kC,rfl⟩;rw[dZ,i_] at kC;exact hd H sm kC
theorem Hw:zp (zs.filter fun z=>c z.2)=(zp zs).filter c:=by
 unfold zp;rw[qG];rfl
theorem v_:(zr (zs.filter fun z=>c z.2)).length=((zp zs).filter c).length:=by rw[dZ,<-b_,Hw]
section
variable {K:a_}
theorem Fg(po:PO H zs):zs.length=(zp zs).length/\∀i,i<(zp zs).length->cu K H ((zs.map (·.1)).getD i 0) [.int ((zp zs).getD i (0,0)).1,.int ((zp zs).getD i (0,0)).2]:=by
 refine⟨b_.symm,fun i hi=>?_⟩;rw[b_] at hi;rw[AJ hi,E8 hi];exact cu.of (po _ (ie hi))
end
theorem eH:(List.range (n+1)).flatMap f=(List.range n).flatMap f++f n:=by
 rw[lu,List.flatMap_append];simp
theorem tY:∀ {ns:aQ} {x:Nat},pr (ns++[x])=pr ns*x
 |[],x=>by show x*1=1*x;lia
 |n::ns,x=>by show n*pr (ns++[x])=n*pr ns*x;rw[tY,Nat.mul_assoc]
theorem KS:∀ {ns:aQ} {st:Nat},bx m st ns=(List.range ns.length).flatMap fun j=>E4 m (st*pr (ns.take j)) (ns.getD j 0)
 |[],st=>rfl
 |n::ns,st=>by
  show E4 m st n++bx m (st*n) ns=_;rw[fj,qm,nU,KS (ns:=ns)];congr 1
  .show E4 m st n=E4 m (st*1) n;rw[xJ]
  .rw[List.flatMap_map];congr 1;funext j;show _=E4 m (st*(n*pr (ns.take j))) (ns.getD j 0);rw[Nat.mul_assoc]
theorem qZ{α:Type}{g:Nat->List α}{M:Nat}(hg:∀x,(g x).length<=M):∀ {m:Nat},((List.range m).flatMap g).length<=m*M
 |0=>cp _
 |m+1=>by rw[eH,dh,Nat.succ_mul];have:=hg m;have:=qZ hg (m:=m);lia
theorem jk:∀ {ns:aQ} {i:Nat},(∀x∈ns,1<=x)->pr (ns.take i)<=pr ns
 |[],i,_=>by rw[List.take_nil];exact aP _
 |n::ns,0,h=>by
  show 1<=n*pr ns;have:∀ {l:aQ},(∀x∈l,1<=x)->1<=pr l:=fun {l}=>by
   induction l with
   |nil=>intro _;exact aP _
   |cons x l ih=>intro hl;exact uJ (hl x cK) (ih fun y hy=>hl y (dq _ hy))
  exact this (l:=n::ns) h
 |n::ns,i+1,h=>by
  show n*pr (ns.take i)<=n*pr ns;exact uf n (jk fun x hx=>h x (dq _ hx))
theorem pY.ext(hD:H D=none)(sm:aI H H2)(h1:H2 D=some (.lst (zr zo)))(DH:PO H2 zo)(ez:zp zo=ts)(s3:aI H2 H3)(po:PO H3 zs)(e:zp zs=us):pY H D (ts++us) (upd H3 D (.lst (zr zo++zr zs))):=
 ⟨bj (sm.trans s3) hD,zo++zs,by rw[ae,eO],PO.putL (xs:=zr zo) ((DH.same s3).append po) (s3 _ _ h1),by rw[eQ,ez,e]⟩
theorem DI{xs:bg}{k:Nat}:iu xs none (some (k:Int))=xs.take k:=by
 have h1:HT.fY xs.length 0 none=0:=rfl;have h2:HT.fY xs.length xs.length (some (k:Int))=min k xs.length:=by
  unfold HT.fY;simp;try lia
 unfold iu;rw[h1,h2,Cc,uF,List.take_eq_take_iff];simp;try lia
theorem vC{xs:bg}{k:Nat}:iu xs (some (k:Int)) none=xs.drop k:=by
 have h1:HT.fY xs.length 0 (some (k:Int))=min k xs.length:=by
  unfold HT.fY;simp;try lia
 have h2:HT.fY xs.length xs.length none=xs.length:=rfl;unfold iu;rw[h1,h2];by_cases c:k<=xs.length
 .rw[B7 c];exact qk (by rw[kL];exact aP _)
 .rw[Nat.min_eq_right (by lia),List.drop_of_length_le (aP _),List.drop_of_length_le (by lia),List.take_nil]
theorem Fh(ms:List β)(e G:β->V)(c_:rM)(ha:H0 a=some (.lst (ms.map e)))(hD:H0 D=none)(hn:ms.length<=1000)(h0:c_ σB)(hs:∀m σ H (R:j9) (Kf:ir),m∈ms->c_ σ->aI H0 H->(∀σ2 H2,c_ σ2->aI H H2->R (G m) σ2 H2)->
   g (e m) σ H fun σ2 H2=>tt σ2 H2 fun b H3=>if b=true then te σ2 H3 fun v H4=>R v σ2 H4 else Kf σ2 H3)(hd:∀H,aI H0 H->H D=some (.lst (ms.map G))->d_ H):ix (IU K a) g tt te D d_ σB (upd H0 D (.lst [])):=by
 refine fZ (xs:=ms.map e) (fun i ys σ H=>c_ σ/\aI H0 H/\H D=some (.lst ys)/\ys=(ms.take i).map G) ⟨h0,aj hD,ae,rfl⟩ (fun i ys σ H _ z=>a8.of (z.2.1 _ _ ha)) ?_ ?_
 .rintro i x ys σ H Kt Kf hx ⟨sh,sm,kC,rfl⟩ kt kf;rw[cA] at hx;cases hz:ms[i]? with
  |none=>rw[hz] at hx;cases hx
  |some m=>
   rw[hz] at hx;obtain rfl:e m=x:=cB hx;refine hs m σ H Kt Kf (dz hz) sh sm (fun σ2 H2 yy s2=>?_);refine kt _ _ _ (s2 _ _ kC) ?_ ⟨yy,bj (sm.trans s2) hD,ae,?_⟩
   .rw[aT];exact eK (BJ _ _) (eK hn (by decide))
   .rw[gW,hz,BR,dt];rfl
 .rintro ys σ H ⟨_,sm,kC,rfl⟩;rw[aT,i_] at kC;exact hd H sm kC
abbrev KU:Stmt:=top 41
abbrev KW:Stmt:=top 44
theorem Hz:(["_law_k","_law_many"]:bQ).Nodup:=by decide +kernel
theorem rB:(["_law_house","_law_degrees"]:bQ).Nodup:=by decide +kernel
section
variable {P:bL} {w:World} {K:a_} {mg:cr} {base:Heap}
theorem R4:aN ["_law_many"] ["_law_many"] (aw KU):=dW (by decide +kernel)
def yI:Sp:=fun vs H Q _=>∃n:Nat,vs=[.int n]/\2<=n/\n<=32/\∀ (r:Addr) (zs:Zs) (H':Hp),aI H H'->H r=none->H' r=some (.lst (zr zs))->PO H' zs->zp zs=oG (List.range n)->Q (.ref r) H'
theorem NL(F:iH K "_law_ring" "_law_ring" KU f fd)(B:Bl mg):bU P w K mg base bo 1 f fd ["_law_many"] yI:=by
 refine F.ok R4 (fun vs H Q E h=>?_) (fun fX A outer s H vs Q E hr h=>?_)
 .obtain⟨n,rfl,_⟩:=h;rfl
 .obtain⟨n,rfl,n1,n2,q⟩:=h;refine'⟨_,(av (bh ?c1)),?_⟩;case c1=>
   refine' cQ (g:=(bH 0)) (te:=(sn (bJ (bb 0) (bJ (jR (rI (fun _ j=>0<j) fun i j=>.int (i % j)) (jR (zM fun i j=>.int (i+j)) (bb 0) (tC (.int 1))) (bb 1)) h_)))) (NB:=["_law_k","_law_many"]) (src:=[none,some 0]) (bz (by kernel_rfl)) rfl (b9 rfl B.range (aa (pv 0) ag)) ?g ?t ?e;case g=>exact fun cl C s₃ H₃ fp=>(aA (i:=0) Hz rfl aL cW)
   case t=>exact fun cl C s₃ H₃ fp=>dC
   case e=>exact fun cl C s₃ H₃ fp=>(bT (aa (pv 0) (aa (a9 jd (a9 dM (pv 0) az) (pv 1)) ag)))
  refine⟨_,rfl,(n:Int),rfl,by lia,by lia,fun T0 R7=>?_⟩;refine AK (lo:=0) (n:=n) (fun k=>(ci k,ci ((k+1) % n))) (fun σ=>∃x,σ=[x,some (.int n)]) R7 (by lia) ⟨_,rfl⟩ ?_ ?_
  .rintro k σ H2 R Kf hk ⟨x,rfl⟩ Pu kt;rw[iF];exact⟨_,rfl,_,rfl,_,_,rfl,rfl,_,rfl,_,_,rfl,rfl,(by show (0:Int)<(n:Int);lia),by show 2<=sizeLine;decide,fun t ht=>kt _ _ ⟨_,rfl⟩ ht⟩
  intro zs H2 s2 hT2 DH NM _;refine q T0 zs H2 s2 R7 hT2 DH ?_;rw[NM];unfold oG;rw[dk];refine j5 fun k hk=>?_;have hk:=bY.mp hk;have Ph:(k+1) % n<n:=lV _ (by lia);rw[cw,f_ hk,cw,f_ Ph];rfl
theorem mw:aN ["_law_pot_here","_law_many","_law_more","_law_found","_law_degrees","_law_k","_law_some","_law_one","_law_other"] ["_law_pot_here","_law_many","_law_more"] (aw KW):=dW (by decide +kernel)
def DJ:Sp:=fun vs H Q _=>∃ (p:Addr) (n m:Nat),vs=[.ref p,.int n,.int m]/\2<=n/\n<=32/\m<=64/\bn H p/\∀ (r:Addr) (zs:Zs) (H':Hp),aO p H H'->bn H' p->H r=none->H' r=some (.lst (zr zs))->PO H' zs->cJ n (et (zp zs))->Q (.ref r) H'
theorem NN(F:iH K "_law_some_pairs" "_law_some_pairs" KW f fd)(B:Bl mg)(D:d9 P w K mg base bo 1 "_law_take" ["_law_pot_here","_law_many"] io):bU P w K mg base bo 2 f fd ["_law_pot_here","_law_many","_law_more"] DJ:=by
 refine F.ok mw (fun vs H Q E h=>?_) (fun fX A outer s H vs Q E hr h=>?_)
 .obtain⟨p,n,m,rfl,_⟩:=h;rfl
 .obtain⟨p,n,m,rfl,n1,n2,m1,hp,q⟩:=h;refine'⟨_,(ak (d8 (bT (aa (cH ag) (aa (a9 ya (cH (aa az ag)) (pv 1)) ag))) (dX (n:=2) rfl (aE (aA (i:=3) mw.nd rfl aL) (aE (aA (i:=4) mw.nd rfl cW) cM))))
   (ak (du eI rfl (qR rfl B.range (aa az (aa (pv 1) ag))) (aA (i:=5) mw.nd rfl aL)
    (ak (fE (i:=6) (g:=(bH 0)) (tt:=(pf (jR (zM fun i j=>.bl (decide (i<j))) (jR (sr K) (bb 1) (bb 0)) (tC (.int 7))))) (te:=(bb 0)) (NB:=["_law_house","_law_degrees"]) (src:=[none,some 4]) (bz (by kernel_rfl)) rfl (b9 rfl B.range (aa (pv 5) ag)) ?g1 ?t1 ?e1 mw.nd rfl rfl rfl)
    (ak (aW (i:=7) mw.nd rfl aL (aX aG (pv 6) (aH D hr aM (aa (pv 0) (aa (aJ aV (by rfl) B.len fc (aa (pv 6) ag)) ag))) (fun _ _=>rfl)))
    (ak (cG (gQ gy i8 i7 cV (pv 3) (aa (bT (aa (pv 7) (aa (pv 5) ag))) ag)))
    (av (d8 (bT (aa (a9 dM (aX aG (pv 4) (pv 7) (fun _ _=>rfl)) az) (aa az ag))) (dX (n:=2) rfl (aE (gx (pv 4) (pv 7) dY) (aE (gx (pv 4) (pv 5) dY) cM)))))))))
   (ak (du eI rfl (b9 rfl B.range (aa (pv 2) ag)) (aA (i:=5) mw.nd rfl aL)
    (ak (Ck (i:=7) (j:=8) rfl mw.nd rfl rfl (by decide) rfl rfl (aa (aH D hr aM (aa (pv 0) (aa (pv 1) ag))) (aa (aH D hr aM (aa (pv 0) (aa (pv 1) ag))) ag)) (by rfl))
    (av (dS (PW.pt (xP (aY zO (pv 7) (pv 8) (bp _)) (tE (aY ni (aJ (wu rfl) (by rfl) B.max BH (aa (aX aG (pv 4) (pv 7) (fun _ _=>rfl)) (aa (aX aG (pv 4) (pv 8) (fun _ _=>rfl)) ag))) az (bp _))))) (av (dS (PW.pt (xP (aY (mP hr.u) (bT (aa (pv 7) (aa (pv 8) ag))) (pv 3) rfl) (tE (aY (mP hr.u) (bT (aa (pv 8) (aa (pv 7) ag))) (pv 3) rfl)))) (ak (cG (gQ gy i8 i7 cV (pv 3) (aa (bT (aa (pv 7) (aa (pv 8) ag))) ag)))
      (ak (d8 (a9 dM (aX aG (pv 4) (pv 7) (fun _ _=>rfl)) az) (gx (pv 4) (pv 7) dY))
      (av (d8 (a9 dM (aX aG (pv 4) (pv 8) (fun _ _=>rfl)) az) (gx (pv 4) (pv 8) dY))))) b8)) b8))))
   (av (bh (pv 3)))))),?_⟩
  case g1=>exact fun cl C s₃ H₃ fp=>(aA (i:=0) rB rfl aL cW)
  case t1=>exact fun cl C s₃ H₃ fp=>g8 (aY ni (aX aG (pv 1) (pv 0) (fun _ _=>rfl)) az (bp _))
  case e1=>exact fun cl C s₃ H₃ fp=>(pv 0)
  refine⟨by show 0<=sizeLine;decide,fun Pr WD=>⟨by show 1<=sizeLine;decide,fun L1 tX=>⟨_,rfl,L1,_,_,rfl,rfl,ae,by lia,by lia,by rw[gE,lN];exact aZ (show 1*n<=32 by lia) (by decide),fun M hM=>?_⟩⟩⟩;rw[gE,mr,KR];refine⟨by show 2<=sizeLine;decide,fun T0 R7=>⟨T0,_,rfl,cu.of ae,rfl,_,_,rfl,_,_,rfl,rfl,?_⟩⟩;have sP:=aj (o:=.lst []) WD;have s1:=sP.trans (aj (o:=.lst [.int 0]) tX);have s3:=aj (o:=.tup [.ref Pr,.ref M]) R7;have s2:=(s1.trans (aj (o:=.lst (NV (eS n []))) hM)).trans s3;have gP:=s3 _ _ (aj (o:=.lst (NV (eS n []))) hM _ _ (aj (o:=.lst [.int 0]) tX _ _ (ae (H:=H) (a:=Pr) (o:=.lst (zr [])))));have gM:=s3 _ _ (ae (H:=upd (upd H Pr (.lst [])) L1 (.lst [.int 0])) (a:=M) (o:=.lst (NV (eS n []))));have YQ:Pr≠M:=am (aj tX _ _ ae) hM;have Uv:H M=none:=s1.free hM;have WE:Pr≠p:=hp.ne WD;have L4:M≠p:=hp.ne Uv;generalize upd (upd (upd (upd H Pr _) L1 _) M _) T0 _=H0 at *;refine⟨_,rfl,1,(n:Int),rfl,⟨by decide,by decide,by lia,by lia⟩,?_⟩;rw[show ((n:Int)-1).toNat=n-1 by lia];refine eh (lo:=1) (n:=n-1) (fun i σ Hc=>∃zs:Zs,(∃a b c d,σ=[some (.ref p),some (.int n),some (.int m),some (.ref Pr),some (.ref M),a,b,c,d])/\aO p H Hc/\bn Hc p/\Hc Pr=some (.lst (zr zs))/\PO Hc zs/\Hc M=some (.lst (NV (eS n (zp zs))))/\vk n (List.range n) (i+1) (et (zp zs))/\gu (et (zp zs)) (ci i)<=1)
   ⟨[],⟨none,none,none,none,rfl⟩,aO.of s2,hp.same s2,gP,PO.nil,gM,vk.start (by rw[dk];lia),cp _⟩ ?_ ?_
  .rintro i σ Hc hi ⟨zs,⟨a,b,c,d',rfl⟩,sc,oH,NO,po,DK,Tr,dg⟩;have e1:(1:Int)+(i:Int)=((i+1:Nat):Int):=by lia
   rw[e1];have YR:zs.length=i:=by have:=Tr.len;rw[tT,b_] at this;lia
   refine⟨_,rfl,((i+1:Nat):Int),rfl,by lia,by lia,fun D1 DB=>?_⟩;rw[show (((i+1:Nat):Int)).toNat=i+1 from rfl];refine NJ (lo:=0) (n:=i+1) (fun x=>decide (gu (et (zp zs)) (ci x)<7)) (fun σ=>∃a,σ=[a,some (.ref M)]) DB (by lia) ⟨_,rfl⟩ ?_ ?_
   .rintro x σ H4 Kt Kf hx ⟨a',rfl⟩ yD kt kf;rw[iF] at kt |-;have qQ:x<(eS n (zp zs)).length:=by rw[iB];lia
    refine⟨_,rfl,_,rfl,M,_,_,_,rfl,rfl,a8.of (yD _ _ DK),aD (iS qQ),_,_,rfl,rfl,_,rfl,?_⟩;have ed:=kG (ps:=zp zs) (show x<n by lia);refine gU (fun e=>?_) (fun e=>?_)
    .exact⟨_,rfl,kt _ _ ⟨_,rfl⟩ (aI.refl _) (iN (by have:=fu e;lia))⟩
    .exact kf _ _ ⟨_,rfl⟩ (aI.refl _) (gY (fun z=>e (iN (by lia))))
   .intro H4 yD Bo;have e0:((((List.range (i+1)).filter fun x=>decide (gu (et (zp zs)) (ci x)<7)).map fun (x:Nat)=>V.int (0+(x:Int))))=NV ((List.range (i+1)).filter fun x=>decide (gu (et (zp zs)) (ci x)<7)):=j5 fun x _=>by rw[iF]
    rw[e0] at Bo;have ne:0<((List.range (i+1)).filter fun x=>decide (gu (et (zp zs)) (ci x)<7)).length:=ua (gb.mpr ⟨bY.mpr (lL i),iN (show gu (et (zp zs)) (ci i)<7 by lia)⟩);have le:((List.range (i+1)).filter fun x=>decide (gu (et (zp zs)) (ci x)<7)).length<=i+1:=aZ (iK _ _) (by rw[dk];exact aP _);generalize hfs:(List.range (i+1)).filter (fun x=>decide (gu (et (zp zs)) (ci x)<7))=fs at *;have r9:=oH.same yD;refine⟨_,rfl,_,rfl,_,rfl,D1,_,rfl,.inl (a8.of Bo),p,_,rfl,by rw[be];exact ne,by rw[be];lia,r9,fun d H5 hd s5 w9=>?_⟩;rw[be] at hd;have nD1:D1≠p:=oH.ne DB;have hv:fs[d]?=some fs[d]:=cz hd;refine⟨D1,_,_,_,rfl,rfl,a8.of (s5 _ _ Bo nD1),aD (iS hd),?_⟩;have hsm:fs.getD d 0∈fs:=by rw[cw,hv];exact ie _
    generalize fs.getD d 0=sv at *;rw[<-hfs] at hsm;obtain⟨Gm,oP⟩:=gb.mp hsm;have hsv:sv<i+1:=bY.mp Gm;have hsd:gu (et (zp zs)) (ci sv)<7:=fu oP;have PX:=s5 _ _ (yD _ _ NO) WE;have Uw:=s5 _ _ (yD _ _ DK) L4;have Ik:PO H5 zs:=(po.same yD).r0 s5 r9;refine⟨_,rfl,.inl ⟨rfl,_,a8.of PX⟩,_,rfl,_,rfl,by show 2<=sizeLine;decide,fun t ht=>?_⟩;have st:=aj (o:=oQ (ci sv,ci (i+1))) ht;refine⟨Pr,_,_,rfl,rfl,st _ _ PX,by rw[dZ,YR];exact bv (show i<33 by lia) (by decide),?_⟩;have PY:(upd (upd H5 t (oQ (ci sv,ci (i+1)))) Pr (.lst (zr zs++[.ref t]))) M=some (.lst (NV (eS n (zp zs)))):=by rw[aq YQ.symm];exact st _ _ Uw
    have WF:sv<(eS n (zp zs)).length:=by rw[iB];lia
    refine⟨_,rfl,_,rfl,M,_,_,_,rfl,rfl,a8.of PY,aD (iS WF),_,_,rfl,rfl,by show 2<=sizeLine;decide,fun T hT=>?_⟩;have WG:(upd (upd H5 t (oQ (ci sv,ci (i+1)))) Pr (.lst (zr zs++[.ref t]))) Pr=some (.lst (zr zs++[.ref t])):=ae;have o6:∀b,b≠Pr->(upd (upd H5 t (oQ (ci sv,ci (i+1)))) Pr (.lst (zr zs++[.ref t]))) b=(upd H5 t (oQ (ci sv,ci (i+1)))) b:=fun b n=>aq n;have PZ:PO (upd (upd H5 t (oQ (ci sv,ci (i+1)))) Pr (.lst (zr zs++[.ref t]))) (zs++[(t,(ci sv,ci (i+1)))]):=PO.putL (xs:=zr zs) ((Ik.same st).append (PO.one ae)) (st _ _ PX);generalize upd (upd H5 t (oQ (ci sv,ci (i+1)))) Pr _=H6 at *;have sT:=aj (o:=.tup [.int ((((eS n (zp zs)).getD sv 0:Nat):Int)+1),.int 1]) hT;refine⟨T,_,rfl,cu.of ae,rfl,_,_,rfl,?_⟩;refine⟨_,rfl,_,rfl,M,_,(sv:Int),sv,rfl,rfl,sT _ _ PY,eJ (by rw[be];exact WF),?_⟩;have e2:(NV (eS n (zp zs))).set sv (V.int ((((eS n (zp zs)).getD sv 0:Nat):Int)+1))=NV ((eS n (zp zs)).set sv (gu (et (zp zs)) (ci sv)+1)):=by
     rw[kG (by lia)];exact rA (x:=gu (et (zp zs)) (ci sv)+1)
    have Ux:i+1<((eS n (zp zs)).set sv (gu (et (zp zs)) (ci sv)+1)).length:=by rw[ja,iB];lia
    have z0:gu (et (zp zs)) (ci (i+1))=0:=Tr.zero (by lia) (aP _);generalize hH7:upd _ M _=H7;have gM7:H7 M=some (.lst (NV ((eS n (zp zs)).set sv (gu (et (zp zs)) (ci sv)+1)))):=by rw[<-hH7,ae];exact congrArg (fun l=>some (HO.lst l)) e2
    have o7:∀b,b≠M->∀o,H6 b=some o->H7 b=some o:=fun b n o e=>by rw[<-hH7,aq n];exact sT _ _ e
    refine⟨_,_,rfl,_,rfl,_,rfl,M,_,((i+1:Nat):Int),i+1,rfl,rfl,gM7,eJ (by rw[be];exact Ux),rfl,?_⟩;generalize WI:upd H7 M _=H8;have e3:(NV ((eS n (zp zs)).set sv (gu (et (zp zs)) (ci sv)+1))).set (i+1) (V.int 1)=NV (eS n (zp zs++[(ci sv,ci (i+1))])):=by
     rw[<-AW (by lia) (by lia) (by lia),z0];exact rA (x:=1)
    have YS:H8 M=some (.lst (NV (eS n (zp zs++[(ci sv,ci (i+1))])))):=by rw[<-WI,ae];exact congrArg (fun l=>some (HO.lst l)) e3
    have o8:∀b,b≠M->∀o,H6 b=some o->H8 b=some o:=fun b n o e=>by rw[<-WI,aq n];exact o7 b n o e
    have ez:zp (zs++[(t,(ci sv,ci (i+1)))])=zp zs++[(ci sv,ci (i+1))]:=by rw[eQ];rfl
    refine⟨zs++[(t,(ci sv,ci (i+1)))],⟨_,_,_,_,rfl⟩,fun b o e n=>?_,?_,?_,fun z hz=>?_,by rw[ez];exact YS,?_,?_⟩
    .refine o8 _ (am e Uv) _ ?_;rw[o6 _ (am e WD)];exact st _ _ (s5 _ _ (yD _ _ (sc _ _ e n)) n)
    .obtain⟨x,y,e,r⟩:=w9.same st;exact⟨x,y,o8 _ L4.symm _ (by rw[o6 _ WE.symm];exact e),r⟩
    .refine o8 _ YQ _ ?_;rw[WG,eO];rfl
    .have g:=PZ z hz;exact o8 _ (by rintro e;rw[e,PY] at g;cases g) _ g
    .rw[ez,oz];exact Tr.add jG (fun x hx=>bY.mp hx) (f_ (by lia)) (by rw[List.take_range,B7 (by lia)];exact Gm) (by show gu _ _<8;lia)
    .rw[ez,Ff,z0,ao (fun z=>by have:=d7 z;lia),ap rfl];lia
  rintro σ Hc ⟨zs,⟨a,b,c,d',rfl⟩,sc,oH,NO,po,DK,Tr,dg⟩;rw[show n-1+1=n by lia] at Tr;have F0:=Tr.lD n1 n2 (iD _);refine⟨_,rfl,(m:Int),rfl,by lia,by lia,?_⟩;refine eh (lo:=0) (n:=m) (fun i σ Hc=>∃zs:Zs,(∃a b c d,σ=[some (.ref p),some (.int n),some (.int m),some (.ref Pr),some (.ref M),a,b,c,d])/\aO p H Hc/\bn Hc p/\Hc Pr=some (.lst (zr zs))/\PO Hc zs/\Hc M=some (.lst (NV (eS n (zp zs))))/\cJ n (et (zp zs)))
   ⟨zs,⟨_,_,_,_,rfl⟩,sc,oH,NO,po,DK,F0⟩ ?_ ?_
  .clear F0 Tr dg po NO DK oH sc zs;rintro i σ Hc hi ⟨zs,⟨a',b',c',d',rfl⟩,sc,oH,NO,po,DK,Fi⟩;have YR:zs.length<=256:=by have:=Fi.len;rw[tT,b_] at this;lia
   refine⟨_,rfl,_,rfl,p,n,rfl,by lia,by lia,oH,fun a H4 ha s4 r9=>⟨_,rfl,_,rfl,p,n,rfl,by lia,by lia,r9,fun b H5 hb s5 w9=>⟨_,_,rfl,?_⟩⟩⟩;have R8:=(sc.trans s4).trans s5;have PX:=s5 _ _ (s4 _ _ NO WE) WE;have Uw:=s5 _ _ (s4 _ _ DK L4) L4;have Ik:=(po.r0 s4 oH).r0 s5 r9;clear s4 s5 r9 NO DK po oH sc;dsimp only;have jO:∀Hd:Hp,aI H5 Hd->∃zs:Zs,(∃x1 x2 x3 x4,[some (V.ref p),some (.int n),some (.int m),some (.ref Pr),some (.ref M),some (.int (0+(i:Int))),b',some (.int (a:Nat)),some (.int (b:Nat))]=[some (.ref p),some (.int n),some (.int m),some (.ref Pr),some (.ref M),x1,x2,x3,x4])/\aO p H Hd/\bn Hd p/\Hd Pr=some (.lst (zr zs))/\PO Hd zs/\Hd M=some (.lst (NV (eS n (zp zs))))/\cJ n (et (zp zs)):=fun Hd sd=>⟨zs,⟨_,_,_,_,rfl⟩,R8.trans (aO.of sd),w9.same sd,sd _ _ PX,Ik.same sd,sd _ _ Uw,Fi⟩
   have han:a<(eS n (zp zs)).length:=by rw[iB];exact ha
   have hbn:b<(eS n (zp zs)).length:=by rw[iB];exact hb
   refine⟨_,rfl,_,rfl,rfl,_,rfl,?_⟩;by_cases rS:a=b
   .exact r6 (by subst rS;simp) (jS (jO _ (aI.refl _)))
   refine wZ (by simp;lia) ⟨_,rfl,_,rfl,M,_,_,_,rfl,rfl,a8.of Uw,aD (iS han),_,rfl,_,rfl,M,_,_,_,rfl,rfl,a8.of Uw,aD (iS hbn),_,_,rfl,_,_,rfl,rfl,_,rfl,?_⟩;rw[kG ha,kG hb];refine gU (fun cm=>?_) (fun cm=>jO _ (aI.refl _));have cm:=fu cm;have da:gu (et (zp zs)) (ci a)<=7:=by split at cm <;> lia
   have db:gu (et (zp zs)) (ci b)<=7:=by split at cm <;> lia
   refine⟨_,rfl,_,rfl,by show 2<=sizeLine;decide,fun t1 ht1=>?_⟩;have Bj:=aj (o:=oQ (ci a,ci b)) ht1;obtain⟨l1,l2⟩:=Fg (K:=K) (Ik.same Bj);refine⟨_,rfl,t1,Pr,(ci a,ci b),zs.map (fun z:Addr×Int×Int=>z.1),zp zs,rfl,rfl,cu.of ae,by rw[<-iX];exact a8.of (Bj _ _ PX),by rw[aT];exact l1,l2,_,rfl,?_⟩;by_cases in1:(ci a,ci b)∈zp zs
   .exact r6 (by simp[in1]) (jS (jO _ Bj))
   refine wZ (by simp[in1]) ⟨_,rfl,_,rfl,by show 2<=sizeLine;decide,fun t2 ht2=>?_⟩;have lC:=Bj.trans (aj (o:=oQ (ci b,ci a)) ht2);obtain⟨l1,l2⟩:=Fg (K:=K) (Ik.same lC);refine⟨_,rfl,t2,Pr,(ci b,ci a),zs.map (fun z:Addr×Int×Int=>z.1),zp zs,rfl,rfl,cu.of ae,by rw[<-iX];exact a8.of (lC _ _ PX),by rw[aT];exact l1,l2,_,rfl,?_⟩;by_cases in2:(ci b,ci a)∈zp zs
   .exact r6 (by simp[in2]) (jO _ lC)
   have WG:=lC _ _ PX;have PY:=lC _ _ Uw;refine wZ (by simp[in2]) ⟨_,rfl,.inl ⟨rfl,_,a8.of WG⟩,_,rfl,_,rfl,by show 2<=sizeLine;decide,fun t ht=>?_⟩;have jp:=aj (o:=oQ (ci a,ci b)) ht;refine⟨Pr,_,_,rfl,rfl,jp _ _ WG,by rw[dZ];exact eK YR (by decide),?_⟩;have R9:=PO.putL (xs:=zr zs) ((Ik.same (lC.trans jp)).append (PO.one ae)) (jp _ _ WG) (o:=.lst (zr zs++[.ref t]));have YT:∀x o,H x=some o->x≠p->x≠Pr->(upd (upd (upd (upd H5 t1 (oQ (ci a,ci b))) t2 (oQ (ci b,ci a))) t (oQ (ci a,ci b))) Pr (.lst (zr zs++[.ref t]))) x=some o:=fun x o e n n2=>by
    rw[aq n2];exact jp _ _ (lC _ _ (R8 _ _ e n))
   have KY:=((w9.same lC).same jp).put (o:=.lst (zr zs++[.ref t])) WE.symm;have Uy:=(aq (H:=upd (upd (upd H5 t1 (oQ (ci a,ci b))) t2 (oQ (ci b,ci a))) t (oQ (ci a,ci b))) (o:=.lst (zr zs++[.ref t])) YQ.symm).trans (jp _ _ PY);have hP7:=ae (H:=upd (upd (upd H5 t1 (oQ (ci a,ci b))) t2 (oQ (ci b,ci a))) t (oQ (ci a,ci b))) (a:=Pr) (o:=.lst (zr zs++[.ref t]));generalize upd (upd (upd (upd H5 _ _) _ _) _ _) Pr _=H7 at *;refine⟨_,rfl,_,rfl,M,_,_,_,rfl,rfl,a8.of Uy,aD (iS han),_,_,rfl,rfl,_,rfl,_,rfl,M,_,(a:Int),a,rfl,rfl,Uy,eJ (by rw[be];exact han),?_⟩;have e2:(NV (eS n (zp zs))).set a (V.int ((((eS n (zp zs)).getD a 0:Nat):Int)+1))=NV ((eS n (zp zs)).set a (gu (et (zp zs)) (ci a)+1)):=by
    rw[kG ha];exact rA (x:=gu (et (zp zs)) (ci a)+1)
   have Ux:b<((eS n (zp zs)).set a (gu (et (zp zs)) (ci a)+1)).length:=by rw[ja];exact hbn
   have ek:((eS n (zp zs)).set a (gu (et (zp zs)) (ci a)+1)).getD b 0=gu (et (zp zs)) (ci b):=by
    rw[cw,qp rS,<-cw,kG hb]
   generalize WI:upd H7 M _=H8;have YS:H8 M=some (.lst (NV ((eS n (zp zs)).set a (gu (et (zp zs)) (ci a)+1)))):=by rw[<-WI,ae];exact congrArg (fun l=>some (HO.lst l)) e2
   have o8:∀b,b≠M->H8 b=H7 b:=fun b n=>by rw[<-WI,aq n]
   refine⟨_,rfl,_,rfl,M,_,_,_,rfl,rfl,a8.of YS,aD (iS Ux),_,_,rfl,rfl,_,rfl,_,rfl,M,_,(b:Int),b,rfl,rfl,YS,eJ (by rw[be];exact Ux),?_⟩;generalize hH9:upd H8 M _=H9;have e3:(NV ((eS n (zp zs)).set a (gu (et (zp zs)) (ci a)+1))).set b (V.int (((((eS n (zp zs)).set a (gu (et (zp zs)) (ci a)+1)).getD b 0:Nat):Int)+1))=NV (eS n (zp zs++[(ci a,ci b)])):=by
    rw[ek,<-AW ha hb rS];exact rA (x:=gu (et (zp zs)) (ci b)+1)
   have gM9:H9 M=some (.lst (NV (eS n (zp zs++[(ci a,ci b)])))):=by rw[<-hH9,ae];exact congrArg (fun l=>some (HO.lst l)) e3
   have o9:∀b,b≠M->H9 b=H7 b:=fun b n=>by rw[<-hH9,aq n];exact o8 b n
   have ez:zp (zs++[(t,(ci a,ci b))])=zp zs++[(ci a,ci b)]:=by rw[eQ];rfl
   refine⟨zs++[(t,(ci a,ci b))],⟨_,_,_,_,rfl⟩,fun b o e n=>?_,?_,?_,fun z hz=>?_,by rw[ez];exact gM9,?_⟩
   .rw[o9 _ (am e Uv)];exact YT _ _ e n (am e WD)
   .obtain⟨x,y,e,r⟩:=KY;exact⟨x,y,by rw[o9 _ L4.symm];exact e,r⟩
   .rw[o9 _ YQ,hP7,eO];rfl
   .have g:=R9 z hz;rw[o9 _ (by rintro e;rw[e,Uy] at g;cases g)];exact g
   .rw[ez];exact Fi.pair ha hb rS in1 in2 da db
  .rintro σ Hc ⟨zs,⟨a',b',c',d',rfl⟩,sc,oH,NO,po,DK,Fi⟩;exact⟨_,rfl,q Pr zs Hc sc oH WD NO po Fi⟩
end
end rY
namespace L2
open PySem PySem.Spec PyProof.Rows
def Fj:List Nat->TA
 |[]=>h_
 |n::ns=>bJ (tC (.int (n:Nat))) (Fj ns)
def KZ:List (List Nat)->TA
 |[]=>h_
 |c::cs=>bJ (sn (Fj c)) (KZ cs)
def rdN:Expr->Option Nat
 |.Constant (.int (.ofNat n)) _ _=>some n
 |_=>none
def NP:List Expr->Option (List Nat)
 |[]=>some []
 |e::es=>(rdN e).bind fun n=>(NP es).map (n::·)
def NQ:List Expr->Option (List (List Nat))
 |[]=>some []
 |.Tuple es _ _::r=>(NP es).bind fun c=>(NQ r).map (c::·)
 |_=>none
theorem R_(h:rdN e=some n):∃j pos,e=.Constant (.int (n:Nat)) j pos:=by
 unfold rdN at h;split at h
 .cases h;exact⟨_,_,rfl⟩
 .cases h
theorem Fk:∀ {es:gZ} {ns:aQ},NP es=some ns->PA X es (Fj ns)
 |[],ns,h=>by cases h;exact ag
 |e::es,ns,h=>by
  unfold NP at h;obtain⟨n,h1,h2⟩:=Option.bind_eq_some_iff.mp h;obtain⟨ms,h3,rfl⟩:=Option.map_eq_some_iff.mp h2;obtain⟨j,pos,rfl⟩:=R_ h1;exact aa az (Fk h3)
theorem Fl:∀ {es:gZ} {cs:zq},NQ es=some cs->PA X es (KZ cs)
 |[],cs,h=>by cases h;exact ag
 |e::r,cs,h=>by
  unfold NQ at h;split at h
  .cases h;contradiction
  .rename_i es _ _ r' e';cases e';obtain⟨n,h1,h2⟩:=Option.bind_eq_some_iff.mp h;obtain⟨ms,h3,rfl⟩:=Option.map_eq_some_iff.mp h2;exact aa (bT (Fk h1)) (Fl h3)
  .cases h
end L2
namespace rY
open PySem L2 lj
abbrev Sa:Stmt:=top 42
abbrev vD:Stmt:=top 43
theorem jq:(["_law_more","_law_house","_law_figure","_law_step"]:bQ).Nodup:=by decide +kernel
theorem K0:∀ {ns:aQ} {σ:St} {H:Hp} {Q:zB},Q (NV ns) H->Fj ns σ H Q
 |[],σ,H,Q,h=>h
 |n::ns,σ,H,Q,h=>K0 (ns:=ns) (Q:=fun xs H2=>Q (.int (n:Nat)::xs) H2) h
theorem K1:∀ {cs:zq} {σ:St} {H:Hp} {Q:zB},(∀c∈cs,c.length<=5)->(∀ (as:bR) (H':Hp),aI H H'->as.length=cs.length->(∀i,i<cs.length->H' (as.getD i 0)=some (.tup (NV (cs.getD i []))))->Q (as.map V.ref) H')->KZ cs σ H Q
 |[],σ,H,Q,_,h=>h [] H (aI.refl _) rfl fun i hi=>nomatch hi
 |c::cs,σ,H,Q,hc,h=>by
  refine K0 (ns:=c) ⟨?_,fun t ht=>?_⟩
  .rw[be];exact aZ (hc c cK) (by decide)
  refine K1 (cs:=cs) (fun c zD=>hc c (dq _ zD)) fun as H' s l e=>?_;refine h (t::as) H' ((aj ht).trans s) (congrArg (·+1) l) fun i hi=>?_;cases i with
  |zero=>exact s _ _ ae
  |succ i=>exact e i (Nat.lt_of_succ_lt_succ hi)
theorem yJ:∀ {i:Nat},(AV ns i h).length<=i
 |0=>cp _
 |i+1=>by
  have e:AV ns (i+1) h=AV ns i h++if h / pr (ns.take i) % ns.getD i 0+1<ns.getD i 0 then [(h,h+pr (ns.take i))] else []:=by unfold AV;rw[eH]
  rw[e,dh];have:=yJ (ns:=ns) (h:=h) (i:=i);split <;> simp <;> lia
theorem yK(hb:b<=5):∀ {i:Nat},(Hu b i h).length<=5*i
 |0=>cp _
 |i+1=>by
  have e:Hu b (i+1) h=Hu b i h++NI b i h:=by unfold Hu;rw[eH]
  rw[e,dh];have:=yK (b:=b) (h:=h) hb (i:=i);have:(NI b i h).length<=5:=by unfold NI;rw[aT,dk];lia
  lia
theorem DL:∃es q1 q2 q3 cs r,cP vD=.Assign [.Name "_law_sizes" q1] (.List es q2) q3::r/\r=(cP vD).drop 1/\NQ es=some cs/\cs=[[1,3,3],[1,4,4],[1,5,5],[2,3,9],[2,4,16],[2,5,25],[3,3,27],[3,2,8],[5,2,32]]:=
 ⟨_,_,_,_,[[1,3,3],[1,4,4],[1,5,5],[2,3,9],[2,4,16],[2,5,25],[3,3,27],[3,2,8],[5,2,32]],_,rfl,rfl,by decide +kernel,rfl⟩
def NR(p:Addr)(H:Hp)(Q:V->Hp->Prop):Prop:=∀ (t r:Addr) (n:Nat) (zs:Zs) (H':Hp),aO p H H'->bn H' p->H t=none->H r=none->H' t=some (.tup [.int n,.ref r])->H' r=some (.lst (zr zs))->PO H' zs->cJ n (et (zp zs))->Q (.ref t) H'
section
variable {P:bL} {w:World} {K:a_} {mg:cr} {base:Heap}
theorem pZ:aN ["_law_pot_here","_law_sides","_law_whole","_law_k","_law_found","_law_house","_law_step","_law_side"] ["_law_pot_here"] (aw Sa):=dW (by decide +kernel)
def w_:Sp:=fun vs H Q _=>∃p:Addr,vs=[.ref p]/\bn H p/\NR p H Q
theorem Sb(F:iH K "_law_box" "_law_box" Sa f fd)(B:Bl mg)(D:d9 P w K mg base bo 1 "_law_take" ["_law_pot_here","_law_many"] io):bU P w K mg base bo 2 f fd ["_law_pot_here"] w_:=by
 refine F.ok pZ (fun vs H Q E h=>?_) (fun fX A outer s H vs Q E hr h=>?_)
 .obtain⟨p,rfl,_⟩:=h;rfl
 .obtain⟨p,rfl,hp,q⟩:=h;refine⟨_,(ak (Ck (i:=1) (j:=2) rfl pZ.nd rfl rfl (by decide) rfl rfl (aa (cH ag) (aa az ag)) (by rfl))
   (ak (du eI rfl (b9 rfl B.range (aa (a9 dM az (aH D hr aM (aa (pv 0) (aa az ag)))) ag)) (aA (i:=3) pZ.nd rfl aL)
    (av (dS (aY ni (pv 2) az (bp _)) (ak (cG (gQ gy i8 i7 cV (pv 1) (aa (a9 dM az (aH D hr aM (aa (pv 0) (aa (aJ (qS rfl) (by rfl) B.min BG (aa az (aa (a9 k6 (a9 tG az (pv 2)) az) ag))) ag)))) ag)))
     (av (aW (i:=2) pZ.nd rfl aL (a9 l7 (pv 2) (aX aG (pv 1) (zN uP az) (fun _ _=>rfl)))))) b8)))
   (ak (aW (i:=4) pZ.nd rfl aL (cH ag))
   (ak (du eI rfl (b9 rfl B.range (aa (pv 2) ag)) (aA (i:=5) pZ.nd rfl aL)
    (ak (aW (i:=6) pZ.nd rfl aL az)
    (av (du eI rfl (bN (pv 1)) (aA (i:=7) pZ.nd rfl aL)
     (ak (dS (aY ni (a9 jd (a9 tG (pv 5) (pv 6)) (pv 7)) (a9 k6 (pv 7) az) (bp _)) (av (cG (gQ gy i8 i7 cV (pv 4) (aa (bT (aa (pv 5) (aa (a9 dM (pv 5) (pv 6)) ag))) ag)))) b8)
     (av (aW (i:=6) pZ.nd rfl aL (a9 l7 (pv 6) (pv 7)))))))))
   (av (bh (bT (aa (pv 2) (aa (pv 4) ag))))))))),?_⟩
  refine⟨by show 0<=sizeLine;decide,fun S hS=>⟨_,_,rfl,?_⟩⟩;have sS:=aj (o:=.lst []) hS;have L5:S≠p:=hp.ne hS;dsimp only;refine⟨_,rfl,p,5,rfl,by decide,by decide,hp.same sS,fun d H1 hd s1 mW=>⟨_,_,rfl,rfl,(1+(d:Int)),rfl,by lia,by lia,?_⟩⟩;rw[show (1+(d:Int)).toNat=1+d by lia];refine eh (lo:=0) (n:=1+d) (fun i σ Hc=>∃ns:List Nat,(∃a,σ=[some (.ref p),some (.ref S),some (.int ((pr ns:Nat):Int)),a,none,none,none,none])/\aO p H Hc/\bn Hc p/\Hc S=some (.lst (NV ns))/\ns.length<=i/\(∀x∈ns,2<=x/\x<=8)/\pr ns<=32/\(0<i->ns≠[]))
   ⟨[],⟨_,rfl⟩,(aO.of sS).trans s1,mW,s1 _ _ ae L5,aP _,fun x hx=>(nomatch hx),by decide,fun z=>absurd z (jc _)⟩ ?_ ?_
  .rintro i σ Hc hi ⟨ns,⟨a,rfl⟩,sc,oH,vL,nl,nb,np,nn⟩;have p1:1<=pr ns:=jk (ns:=ns) (i:=0) fun x hx=>by have:=nb x hx;lia
   refine⟨_,rfl,_,_,rfl,rfl,_,rfl,gU (fun c=>?_) (fun c=>?_)⟩
   .have c:=fu c;have hq:(32:Int) / ((pr ns:Nat):Int)=((32 / pr ns:Nat):Int):=rfl;have q2:2<=32 / pr ns:=(Nat.le_div_iff_mul_le (by lia)).mpr (by lia);have em:(if (32:Int) / ((pr ns:Nat):Int)-1<7 then (32:Int) / ((pr ns:Nat):Int)-1 else 7)=((min 7 (32 / pr ns-1):Nat):Int):=by rw[hq];split <;> lia
    refine⟨_,rfl,.inl ⟨rfl,_,a8.of vL⟩,_,rfl,_,rfl,_,_,rfl,rfl,⟨by lia,by lia⟩,_,_,rfl,rfl,7,_,rfl,p,min 7 (32 / pr ns-1),by rw[em];rfl,by lia,by lia,oH,fun e H2 he s2 vK=>⟨_,_,rfl,rfl,S,_,_,rfl,rfl,s2 _ _ vL L5,by rw[be];exact eK (show ns.length<=6 by lia) (by decide),?_⟩⟩;have e2:NV ns++[V.int (2+(e:Int))]=NV (ns++[2+e]):=by rw[<-jz];congr 2
    rw[e2];refine⟨_,rfl,_,rfl,_,rfl,S,_,_,_,rfl,rfl,a8.of ae,by rw[<-jz];exact zU _ _,_,_,rfl,rfl,.inr ⟨by lia,by lia⟩,?_⟩;have Uj:pr ns*(2+e)<=32:=aZ (uf _ (show 2+e<=32 / pr ns by lia)) (Nat.mul_div_le _ _);refine⟨ns++[2+e],⟨some (.int (0+(i:Int))),?_⟩,fun b o g n=>?_,vK.put L5.symm,ae,by rw[dh,lN];lia,fun x hx=>?_,by rw[tY];exact Uj,fun _=>by simp⟩
    .rw[tY,Int.natCast_mul];rfl
    .rw[aq (am g hS)];exact s2 _ _ (sc _ _ g n) n
    .rcases cL.mp hx with z|z
     .exact nb x z
     .rw[dA.mp z];lia
   .have c:¬ pr ns<17:=fun z=>c (iN (by lia));exact⟨ns,⟨_,rfl⟩,sc,oH,vL,by lia,nb,np,fun _ z=>by rw[z] at c;exact c (by decide)⟩
  rintro σ Hc ⟨ns,⟨a,rfl⟩,sc,oH,vL,nl,nb,np,nn⟩;have nn:=nn (by lia);have p1:1<=pr ns:=jk (ns:=ns) (i:=0) fun x hx=>by have:=nb x hx;lia
  have hn1:∀x∈ns,1<=x:=fun x hx=>by have:=nb x hx;lia
  refine⟨by show 0<=sizeLine;decide,fun R hR=>?_⟩;have sR:=aj (o:=.lst []) hR;refine⟨_,rfl,((pr ns:Nat):Int),rfl,by lia,by lia,?_⟩;rw[gE];have fl:∀i,i<=32->∀j,j<=5->(((List.range i).flatMap (AV ns ns.length))++AV ns j i).length<=200:=fun i hi j hj=>by
   rw[dh];have:=qZ (m:=i) (g:=AV ns ns.length) (M:=5) fun x=>aZ yJ (by lia);have:=yJ (ns:=ns) (h:=i) (i:=j);lia
  refine eh (lo:=0) (n:=pr ns) (fun i σ Hd=>(∃x a b c,σ=[some (.ref p),some (.ref S),some (.int ((pr ns:Nat):Int)),x,some (.ref R),a,b,c])/\pY Hc R (((List.range i).flatMap (AV ns ns.length)).map jn) Hd) ⟨⟨_,_,_,_,rfl⟩,sR,[],ae,PO.nil,rfl⟩ ?_ ?_
  .rintro i σ Hd hi ⟨⟨x3,x5,x6,x7,rfl⟩,Pi⟩;rw[iF];refine⟨_,rfl,S,rfl,⟨_,a8.of (Pi.1 _ _ vL)⟩,eM (K:=K) (xs:=NV ns) (fun j σ He=>(∃x c,σ=[some (.ref p),some (.ref S),some (.int ((pr ns:Nat):Int)),x,some (.ref R),some (.int (i:Int)),some (.int ((pr (ns.take j):Nat):Int)),c])/\pY Hc R ((((List.range i).flatMap (AV ns ns.length))++AV ns j i).map jn) He) ⟨⟨_,_,rfl⟩,by simpa [AV] using Pi⟩ (fun j σ He _ z=>a8.of (z.2.1 _ _ vL)) ?_ ?_⟩
   .rintro j x σ He hx ⟨⟨y3,y7,rfl⟩,Pj⟩;obtain⟨n,hv,rfl⟩:=pW hx;have hj:j<ns.length:=(eR.mp hv).1;have hnn:=nb n (dz hv);have qc:=jk (ns:=ns) (i:=j) hn1;have acm:1<=pr (ns.take j):=jk (ns:=ns.take j) (i:=0) fun x hx=>hn1 x (oZ hx);have gd:ns.getD j 0=n:=by rw[cw,hv];rfl
    have tk:ns.take (j+1)=ns.take j++[n]:=by rw[gW,hv];rfl
    have eB:AV ns (j+1) i=AV ns j i++if i / pr (ns.take j) % n+1<n then [(i,i+pr (ns.take j))] else []:=by unfold AV;rw[eH,gd]
    rw[tk,tY,eB];have fl':=fl i (by lia) j (by lia);generalize pr (ns.take j)=st at *;dsimp only;refine wX (fun σ He=>σ=[some (.ref p),some (.ref S),some (.int ((pr ns:Nat):Int)),y3,some (.ref R),some (.int (i:Int)),some (.int (st:Int)),some (.int (n:Int))]/\pY Hc R ((((List.range i).flatMap (AV ns ns.length))++(AV ns j i++if i / st % n+1<n then [(i,i+st)] else [])).map jn) He) ?_ ?_
    .rintro σ He ⟨rfl,Pe⟩;exact⟨_,rfl,_,rfl,_,_,rfl,rfl,.inr ⟨by lia,by lia⟩,⟨_,_,rfl⟩,Pe⟩
    .intro N hN;have hdv:(i:Int) / (st:Int) % (n:Int)=((i / st % n:Nat):Int):=rfl;refine⟨_,rfl,_,rfl,_,_,rfl,rfl,⟨by lia,by lia⟩,_,rfl,_,_,rfl,rfl,(by show (0:Int)<(n:Int);lia),_,rfl,_,_,rfl,rfl,_,_,rfl,rfl,_,rfl,?_⟩;rw[hdv];obtain⟨sm,zo,v9,DH,NM⟩:=Pj;refine gU (fun c=>?_) (fun c=>?_)
     .have c:=fu c;refine⟨_,rfl,.inl ⟨rfl,_,a8.of v9⟩,_,rfl,_,rfl,_,rfl,_,_,rfl,rfl,by show 2<=sizeLine;decide,fun t ht=>?_⟩;have aF:=aj (o:=oQ (jn (i,i+st))) ht;refine⟨R,_,_,rfl,rfl,aF _ _ v9,?_,?_⟩
      .rw[dZ,<-b_,NM,aT];exact eK fl' (by decide)
      .refine hN _ _ ⟨rfl,?_⟩;rw[ap (by lia),<-dP,dt];exact pY.ext (zs:=[(t,jn (i,i+st))]) hR sm v9 DH NM aF (PO.one ae) rfl
     .refine hN _ _ ⟨rfl,?_⟩;rw[ao (fun z=>c (iN (by lia))),jH];exact⟨sm,zo,v9,DH,NM⟩
   .rintro σ He ⟨⟨y3,y7,rfl⟩,Pe⟩;refine⟨⟨_,_,_,_,rfl⟩,?_⟩;rw[be] at Pe;rw[eH];exact Pe
  .rintro σ Hd ⟨⟨x3,x5,x6,x7,rfl⟩,sm,zo,v9,DH,NM⟩;refine⟨_,rfl,_,rfl,by show 2<=sizeLine;decide,fun t ht=>?_⟩;have st:=aj (o:=.tup [.int ((pr ns:Nat):Int),.ref R]) ht;have fr:∀ {a:Addr},Hc a=none->H a=none:=fun h=>sc.free oH.full h;refine q t R (pr ns) zo _ (sc.trans (aO.of (sm.trans st))) ((oH.same sm).same st) (fr (sm.free ht)) (fr hR) ae (st _ _ v9) (DH.same st) ?_;rw[NM];refine(Kc (fun x hx=>(nb x hx).1) nn np).perm (mq (List.Perm.map _ ?_));refine KM.trans (lR ?_);unfold pP;rw[KS];simp only[Nat.one_mul]
theorem hX:aN ["_law_pot_here","_law_sizes","_law_figures","_law_base","_law_many","_law_found","_law_house","_law_step","_law_k","_law_figure"] ["_law_pot_here"] (aw vD):=dW (by decide +kernel)
theorem K2(F:iH K "_law_words" "_law_words" vD f fd)(B:Bl mg)(D:d9 P w K mg base bo 1 "_law_take" ["_law_pot_here","_law_many"] io):bU P w K mg base bo 2 f fd ["_law_pot_here"] w_:=by
 refine F.ok hX (fun vs H Q E h=>?_) (fun fX A outer s H vs Q E hr h=>?_)
 .obtain⟨p,rfl,_⟩:=h;rfl
 .obtain⟨p,rfl,hp,q⟩:=h;obtain⟨es,q1,q2,q3,cs,r,eb,er,ZU,ec⟩:=DL;rw[eb,er];refine'⟨_,(ak (aW (i:=1) hX.nd rfl aL (cH (Fl ZU)))
   (ak (d8 (aX aG (pv 1) (aH D hr aM (aa (pv 0) (aa az ag))) (fun _ _=>rfl)) (dX (n:=3) rfl (aE (aA (i:=2) hX.nd rfl aL) (aE (aA (i:=3) hX.nd rfl aL) (aE (aA (i:=4) hX.nd rfl aL) cM)))))
   (ak (aW (i:=5) hX.nd rfl aL (cH ag))
   (ak (du eI rfl (b9 rfl B.range (aa (pv 4) ag)) (aA (i:=6) hX.nd rfl cW)
    (ak (aW (i:=7) hX.nd rfl cW az)
    (av (du eI rfl (b9 rfl B.range (aa (pv 2) ag)) (aA (i:=8) hX.nd rfl aL)
     (ak (aW (i:=9) hX.nd rfl cW (a9 jd (a9 tG (pv 6) (pv 7)) (pv 3)))
     (ak (cG (gQ gy PySem.F.slot_list_extend PySem.F.type_list_extend Gd (pv 5) (aa ?c1 ag)))
     (av (aW (i:=7) hX.nd rfl cW (a9 l7 (pv 7) (pv 3))))))))))
   (av (bh (bT (aa (pv 4) (aa (pv 5) ag))))))))),?_⟩
  case c1=>
   refine' cQ (g:=(bH 0)) (te:=(sn (bJ (bb 1) (bJ (jR (zM fun i j=>.int (i+j)) (bb 1) (jR (rI Mi fun i j=>.int (i*j)) (jR (zM fun i j=>.int (i-j)) (bb 0) (bb 2)) (bb 3))) h_)))) (NB:=["_law_more","_law_house","_law_figure","_law_step"]) (src:=[none,some 6,some 9,some 7]) (bz (by kernel_rfl)) rfl (qR rfl B.range (aa (a9 dM (pv 9) az) (aa (pv 3) ag))) ?g ?t ?e;case g=>exact fun cl C s₃ H₃ fp=>(aA (i:=0) jq rfl aL cW)
   case t=>exact fun cl C s₃ H₃ fp=>dC
   case e=>exact fun cl C s₃ H₃ fp=>(bT (aa (pv 1) (aa (a9 dM (pv 1) (a9 l7 (a9 k6 (pv 0) (pv 2)) (pv 3))) ag)))
  refine K1 (cs:=cs) (by rw[ec];decide) fun as H4 s4 la ea=>⟨?_,fun S hS=>?_⟩
  .rw[aT,la,ec];show 9<=sizeLine;decide
  have sS:=aj (o:=.lst (as.map V.ref)) hS;refine⟨_,rfl,_,rfl,p,9,rfl,by decide,by decide,(hp.same s4).same sS,fun d H5 hd s5 w9=>?_⟩;have had:as[d]?=some (as.getD d 0):=by rw[cw,cz (by rw[la,ec];exact hd)];rfl
  have nS:S≠p:=(hp.same s4).ne hS;have ga:=ea d (by rw[ec];exact hd);have ga5:=s5 _ _ (sS _ _ ga) ((hp.same s4).neT ga);have sd:∀d,d<9->∃f b:Nat,([[1,3,3],[1,4,4],[1,5,5],[2,3,9],[2,4,16],[2,5,25],[3,3,27],[3,2,8],[5,2,32]]:zq).getD d []=[f,b,b ^ f]/\1<=f/\f<=5/\2<=b/\b<=5/\b ^ f<=32:=fun d hd=>
   ⟨(([[1,3,3],[1,4,4],[1,5,5],[2,3,9],[2,4,16],[2,5,25],[3,3,27],[3,2,8],[5,2,32]]:zq).getD d []).getD 0 0,(([[1,3,3],[1,4,4],[1,5,5],[2,3,9],[2,4,16],[2,5,25],[3,3,27],[3,2,8],[5,2,32]]:zq).getD d []).getD 1 0,by revert d;decide⟩
  obtain⟨fg,b,e9,f1,f2,b1,b2,hm⟩:=sd d hd;rw[ec,e9] at ga5;refine⟨S,_,_,_,rfl,rfl,a8.of (s5 _ _ ae nS),aD (by rw[cA,had];rfl),_,_,rfl,cu.of ga5,rfl,_,_,rfl,_,_,rfl,_,_,rfl,rfl,?_⟩;have R8:aO p H H5:=(aO.of (s4.trans sS)).trans s5;clear sd ga5 ga had ea la e9 hd s5;have hpw:∀i,i<=fg->b ^ i<=32:=fun i hi=>aZ (Nat.pow_le_pow_right (by lia) hi) hm;refine⟨by show 0<=sizeLine;decide,fun R hR=>?_⟩;have sR:=aj (o:=.lst []) hR;refine⟨_,rfl,((b ^ fg:Nat):Int),rfl,by lia,by lia,?_⟩;rw[gE];refine eh (lo:=0) (n:=b ^ fg) (fun i σ Hd=>(∃u v c e,σ=[some (.ref p),some (.ref S),some (.int (fg:Int)),some (.int (b:Int)),some (.int ((b ^ fg:Nat):Int)),some (.ref R),u,v,c,e])/\pY H5 R (((List.range i).flatMap (Hu b fg)).map jn) Hd) ⟨⟨_,_,_,_,rfl⟩,sR,[],ae,PO.nil,rfl⟩ ?_ ?_
  .rintro i σ Hd hi ⟨⟨x3,x5,x6,x7,rfl⟩,Pi⟩;rw[iF];refine⟨_,rfl,(fg:Int),rfl,by lia,by lia,?_⟩;rw[gE];refine eh (lo:=0) (n:=fg) (fun j σ He=>(∃c e,σ=[some (.ref p),some (.ref S),some (.int (fg:Int)),some (.int (b:Int)),some (.int ((b ^ fg:Nat):Int)),some (.ref R),some (.int (i:Int)),some (.int ((b ^ j:Nat):Int)),c,e])/\pY H5 R ((((List.range i).flatMap (Hu b fg))++Hu b j i).map jn) He) ⟨⟨_,_,rfl⟩,by simpa [Hu] using Pi⟩ ?_ ?_
   .rintro j σ He hj ⟨⟨y8,y9,rfl⟩,yD,zs4,hz4,po4,ez4⟩;have hbi:=hpw j (by lia);have hbp:0<b ^ j:=Nat.pow_pos (by lia);have hdv:(i:Int) / ((b ^ j:Nat):Int) % (b:Int)=((i / b ^ j % b:Nat):Int):=rfl;have eX:i / b ^ j % b<b:=lV _ (by lia);have zl:zs4.length<=1000:=by
     have e:=congrArg List.length ez4;rw[b_,aT,dh] at e;have z3:=qZ (m:=i) (g:=Hu b fg) (M:=25) fun x=>aZ (yK b2) (by lia);have z5:=yK (b:=b) (h:=i) b2 (i:=j);lia
    refine⟨_,rfl,_,rfl,_,_,rfl,rfl,⟨by lia,by lia⟩,_,rfl,_,_,rfl,rfl,(by show (0:Int)<(b:Int);lia),?_⟩;change bH 9 (V.int ((i:Int) / ((b ^ j:Nat):Int) % (b:Int))) _ _ _;rw[hdv];refine⟨_,rfl,.inl ⟨rfl,_,a8.of hz4⟩,_,rfl,_,_,rfl,rfl,_,rfl,_,_,rfl,⟨by lia,by lia,by lia,by lia⟩,fun L hL=>?_⟩;have hn:((b:Int)-(((i / b ^ j % b:Nat):Int)+1)).toNat=b-i / b ^ j % b-1:=by lia
    rw[hn];refine AK (lo:=((i / b ^ j % b:Nat):Int)+1) (fun c=>jn (i,i+(c+1)*b ^ j)) (fun σ=>∃x,σ=[x,some (.int (i:Int)),some (.int ((i / b ^ j % b:Nat):Int)),some (.int ((b ^ j:Nat):Int))]) hL (by lia) ⟨_,rfl⟩ ?_ ?_
    .rintro c σ H7 R' Kf hc ⟨x,rfl⟩ sm7 kt;have hq:(((i / b ^ j % b:Nat):Int)+1+(c:Int)-((i / b ^ j % b:Nat):Int))*((b ^ j:Nat):Int)=(((c+1)*b ^ j:Nat):Int):=by rw[show ((i / b ^ j % b:Nat):Int)+1+(c:Int)-((i / b ^ j % b:Nat):Int)=((c+1:Nat):Int) by lia];exact(Int.natCast_mul _ _).symm
     refine⟨_,rfl,_,rfl,_,rfl,_,rfl,_,_,rfl,rfl,_,rfl,_,_,rfl,rfl,.inr ⟨by lia,by lia⟩,_,_,rfl,rfl,by show 2<=sizeLine;decide,fun t ht=>?_⟩;rw[hq];exact kt _ _ ⟨_,rfl⟩ ht
    .intro zs H7 s7 hL7 R9 ez7 _;have e5:zp zs=(NI b j i).map jn:=by rw[ez7];unfold NI;rw[dQ];rfl
     have l5:zs.length<=5:=by rw[<-b_,e5,aT];unfold NI;rw[aT,dk];lia
     refine⟨R,L,_,_,rfl,rfl,s7 _ _ hz4,hL7,by rw[dZ,dZ];exact aZ (show _<=1005 by lia) (by decide),?_⟩;refine⟨_,rfl,_,rfl,_,_,rfl,rfl,.inr ⟨by lia,by lia⟩,⟨some (.int (0+(j:Int))),some (.int ((i / b ^ j % b:Nat):Int)),?_⟩,?_⟩
     .rw[Nat.pow_succ];rfl
     .have eW:Hu b (j+1) i=Hu b j i++NI b j i:=by unfold Hu;rw[eH]
      rw[eW,<-dP,dt];exact pY.ext hR yD hz4 po4 ez4 s7 R9 e5
   .rintro σ He ⟨⟨y8,y9,rfl⟩,Pe⟩;refine⟨⟨_,_,_,_,rfl⟩,?_⟩;rw[eH];exact Pe
  .rintro σ Hd ⟨⟨x3,x5,x6,x7,rfl⟩,sm,zo,v9,DH,NM⟩;refine⟨_,rfl,_,rfl,by show 2<=sizeLine;decide,fun t ht=>?_⟩;have st:=aj (o:=.tup [.int ((b ^ fg:Nat):Int),.ref R]) ht;have fr:∀ {a:Addr},H5 a=none->H a=none:=fun h=>R8.free w9.full h;refine q t R (b ^ fg) zo _ (R8.trans (aO.of (sm.trans st))) ((w9.same sm).same st) (fr (sm.free ht)) (fr hR) ae (st _ _ v9) (DH.same st) ?_;rw[NM];exact(Dl f1 f2 b1 b2 hm).1.perm (mq (List.Perm.map _ KO))
end
end rY
namespace L2
open PySem PySem.Spec PyProof.Rows
abbrev oJ(h:Heap)(z TI TO a:Addr)(f:Bool):Prop:=
 h.get? z=some { cls:=.type "zip",dict:=none,data:=.fields #[rawInt a,.bool f,.bool false,.ref TI,.ref TO],slots:=#[] }
theorem DM:typeLookup (.type "zip") "__len__"=pure none:=by rw[xF,xr];kernel_rfl
theorem AX:typeLookup (.type "zip") "__length_hint__"=pure none:=by rw[xF,xr];kernel_rfl
section
variable {prog:bL} {w:World} {A:br} {E:bV} {s:aR}
theorem xa{z TI TO a:Addr}{f:Bool}{oa:Obj}{Q:IF}(hz:oJ s.heap z TI TO a f)(ha:s.heap.get? a=some oa)(hQ:∀h',oJ h' z TI TO a true->Heap.SameBut z s.heap h'->Q false { s with heap:=h' }):wpAny (model prog w) A (Builtin.SmallTypes.ownedTupleIsFree (.ref z)) Q E s:=by
 unfold Builtin.SmallTypes.ownedTupleIsFree;refine au (gc hz rfl (x:=rawInt a) rfl ?_);show wpAny _ _ (loadIfAlive ((a:Int).toNat) >>= _) _ _ _;rw[gE];refine au (W.kdx_alive ha ?_);simp only[Option.isNone_some,iL,eG];refine au (gc hz rfl (x:=.bool f) rfl ?_);cases f with
 |true=>
  rw[ao (show ¬ ((Value.bool true != Value.bool true)=true) from di)];exact wpAny_pure (hQ s.heap hz (Heap.SameBut.refl _ _))
 |false=>
  rw[ap (show (Value.bool false != Value.bool true)=true from rfl)];refine au (qx hz (by simp) fun h₃ he₃ Uz=>?_);exact wpAny_pure (hQ h₃ he₃ Uz)
theorem HB{z TI TO i1 i2 l1 l2 a:Addr}{f:Bool}{oa:Obj}{k1 k2:Nat}{xs ys:bD}{x y:Value}{Q:IE}(D:ZipApart z TI TO i1 i2 l1 l2)(hz:oJ s.heap z TI TO a f)(ha:s.heap.get? a=some oa)(hTI:IsPair s.heap TI (.ref i1) (.ref i2))(h1:s.heap.IsListIter i1 l1 k1)(h2:s.heap.IsListIter i2 l2 k2)(Bi:s.heap.IsList l1 xs)(HY:s.heap.IsList l2 ys)(hx:xs[k1]?=some x)(hy:ys[k2]?=some y)(hQ:∀h',oJ h' z TI TO a true->h'.IsListIter i1 l1 (k1+1)->h'.IsListIter i2 l2 (k2+1)->IsPair h' s.heap.objs.size x y->h'.objs.size=s.heap.objs.size+1->
   (∀c o,c≠z->c≠i1->c≠i2->s.heap.get? c=some o->h'.get? c=some o)->Q (some (.ref s.heap.objs.size)) { s with heap:=h' }):
  wpAny (model prog w) A (pyNext (.ref z)) Q E s:=by
 have hT:s.TypeIs (.ref z) "zip":=⟨_,hz,rfl⟩
 unfold pyNext;refine au (kU (oY (name:=Str.ofString "__next__") hT F.slot_zip_next
  (lM F.slot_zip_next hT F.entry_zip_next ?_ (F.args_zip_next_1 _))))
 show wpAny _ _ (field (.ref z) 2 >>= _) _ _ _;refine au (gc hz rfl (x:=.bool false) rfl ?_);show wpAny _ _ (field (.ref z) 3 >>= _) _ _ _;refine au (gc hz rfl (x:=.ref TI) rfl ?_);refine au (iE hTI rfl ?_);show wpAny _ _ (Builtin.SmallTypes.ownedTupleIsFree (.ref z) >>= _) _ _ _;refine au (xa hz ha fun h₁ hz₁ L7=>?_);simp only[iL,eG];refine au ?_;show wpAny _ _ (forIn #[Value.ref i1,Value.ref i2] _ _) _ _ _;rw[<-uj];simp only[qF,qH];refine au (au (gK ?_));show wpAny _ _ (Builtin.SmallTypes.nextOf (.ref i1) >>= _) _ _ _;refine au (wpAny_nextOf_list_item (h1.extBut L7.extBut D.i1z) (Bi.extBut L7.extBut D.l1z) hx fun h₂ h1₂ Sd=>wpAny_pure ?_);refine wpAny_pure ?_;refine au (au (gK ?_));show wpAny _ _ (Builtin.SmallTypes.nextOf (.ref i2) >>= _) _ _ _;refine au (wpAny_nextOf_list_item ((h2.extBut L7.extBut D.i2z).extBut Sd.extBut D.i12.symm) ((HY.extBut L7.extBut D.l2z).extBut Sd.extBut D.l2i1) hy fun h₃ h2₃ Uz=>wpAny_pure ?_);refine wpAny_pure (wpAny_pure ?_);dsimp only;refine au (uD ?_ (by show 2<=sizeLine;decide));have iC:h₃.objs.size=s.heap.objs.size:=by rw[Uz.1,Sd.1,L7.1]
 refine wpAny_pure ⟨_,rfl,?_⟩;refine wpAny_pure ?_;show Q (some (.ref h₃.objs.size)) _;rw[iC];have up:∀c o,h₃.get? c=some o->(h₃.push { cls:=.type "tuple",data:=.seq #[x,y] }).get? c=some o:=fun c o e=>bP _ e;refine hQ _ (up _ _ (Uz.extBut _ _ D.i2z.symm (Sd.extBut _ _ D.i1z.symm hz₁))) ((h1₂.extBut Uz.extBut D.i12).at fun o e=>up _ o e) (h2₃.at fun o e=>up _ o e) ?_ (by rw[jb,iC]) fun c o c1 c3 c4 e=>up c o (Uz.extBut _ _ c4 (Sd.extBut _ _ c3 (L7.extBut _ _ c1 e)));rw[<-iC];exact cX _ rfl
theorem K3{z TI TO i1 i2 l1 l2 a:Addr}{f:Bool}{oa:Obj}{k1:Nat}{xs:bD}{Q:IE}(hh:A.handled=none)(D:ZipApart z TI TO i1 i2 l1 l2)(hz:oJ s.heap z TI TO a f)(ha:s.heap.get? a=some oa)(hTI:IsPair s.heap TI (.ref i1) (.ref i2))(h1:s.heap.IsListIter i1 l1 k1)(Bi:s.heap.IsList l1 xs)(hx:xs[k1]?=none)(hQ:∀h',(∀c o,c≠z->c≠TO->c≠i1->c≠i2->s.heap.get? c=some o->h'.get? c=some o)->Q none { s with heap:=h' }):
  wpAny (model prog w) A (pyNext (.ref z)) Q E s:=by
 have hT:s.TypeIs (.ref z) "zip":=⟨_,hz,rfl⟩
 unfold pyNext;refine au (kU (oY (name:=Str.ofString "__next__") hT F.slot_zip_next
  (lM F.slot_zip_next hT F.entry_zip_next ?_ (F.args_zip_next_1 _))))
 show wpAny _ _ (field (.ref z) 2 >>= _) _ _ _;refine au (gc hz rfl (x:=.bool false) rfl ?_);show wpAny _ _ (field (.ref z) 3 >>= _) _ _ _;refine au (gc hz rfl (x:=.ref TI) rfl ?_);refine au (iE hTI rfl ?_);show wpAny _ _ (Builtin.SmallTypes.ownedTupleIsFree (.ref z) >>= _) _ _ _;refine au (xa hz ha fun h₁ hz₁ L7=>?_);simp only[iL,eG];refine au ?_;show wpAny _ _ (forIn #[Value.ref i1,Value.ref i2] _ _) _ _ _;rw[<-uj];simp only[qF,qH];refine au (au (gK ?_));show wpAny _ _ (Builtin.SmallTypes.nextOf (.ref i1) >>= _) _ _ _;refine au (wpAny_nextOf_list_end hh (h1.extBut L7.extBut D.i1z) (Bi.extBut L7.extBut D.l1z) hx fun h₂ e Sd he=>?_);obtain⟨o,ho,hc⟩:=he;refine au (Ce (T:="StopIteration") (b:=true) ⟨o,ho,hc⟩ isSubtype_stop ?_);exact wpAny_pure (hQ _ fun c o c1 _ c3 _ x=>Sd _ _ c3 (L7.extBut _ _ c1 x))
structure Se(h:Heap)(z TI TO i1 i2 l1 l2:Addr)(i:Nat)(xs ys:bD)(as:bR):Prop where
 hz:(as=[]/\IsZip h z TI TO .none)\/∃a r f,as=a::r/\oJ h z TI TO a f
 ti:IsPair h TI (.ref i1) (.ref i2)
 to:∃u v,IsPair h TO u v
 r1:h.IsListIter i1 l1 i
 r2:h.IsListIter i2 l2 i
 x:h.IsList l1 xs
 y:h.IsList l2 ys
 len:as.length=i
 pr:∀ (j:Nat) a,as[j]?=some a->∃x y,xs[j]?=some x/\ys[j]?=some y/\IsPair h a x y
theorem Se.keep{h h':Heap}{z TI TO i1 i2 l1 l2 S:Addr}{i:Nat}{xs ys:bD}{as:bR}(t:Se h z TI TO i1 i2 l1 l2 i xs ys as)(k:∀b o,b≠S->h.get? b=some o->h'.get? b=some o)(n1:z≠S)(n2:TI≠S)(n3:TO≠S)(n4:i1≠S)(n5:i2≠S)(n6:l1≠S)(n7:l2≠S)(n8:∀a∈as,a≠S):Se h' z TI TO i1 i2 l1 l2 i xs ys as:=by
 obtain⟨hz,ti,⟨u,v,to⟩,r1,r2,x,y,len,pr⟩:=t;refine⟨?_,k _ _ n2 ti,⟨u,v,k _ _ n3 to⟩,r1.at fun o e=>k _ _ n4 e,r2.at fun o e=>k _ _ n5 e,?_,?_,len,fun j a hj=>?_⟩
 .rcases hz with ⟨e,q⟩|⟨a,r,f,e,q⟩
  .exact .inl ⟨e,k _ _ n1 q⟩
  .exact .inr ⟨a,r,f,e,k _ _ n1 q⟩
 .obtain⟨o,e,q⟩:=x;exact⟨o,k _ _ n6 e,q⟩
 .obtain⟨o,e,q⟩:=y;exact⟨o,k _ _ n7 e,q⟩
 .obtain⟨u,v,e1,e2,e3⟩:=pr j a hj;exact⟨u,v,e1,e2,k _ _ (n8 a (dz hj)) e3⟩
theorem K4{S z TI TO i1 i2 l1 l2 lo:Addr}{xs ys:bD}{R:zu}(hh:A.handled=none)(D:ZipApart z TI TO i1 i2 l1 l2)(hn:xs.size<=1000)(wO:xs.size=ys.size)(res:Value){h₁:Heap}(n1:z≠S)(n2:TI≠S)(n3:TO≠S)(n4:i1≠S)(n5:i2≠S)(n6:l1≠S)(n7:l2≠S)(Uf:S<lo/\z<lo/\TO<lo/\i1<lo/\i2<lo)(hR:∀ (h':Heap) (tk:Nat) (dN:bD) (c:Nat) (as:bR),(∀b o,b≠S->b≠z->b≠TO->b≠i1->b≠i2->h₁.get? b=some o->h'.get? b=some o)->h'.get? S=some { cls:=.type "list",dict:=none,data:=.seq dN c,slots:=#[] }->as.length=xs.size->as.Nodup->(∀a∈as,lo<=a)->
   (∀ (j:Nat) a,as[j]?=some a->∃x y,xs[j]?=some x/\ys[j]?=some y/\IsPair h' a x y)->dN.toList=as.map Value.ref->R (.ok (.ret res)) { s with heap:=h',toks:=tk }):
  ∀ (k i:Nat) (h:Heap) (tk c:Nat) (dN:bD) (as:bR),xs.size-i=k->i<=xs.size->Se h z TI TO i1 i2 l1 l2 i xs ys as->lo<=h.objs.size->(∀b o,b≠S->b≠z->b≠TO->b≠i1->b≠i2->h₁.get? b=some o->h.get? b=some o)->
   h.get? S=some { cls:=.type "list",dict:=none,data:=.seq dN c,slots:=#[] }->dN.toList=as.map Value.ref->as.Nodup->(∀a∈as,lo<=a)->
   codeAny (model prog w) A (.builtin "list.extend.loop" ⟨[.ref S,.ref z,res],[]⟩) R { s with heap:=h,toks:=tk }:=by
 obtain⟨m1,m2,m3,m4,m5⟩:=Uf;intro k;induction k with
 |zero=>
  intro i h tk c dN as hk hi st hl K5 hS AY nd ab;have wP:i=xs.size:=by lia
  have d_:∀h',(∀c o,c≠z->c≠TO->c≠i1->c≠i2->h.get? c=some o->h'.get? c=some o)->R (.ok (.ret res)) { s with heap:=h',toks:=tk }:=fun h' kp=>by
   refine hR h' tk dN c as (fun b o h1 h2 h3 h4 h5 e=>kp b o h2 h3 h4 h5 (K5 b o h1 h2 h3 h4 h5 e)) (kp S _ n1.symm n3.symm n4.symm n5.symm hS) (by rw[st.len,wP]) nd ab (fun j a hj=>?_) AY;obtain⟨u,v,e1,e2,e3⟩:=st.pr j a hj;have:=ab a (dz hj);exact⟨u,v,e1,e2,kp a _ (gO (by lia)) (gO (by lia)) (gO (by lia)) (gO (by lia)) e3⟩
  refine lS Ix ?_;rw[qu Bu _];show wpAny _ A.in1 (pyNext (.ref z) >>= _) _ _ _;obtain⟨u,v,L8⟩:=st.to;rcases st.hz with ⟨e,q⟩|⟨a,r,f,e,q⟩
  .exact au (wpAny_pyNext_zip_end (s:={ s with heap:=h,toks:=tk }) (A:=A.in1) hh D q st.ti L8 st.r1 st.r2 st.x st.y (.inl (by simp;lia)) fun h' kp=>wpAny_pure (d_ h' kp))
  .obtain⟨u',v',_,_,ga⟩:=st.pr 0 a (by rw[e];rfl);exact au (K3 (s:={ s with heap:=h,toks:=tk }) (A:=A.in1) hh D q ga st.ti st.r1 st.x (by simp;lia) fun h' kp=>wpAny_pure (d_ h' kp))
 |succ k ih=>
  intro i h tk c dN as hk hi st hl K5 hS AY nd ab;have eX:i<xs.size:=by lia
  have iC:dN.size=i:=by rw[<-lI,AY,aT,st.len]
  have hx:xs[i]?=some xs[i]:=by simp[eX]
  have hy:ys[i]?=some (ys[i]'(by lia)):=by simp
  have hal:∀a∈as,a<h.objs.size:=fun a ha=>by
   obtain⟨j,hj⟩:=xq.mp ha;obtain⟨_,_,_,_,e⟩:=st.pr j a hj;exact aS e
  have go:∀h' f,(∃u v,IsPair h' TO u v)->oJ h' z TI TO (as.headD h.objs.size) f->h'.IsListIter i1 l1 (i+1)->h'.IsListIter i2 l2 (i+1)->IsPair h' h.objs.size xs[i] (ys[i]'(by lia))->h'.objs.size=h.objs.size+1->(∀c o,c≠z->c≠TO->c≠i1->c≠i2->h.get? c=some o->h'.get? c=some o)->
    wpAny (model prog w) A.in1 (updateSeq S (·.push (Value.ref h.objs.size)) >>= fun _=>again (.builtin "list.extend.loop" ⟨[.ref S,.ref z,res],[]⟩)) (fun d_ s'=>match d_ with|.done f=>R (.ok f) s'|.again c'=>c'.quiet=true/\codeAny (model prog w) A c' R s') (fun e s'=>R (.error e) s') { s with heap:=h',toks:=tk }:=fun h' f ⟨u,v,L8⟩ gz g1 g2 gp gs kp=>by
   have YU:=kp S _ n1.symm n3.symm n4.symm n5.symm hS;have up:∀b o,b≠S->h'.get? b=some o->(h'.update S (Obj.mapSeq (·.push (Value.ref h.objs.size)))).get? b=some o:=fun b o hb e=>(nI _ _ (dI hb)).trans e;have Il:=nL (Obj.mapSeq (·.push (Value.ref h.objs.size))) YU rfl;have UT:∀a∈as++[h.objs.size],lo<=a:=fun a ha=>by
    rcases cL.mp ha with q|q
    .exact ab a q
    .rw[dA.mp q];exact hl
   have hnS:∀a∈as++[h.objs.size],a≠S:=fun a ha=>gO (bv m1 (UT a ha));refine au (xD YU rfl (wpAny_pure ⟨uI Bu _,ih (i+1) _ tk _ (dN.push (Value.ref h.objs.size)) (as++[h.objs.size]) (by lia) eX ?_ ?_ (fun b o h1 h2 h3 h4 h5 e=>up b o h1 (kp b o h2 h3 h4 h5 (K5 b o h1 h2 h3 h4 h5 e))) Il (by rw[nV,AY,dt];rfl) ?_ UT⟩) (by rw[iC];exact aZ (show i<=1000 by lia) (by decide)) (by show (dN.push (Value.ref h.objs.size)).size<=sizeLine+1;rw[Array.size_push,iC];exact aZ (show i+1<=1001 by lia) (by decide)))
   .refine Se.keep (h:=h') ⟨.inr ?_,kp _ _ D.TIz D.TITO D.TIi1 D.TIi2 st.ti,⟨u,v,L8⟩,g1,g2,?_,?_,by rw[dh,st.len];rfl,fun j b hj=>?_⟩ up n1 n2 n3 n4 n5 n6 n7 hnS
    .cases as with
     |nil=>exact⟨_,[],f,rfl,gz⟩
     |cons a r=>exact⟨a,r++[h.objs.size],f,rfl,gz⟩
    .obtain⟨o,e,q⟩:=st.x;exact⟨o,kp _ _ D.l1z D.l1TO D.l1i1 D.l1i2 e,q⟩
    .obtain⟨o,e,q⟩:=st.y;exact⟨o,kp _ _ D.l2z D.l2TO D.l2i1 D.l2i2 e,q⟩
    .rcases Nat.lt_trichotomy j as.length with h1|h1|h1
     .rw[j3 h1] at hj;obtain⟨u',v',e1,e2,e3⟩:=st.pr j b hj;have:=ab b (dz hj);exact⟨u',v',e1,e2,kp b _ (gO (by lia)) (gO (by lia)) (gO (by lia)) (gO (by lia)) e3⟩
     .subst h1;have hb:h.objs.size=b:=by simpa using hj
      subst hb;rw[st.len];exact⟨_,_,hx,hy,gp⟩
     .have vh:(as++[h.objs.size])[j]?=none:=f9 (by rw[dh,lN];lia);rw[vh] at hj;cases hj
   .rw[eV,gs];lia
   .exact j6.mpr ⟨nd,by simp,fun a ha b hb=>by rw[dA.mp hb];exact bf (hal a ha)⟩
  refine lS Ix ?_;rw[qu Bu _];show wpAny _ A.in1 (pyNext (.ref z) >>= _) _ _ _;obtain⟨u,v,L8⟩:=st.to;rcases st.hz with ⟨e,q⟩|⟨a,r,f,e,q⟩
  .refine au (wpAny_pyNext_zip_item (s:={ s with heap:=h,toks:=tk }) D q st.ti L8 st.r1 st.r2 st.x st.y hx hy fun h' a1 a2 a3 a4 a5 a6 a7=>?_);exact go h' false ⟨_,_,a2⟩ (by rw[e];exact a1) a3 a4 a5 a6 a7
  .obtain⟨u',v',_,_,ga⟩:=st.pr 0 a (by rw[e];rfl);refine au (HB (s:={ s with heap:=h,toks:=tk }) D q ga st.ti st.r1 st.r2 st.x st.y hx hy fun h' a1 a3 a4 a5 a6 a7=>?_);exact go h' true ⟨u,v,a7 TO _ D.TOz D.TOi1 D.TOi2 L8⟩ (by rw[e];exact a1) a3 a4 a5 a6 fun c o c1 _ c3 c4 e=>a7 c o c1 c3 c4 e
theorem DN{z TI TO i1 i2 l1 l2:Addr}{xs ys:bD}{R:zu}(hh:A.handled=none)(D:ZipApart z TI TO i1 i2 l1 l2)(hn:xs.size<=1000)(wO:xs.size=ys.size)(S:Addr)(c₀:Nat)(hS:s.heap.get? S=some { cls:=.type "list",data:=.seq #[] c₀ })(n1:z≠S)(n2:TI≠S)(n3:TO≠S)(n4:i1≠S)(n5:i2≠S)(n6:l1≠S)(n7:l2≠S)(st:Se s.heap z TI TO i1 i2 l1 l2 0 xs ys [])(hR:∀ (h':Heap) (tk:Nat) (dN:bD) (c:Nat) (as:bR),(∀b o,b≠S->b≠z->b≠TO->b≠i1->b≠i2->s.heap.get? b=some o->h'.get? b=some o)->h'.get? S=some { cls:=.type "list",dict:=none,data:=.seq dN c,slots:=#[] }->as.length=xs.size->as.Nodup->(∀a∈as,s.heap.objs.size<=a)->
   (∀ (j:Nat) a,as[j]?=some a->∃x y,xs[j]?=some x/\ys[j]?=some y/\IsPair h' a x y)->dN.toList=as.map Value.ref->R (.ok (.ret .none)) { s with heap:=h',toks:=tk }):
  wpAny (model prog w) A.in1 (Builtin.List.listExtendWith (.ref S) (.ref z) .none)
   (fun d_ s'=>match d_ with|.done f=>R (.ok f) s'|.again c'=>c'.quiet=true/\codeAny (model prog w) A c' R s') (fun e s'=>R (.error e) s') s:=by
 have gz:IsZip s.heap z TI TO .none:=by
  rcases st.hz with ⟨_,q⟩|⟨a,r,f,e,q⟩
  .exact q
  .cases e
 have hT:s.TypeIs (.ref z) "zip":=⟨_,gz,rfl⟩
 unfold Builtin.List.listExtendWith;refine au (qL hT ?_);have h1:Builtin.List.listSameRef (.ref S) (.ref z)=false:=by simp[Builtin.List.listSameRef,n1.symm]
 have h2:(Value.type "zip"==Value.type "list")=false:=by decide
 have h3:(Value.type "zip"==Value.type "tuple")=false:=by decide
 simp only[h1,h2,h3,Bool.or_false,iL,eG];refine au (Cd gz ?_);refine au (gK ?_);unfold Builtin.List.listLengthHint;refine au (wpAny_specialOf hT DM ?_);show wpAny _ A.in1 (specialOf (Value.ref z) (Str.ofString "__length_hint__") >>= _) _ _ _;refine au (wpAny_specialOf hT AX ?_);refine wpAny_pure ?_;show wpAny _ A.in1 (rule "list.extend.makes-room" >>= fun _=>Builtin.List.listTouch (.ref S) >>= fun _=>
  again (.builtin "list.extend.loop" ⟨[.ref S,.ref z,.none],[]⟩)) _ _ _
 refine au (fv ?_);refine au ?_;show wpAny _ A.in1 (updateSeq S (·.push .none) >>= fun _=>updateSeq S (·.pop)) _ _ _;refine au (xD hS rfl ?_);have YV:=nL (Obj.mapSeq (·.push Value.none)) hS rfl;refine xD (hz:=by seq_fits) YV rfl ?_;have hS₃:=nL (Obj.mapSeq (·.pop)) YV rfl;have WJ:∀b o,b≠S->s.heap.get? b=some o->((s.heap.update S (Obj.mapSeq (·.push Value.none))).update S (Obj.mapSeq (·.pop))).get? b=some o:=
  fun b o hb e=>(nI _ _ (dI hb)).trans ((nI _ _ (dI hb)).trans e)
 have WL:∀ {a k x},s.heap.IsListIter a k x->a<s.heap.objs.size:=fun h=>let ⟨o,e,_⟩:=h;aS e;obtain⟨u,v,L8⟩:=st.to;refine wpAny_pure ⟨uI F.plain_extend_loop _,K4 (s:=s) (h₁:=s.heap) (lo:=s.heap.objs.size) hh D hn wO .none n1 n2 n3 n4 n5 n6 n7 ⟨aS hS,aS gz,aS L8,WL st.r1,WL st.r2⟩ hR xs.size 0 _ s.toks _ #[] [] (uF _) (cp _)
  (st.keep WJ n1 n2 n3 n4 n5 n6 n7 fun a ha=>(nomatch ha)) (by rw[eV,eV];exact aP _) (fun b o hb _ _ _ _ e=>WJ b o hb e) hS₃ rfl kQ fun a ha=>(nomatch ha)⟩
theorem wa{z TI TO i1 i2 l1 l2:Addr}{xs ys:bD}{Q:bV}(hh:A.handled=none)(D:ZipApart z TI TO i1 i2 l1 l2)(hn:xs.size<=1000)(wO:xs.size=ys.size)(st:Se s.heap z TI TO i1 i2 l1 l2 0 xs ys [])(hQ:∀ (h':Heap) (tk:Nat) (dN:bD) (c:Nat) (as:bR),(∀b o,b≠z->b≠TO->b≠i1->b≠i2->s.heap.get? b=some o->h'.get? b=some o)->h'.get? s.heap.objs.size=some { cls:=.type "list",dict:=none,data:=.seq dN c,slots:=#[] }->as.length=xs.size->as.Nodup->(∀a∈as,s.heap.objs.size<a)->
   (∀ (j:Nat) a,as[j]?=some a->∃x y,xs[j]?=some x/\ys[j]?=some y/\IsPair h' a x y)->dN.toList=as.map Value.ref->Q (.ref s.heap.objs.size) { s with heap:=h',toks:=tk }):
  wpAny (model prog w) A (call (.type "list") [.ref z]) Q E s:=by
 refine callType_codes (Q₁:=fun obj s₁=>obj=.ref s.heap.objs.size/\s₁={ s with heap:=s.heap.push { cls:=.type "list",data:=.seq #[] } }) PySem.F.called_list (PySem.F.typeCall_list_1 _) PySem.F.entry_list_init
  (code_list_new _ ⟨rfl,rfl⟩) fun obj s₁ h₁=>?_
 obtain⟨rfl,rfl⟩:=h₁;have hS:(s.heap.push { cls:=.type "list",data:=.seq #[] }).get? s.heap.objs.size=some { cls:=.type "list",data:=.seq #[] }:=cX _ rfl;have gz:IsZip s.heap z TI TO .none:=by
  rcases st.hz with ⟨_,q⟩|⟨a,r,f,e,q⟩
  .exact q
  .cases e
 obtain⟨u,v,L8⟩:=st.to;have WL:∀ {a k x},s.heap.IsListIter a k x->a≠s.heap.objs.size:=fun h=>let ⟨o,e,_⟩:=h;bf (aS e);have l2':∀ {a x},s.heap.IsList a x->a≠s.heap.objs.size:=fun h=>let ⟨o,e,_⟩:=h;bf (aS e);have n1:=bf (aS gz);have n2:=bf (aS st.ti);have n3:=bf (aS L8);have n4:=WL st.r1;have n5:=WL st.r2;have n6:=l2' st.x;have n7:=l2' st.y;have Bj:=st.keep (h':=s.heap.push { cls:=.type "list",data:=.seq #[] }) (S:=s.heap.objs.size) (fun b o _ e=>bP _ e) n1 n2 n3 n4 n5 n6 n7 fun a ha=>(nomatch ha)
 refine⟨⟨_,hS,rfl⟩,PySem.F.args_list_init_2 _ _,?_⟩;show wpAny _ A.in1.in1 (do let iz <- Builtin.List.listItems (.ref s.heap.objs.size);Builtin.List.listUpdate (.ref s.heap.objs.size) (fun _=>#[]);letGo iz.toList.reverse;Builtin.List.listExtendWith (.ref s.heap.objs.size) (.ref z) .none) _ _ _;refine au ?_;unfold Builtin.List.listItems;refine au (iE hS rfl (wpAny_pure ?_));show wpAny _ A.in1.in1 (updateSeq s.heap.objs.size (fun _=>#[]) >>= fun _=>letGo (#[]:bD).toList.reverse >>= fun _=>Builtin.List.listExtendWith (.ref s.heap.objs.size) (.ref z) .none) _ _ _;refine au (xD hS rfl ?_);have YV:=nL (Obj.mapSeq (fun _=>(#[]:bD))) hS rfl;have WJ:∀b o,b≠s.heap.objs.size->(s.heap.push { cls:=.type "list",data:=.seq #[] }).get? b=some o->((s.heap.push { cls:=.type "list",data:=.seq #[] }).update s.heap.objs.size (Obj.mapSeq (fun _=>(#[]:bD)))).get? b=some o:=
  fun b o hb e=>(nI _ _ (dI hb)).trans e
 refine au (wpAny_letGo ?_);refine DN (A:=A.in1) hh D hn wO _ _ YV n1 n2 n3 n4 n5 n6 n7 (Bj.keep WJ n1 n2 n3 n4 n5 n6 n7 fun a ha=>(nomatch ha)) fun h' tk dN c as hk YU hl hnd rS hpr AY=>⟨rfl,?_⟩
 refine hQ h' tk dN c as (fun b o b1 b2 b3 b4 e=>hk b o (bf (aS e)) b1 b2 b3 b4 (WJ _ _ (bf (aS e)) (bP _ e))) YU hl hnd (fun a ha=>?_) hpr AY;have:=rS a ha;rw[eV,jb] at this;exact this
end
theorem aU.many(I:aU X af σ H s)(k:∀b u,s.heap.get? b=some u->h'.get? b=some u)(iz:∀b,b<s.heap.objs.size->H' b=H b)(new:∀b o,s.heap.objs.size<=b->H' b=some o->dB X.prog X.w H' h' b o):aU X af σ H' { s with heap:=h',toks:=t' }:=by
 have sm:∀b o,H b=some o->H' b=some o:=fun b o e=>by rw[iz b (I.cY b o e).lt];exact e
 refine I.un ⟨fun b u q _ _ _=>k b u q,fun b u q _ _ _=>⟨u.slots,k b u q⟩,fun b u q n _=>by rw[iz b (aS q)];exact n,fun b u q _=>⟨u,k b u q⟩,fun b xs q=>sm b _ q,fun b u xs q=>sm b _ q,fun b ps q=>⟨#[],by rw[sm b _ q];simp⟩⟩ fun b o e=>?_;by_cases hb:b<s.heap.objs.size
 .rw[iz b hb] at e;exact(I.cY b o e).jO (fun d u _ q=>k d u q) (fun d q=>sm d _ q) fun d xs q=>sm d _ q
 .exact new b o (Nat.not_lt.mp hb) e
open rY in
def AZ(H:Hp)(S:Addr)(zs:Zs):Hp:=fun b=>if b=S then some (.lst (zr zs)) else match zs.find? (fun z=>decide (z.1=b)) with
 |some z=>some (oQ z.2)
 |none=>H b
open rY in
theorem Fm:∀ {zs:Zs} {z:Addr×Int×Int},(zs.map (·.1)).Nodup->z∈zs->zs.find? (fun y=>decide (y.1=z.1))=some z
 |y::zs,z,nd,hz=>by
  obtain⟨n1,n2⟩:=gI.mp nd;rw[lQ];rcases bq.mp hz with rfl|q
  .simp
  .have:y.1≠z.1:=fun e=>n1 (bB.mpr ⟨z,q,e.symm⟩);rw[gY this];exact Fm n2 q
section
open rY
variable {X:Cx}
def tLZ(K:a_)(ta:TA):TE:=fun σ H Q=>ta σ H fun vs H1=>∃ (a b:Addr) (ns ms:dG),vs=[.ref a,.ref b]/\a8 K H1 a (ns.map V.int)/\a8 K H1 b (ms.map V.int)/\ns.length=ms.length/\ns.length<=1000/\
 ∀ (l:Addr) (zs:Zs) (H':Hp),aI H1 H'->H1 l=none->H' l=some (.lst (zr zs))->rY.PO H' zs->zp zs=ns.zip ms->Q (.ref l) H'
theorem vE:∀ {ns:dG} {us:bw} {j:Nat} {x:Value},ba (ns.map V.int) us->us[j]?=some x->∃n t,ns[j]?=some n/\x=.int n t
 |[],_,j,x,.nil,h=>by cases h
 |n::ns,_,0,x,.cons ⟨t,e⟩ r,h=>by subst e;cases h;exact⟨n,t,rfl,rfl⟩
 |n::ns,_,j+1,x,.cons _ r,h=>vE (ns:=ns) r h
theorem Fn:∀ {zs:Zs},ba (zr zs) (zs.map fun z=>Value.ref z.1)
 |[]=>.nil
 |z::zs=>.cons rfl (Fn (zs:=zs))
theorem WM{a b:Expr}{ta:TA}{p p2 pos WN:Pos}(hc:X.calm=true)(hg:Gl X "zip")(hm:X.mg "zip"=none)(L3:Gl X "list")(QR:X.mg "list"=none)(ha:PA X [a,b] ta)(hs:starEach [a,b] X.env=[(false,eval a X.env),(false,eval b X.env)]:=by rfl)(oP:starEach [b] X.env=[(false,eval b X.env)]:=by rfl)(he:starEach [.Call (.Name "zip" p) [a,b] [] pos] X.env=[(false,eval (.Call (.Name "zip" p) [a,b] [] pos) X.env)]:=by rfl)(VY:starEach [] X.env=[]:=by rfl):
  PE X (.Call (.Name "list" p2) [.Call (.Name "zip" p) [a,b] [] pos] [] WN) (tLZ X.K ta):=by
 intro af s σ H Q I h;refine nQ (jP I L3 QR qj ?_);refine callWith_type1 ?_ (by rw[he,VY]) (by rw[VY];rfl);rw[he];show wpAny _ _ (spliced ((false,eval (.Call (.Name "zip" p) [a,b] [] pos) X.env)::backTo WN [])) _ _ s;refine Calls.spliced_cons ?_;refine Call_ (jP I hg hm PyProof.Rows.boot_zip (qf (eD (ha pos af s σ H _ I h) fun us s1 ⟨vs,H1,I1,r1,q1⟩=>?_) (by rw[hs,oP]) (by rw[oP];rfl)));obtain⟨l,m,ns,ms,rfl,hl,hm',wO,Uj,q⟩:=q1;obtain⟨u1,u2,rfl,VZ,ru2⟩:=r1.two;obtain rfl:u1=Value.ref l:=VZ;obtain rfl:u2=Value.ref m:=ru2;obtain⟨its,rv,pt,_⟩:=I1.list hl;obtain⟨k9,rv2,Em,_⟩:=I1.list hm';have il:its.length=ns.length:=by rw[<-rv.length,aT]
 have il2:k9.length=ms.length:=by rw[<-rv2.length,aT]
 have eX:l<s1.heap.objs.size:=by obtain⟨o,e,_⟩:=pt.isList;exact aS e
 have JV:m<s1.heap.objs.size:=by obtain⟨o,e,_⟩:=Em.isList;exact aS e
 refine call_zip_2 pt.isList Em.isList fun h' gz gi gq r1 r2 gs k=>?_;refine Calls.spliced_nil ?_;have kl:∀ {a x},s1.heap.IsList a x->h'.IsList a x:=fun z=>let ⟨o,e,r⟩:=z;⟨o,k _ _ e,r⟩;refine wa (s:={ s1 with heap:=h' }) (I1.ok.hd hc) (zipApart_new eX JV) (by simp;lia) (by simp;lia) ⟨.inl ⟨rfl,gz⟩,gi,⟨_,_,gq⟩,r1,r2,kl pt.isList,kl Em.isList,rfl,fun j a hj=>by simp at hj⟩ fun h2 tk dN c as k2 hS hal nd ab pr AY=>?_;have kk:∀b u,s1.heap.get? b=some u->h2.get? b=some u:=fun b u e=>by
  have:=aS e;exact k2 b u (bf (by lia)) (bf (by lia)) (bf (by lia)) (bf (by lia)) (k b u e)
 have gs':h'.objs.size=s1.heap.objs.size+5:=gs;have acn:as.length=ns.length:=by rw[hal];simp;exact il
 let zs:Zs:=as.zip (ns.zip ms)
 have z1:zs.map (·.1)=as:=List.map_fst_zip (by rw[qE];lia);have z2:zp zs=ns.zip ms:=List.map_snd_zip (by rw[qE];lia);have nd':(zs.map (·.1)).Nodup:=by rw[z1];exact nd
 have zpr:∀z∈zs,h'.objs.size<z.1/\∃t u,IsPair h2 z.1 (.int z.2.1 t) (.int z.2.2 u):=fun z hz=>by
  obtain⟨j,hj⟩:=xq.mp hz;obtain⟨e1,e2⟩:=xj.mp hj;obtain⟨e3,e4⟩:=xj.mp e2;obtain⟨x,y,f1,f2,f3⟩:=pr j z.1 e1;obtain⟨n,t,g1,rfl⟩:=vE rv (by simpa using f1);obtain⟨n',u,g2,rfl⟩:=vE rv2 (by simpa using f2);rw[e3] at g1;rw[e4] at g2;cases g1;cases g2;exact⟨ab _ (dz e1),t,u,f3⟩
 have fS:∀z∈zs,z.1≠h'.objs.size:=fun z hz=>gO (zpr z hz).1;have po:rY.PO (AZ H1 h'.objs.size zs) zs:=fun z hz=>by
  unfold AZ;rw[ao (fS z hz),Fm nd' hz]
 have K6:(AZ H1 h'.objs.size zs) h'.objs.size=some (.lst (zr zs)):=by unfold AZ;rw[ap rfl]
 have iz:∀b,b<s1.heap.objs.size->(AZ H1 h'.objs.size zs) b=H1 b:=fun b hb=>by
  unfold AZ;rw[ao (bf (by lia)),BV.mpr fun z hz q=>?_];have:=(zpr z hz).1;have:=fu q;lia
 have Uk:dN.toList=zs.map fun z=>Value.ref z.1:=by rw[AY,<-z1,dQ];rfl
 have I2:aU X af σ (AZ H1 h'.objs.size zs) { s1 with heap:=h2,toks:=tk }:=I1.many (t':=tk) kk iz fun b o hb e=>by
  unfold AZ at e;by_cases eb:b=h'.objs.size
  .subst eb;rw[ap rfl] at e;cases e;refine⟨?_,dN.toList,c,?_,by simpa using hS⟩
   .rw[dZ,<-b_,z2,qE];exact aZ (show _<=1000 by lia) (by decide)
   .rw[Uk];exact Fn
  .rw[ao eb] at e;cases f:zs.find? (fun z=>decide (z.1=b)) with
   |none=>
    rw[f] at e;have:H1 b=some o:=e;exact absurd (I1.cY b o this).lt (by lia)
   |some z=>
    rw[f] at e;cases e;have hz:=Iy f;obtain rfl:z.1=b:=fu (B8 (p:=fun z:Addr×Int×Int=>decide (z.1=b)) f);obtain⟨_,t,u,gp⟩:=zpr z hz;exact⟨by show 2<=sizeLine;decide,[.int z.2.1 t,.int z.2.2 u],.cons ⟨_,rfl⟩ (.cons ⟨_,rfl⟩ .nil),_,gp,rfl,_,rfl,rfl⟩
 exact⟨.ref h'.objs.size,_,I2,rfl,q _ zs _ (fun b o e=>by rw[iz b (I1.cY b o e).lt];exact e) (I1.cY.fresh (by lia)) K6 po z2⟩
end
end L2
namespace rY
open PySem L2 lj
abbrev Sf:Stmt:=top 45
abbrev Sg:Stmt:=top 46
theorem lE:(["_law_turn","_law_left","_law_pot_here"]:bQ).Nodup:=by decide +kernel
theorem yL:(["_law_tie","_law_found"]:bQ).Nodup:=by decide +kernel
theorem sV:(["_law_house","_law_counts"]:bQ).Nodup:=by decide +kernel
theorem oM:(["_law_k","_law_left","_law_pot_here"]:bQ).Nodup:=by decide +kernel
theorem jl:(["_law_one","_law_other","_law_names"]:bQ).Nodup:=by decide +kernel
abbrev Sh(K:a_):TE:=(tBM K "list" Jh (bb 1) (bJ (rN io [] E0 (bJ (bb 2) (bJ (Vi (fun xs H Q=>∃p ys,xs=[V.ref p]/\(a8 K H p ys\/cu K H p ys)/\Q (.int ys.length) H) (bJ (bb 1) h_)) h_))) h_))
def sW(n:Nat)(ts:Ts):List Nat:=(List.range n).map fun (h:Nat)=>gu ts (ci h)
theorem K7:(sW n ts).length=n:=by unfold sW;rw[aT,dk]
theorem K8(hh:h<n):(sW n ts).getD h 0=gu ts (ci h):=by
 unfold sW;rw[cw,cA,f_ hh];rfl
theorem K9:(oG xs).map (·.1)=xs.map ci:=by
 unfold oG;rw[dQ];refine lK fun k=>?_;rw[cA,cA];by_cases h:k<xs.length
 .rw[f_ h,cz h];exact congrArg (fun x=>some (ci x)) (dD h)
 .rw[f9 (by rw[dk];lia),f9 (by lia)];rfl
theorem A0(nd:xs.Nodup):gu (oG xs) (ci h)=if h∈xs then 1 else 0:=by
 unfold gu;rw[im,K9];have nd':=vj nd;have e:ci h∈xs.map ci↔h∈xs:=by
  rw[bB];exact⟨fun ⟨a,ha,e⟩=>d7 e ▸ ha,fun hh=>⟨h,hh,rfl⟩⟩
 by_cases hh:h∈xs
 .rw[ap hh];exact Nat.le_antisymm (List.nodup_iff_count.mp nd' _) (List.count_pos_iff.mpr (e.mpr hh))
 .rw[ao hh];exact List.count_eq_zero.mpr fun z=>hh (e.mp z)
theorem HC:List.replicate n (V.int 1)=NV (sW n (oG (List.range n))):=by
 refine lK fun i=>?_;unfold NV sW;rw[dQ,t_,cA];by_cases hi:i<n
 .rw[ap hi,f_ hi];show some (V.int 1)=some (V.int ((gu (oG (List.range n)) (ci i):Nat):Int));rw[A0 jG,ap (bY.mpr hi)];rfl
 .rw[ao hi,f9 (by rw[dk];lia)];rfl
theorem WP(h:0<zs.length):zr zs≠NV ns:=fun e=>by
 cases zs with
 |nil=>exact absurd h (jc _)
 |cons z zs=>
  cases ns with
  |nil=>cases e
  |cons n ns=>exact absurd (n0 e).1 (by intro z;cases z)
theorem _root_.lj.cJ.pos(F:cJ n ts):0<ts.length:=by
 obtain⟨k,w⟩:=F.con 0 1 (by have:=F.n1;lia) (by have:=F.n1;lia);cases k with
 |zero=>cases w
 |succ k=>obtain⟨c,_,t⟩:=w;exact ua t
theorem HD:(cs.map ci).zip ((cs.drop 1++cs.take 1).map ci)=oG cs:=by
 refine lK fun k=>?_;unfold oG;rw[cA];by_cases h:k<cs.length
 .rw[f_ h];refine xj.mpr ⟨?_,?_⟩
  .show _=some (ci (cs.getD k 0));rw[cA,cz h,dD h];rfl
  .show _=some (ci (cs.getD ((k+1) % cs.length) 0));rw[cA];by_cases h2:k+1<cs.length
   .rw[j3 (by rw[kL];lia),List.getElem?_drop,Nat.add_comm 1 k,cz h2,jE h2,dD h2];rfl
   .rw[rJ (by rw[kL];lia),kL,show k-(cs.length-1)=0 by lia,show k+1=cs.length by lia,Nat.mod_self,By (by lia),cz (by lia),dD (by lia)];rfl
 .rw[f9 (by rw[qE,aT,aT,dh,kL,kK];lia),f9 (by rw[dk];lia)];rfl
theorem A1(hp:bn H p)(hL:H L=some (.lst (NV (List.range m))))(npL:L≠p)(hD:H D'=none)(hr:r<=m)(hm:m<=32)(q:∀ (xs ls:aQ) (H2:Hp),(∀b o,H b=some o->b≠p->b≠L->H2 b=some o)->bn H2 p->H2 D'=some (.lst (NV xs))->(xs++ls).Perm (List.range m)->xs.length=r->d_ H2):
  ix (HV 0 r) (bH 0) QH (Sh K) D' d_ [none,some (.ref L),some (.ref p)] (upd H D' (.lst [])):=by
 have npD:D'≠p:=hp.ne hD;have nLD:L≠D':=am hL hD;refine fJ (n:=r) (lo:=0) (fun i ys σ H2=>(∃k,σ=[k,some (.ref L),some (.ref p)])/\(∀b o,H b=some o->b≠p->b≠L->H2 b=some o)/\bn H2 p/\∃ls xs:List Nat,H2 L=some (.lst (NV ls))/\H2 D'=some (.lst ys)/\ys=NV xs/\(xs++ls).Perm (List.range m)/\xs.length=i)
  ⟨⟨_,rfl⟩,fun b o e _ _=>aj hD b o e,hp.same (aj hD),List.range m,[],by rw[aq nLD];exact hL,ae,rfl,iD _,rfl⟩ ?_ ?_
 .rintro i ys σ H2 Kt Kf hi ⟨⟨k',rfl⟩,sm,vK,ls,xs,YW,jy,rfl,pm,xl⟩ kt kf;have ll:ls.length=m-i:=by have:=pm.length_eq;rw[dh,dk] at this;lia
  refine⟨_,rfl,.inl ⟨rfl,_,a8.of YW⟩,_,rfl,_,rfl,L,_,rfl,.inl (a8.of YW),p,_,rfl,by rw[be];lia,by rw[be];lia,vK,fun d H3 hd s3 nB=>?_⟩;rw[be] at hd;have hv:ls[d]?=some ls[d]:=cz hd;refine⟨L,_,(d:Int),d,.int (ls[d]:Nat),rfl,rfl,s3 _ _ YW npL,by lia,by lia,(xS (eJ (by rw[be];exact hd))).1,by unfold NV;rw[cA,hv];rfl,?_⟩;refine kt _ _ _ (by rw[aq nLD.symm];exact s3 _ _ jy npD) (by rw[be,xl];exact bv (show i<33 by lia) (by decide)) ⟨⟨_,rfl⟩,fun b o e n n2=>?_,?_,ls.eraseIdx d,xs++[ls[d]],by rw[aq nLD,ae,AT],ae,by rw[jz],KI pm hv,by rw[dh,xl];rfl⟩
  .rw[aq (am e hD),aq n2];exact s3 _ _ (sm _ _ e n n2) n
  .exact(nB.put npL.symm).put npD.symm
 .rintro ys σ H2 ⟨_,sm,vK,ls,xs,YW,jy,rfl,pm,xl⟩;exact q xs ls H2 sm vK jy pm xl
section
variable {P:bL} {w:World} {K:a_} {mg:cr} {base:Heap}
theorem Fp:aN ["_law_pot_here","_law_many","_law_ties","_law_names","_law_left"] ["_law_pot_here","_law_many","_law_ties"] (aw Sg):=dW (by decide +kernel)
def Fq:Sp:=fun vs H Q _=>∃ (p l:Addr) (n:Nat) (zs:Zs),vs=[.ref p,.int n,.ref l]/\bn H p/\H l=some (.lst (zr zs))/\PO H zs/\l≠p/\cJ n (zp zs)/\∀ (r:Addr) (jx:Zs) (H':Hp),aO p H H'->bn H' p->H r=none->H' r=some (.lst (zr jx))->PO H' jx->cJ n (zp jx)->Q (.ref r) H'
theorem Si(F:iH K "_law_renamed" "_law_renamed" Sg f fd)(B:Bl mg)(D:d9 P w K mg base bo 1 "_law_take" ["_law_pot_here","_law_many"] io):bU P w K mg base bo 2 f fd ["_law_pot_here","_law_many","_law_ties"] Fq:=by
 refine F.ok Fp (fun vs H Q E h=>?_) (fun fX A outer s H vs Q E hr h=>?_)
 .obtain⟨p,l,n,zs,rfl,_⟩:=h;rfl
 .obtain⟨p,l,n,zs,rfl,hp,hl,po,nlp,Fi,q⟩:=h;have n2:=Fi.n2;have zl:zs.length<=256:=by have:=Fi.len;rwa [b_] at this
  refine'⟨_,(ak (aW (i:=3) Fp.nd rfl cW (cU (oq rfl) (by rfl) B.lst qj (aa (cU md (by rfl) B.range BB (aa (pv 1) ag)) ag)))
   (ak (dS (aY iQ (aH D hr aM (aa (pv 0) (aa az ag))) az (bp _)) (ak (aW (i:=4) Fp.nd rfl cW (cU (oq rfl) (by rfl) B.lst qj (aa (cU md (by rfl) B.range BB (aa (pv 1) ag)) ag)))
    (av (aW (i:=3) Fp.nd rfl cW ?c1))) b8)
   (av (bh ?c2)))),?_⟩
  case c1=>
   refine' cQ (g:=(bH 0)) (te:=(Sh K)) (NB:=["_law_k","_law_left","_law_pot_here"]) (src:=[none,some 4,some 0]) (bz (by kernel_rfl)) rfl (b9 rfl B.range (aa (pv 1) ag)) ?g ?t ?e;case g=>exact fun cl C s₃ H₃ fp=>(aA (i:=0) oM rfl aL cW)
   case t=>exact fun cl C s₃ H₃ fp=>dC
   case e=>exact fun cl C s₃ H₃ fp=>(gQ gy PySem.F.slot_list_pop PySem.F.type_list_pop zX (pv 1) (aa (aH D hr aM (aa (pv 2) (aa (aJ aV (by rfl) B.len fc (aa (pv 1) ag)) ag))) ag))
  case c2=>
   refine' cQ (g:=(uN K 2 (gn (bH 0) (gn (bH 1) uM)))) (te:=(sn (bJ (jR (sr K) (bb 2) (bb 0)) (bJ (jR (sr K) (bb 2) (bb 1)) h_)))) (NB:=["_law_one","_law_other","_law_names"]) (src:=[none,none,some 3]) (bz (by kernel_rfl)) rfl (bN (pv 2)) ?g ?t ?e;case g=>exact fun cl C s₃ H₃ fp=>(dX (n:=2) rfl (aE (aA (i:=0) jl rfl aL cW) (aE (aA (i:=1) jl rfl aL cW) cM)))
   case t=>exact fun cl C s₃ H₃ fp=>dC
   case e=>exact fun cl C s₃ H₃ fp=>(bT (aa (aX aG (pv 2) (pv 0) (fun _ _=>rfl)) (aa (aX aG (pv 2) (pv 1) (fun _ _=>rfl)) ag)))
  refine⟨_,rfl,n,rfl,fun R hR=>⟨R,n,rfl,ae,by lia,fun N hN=>?_⟩⟩;have s0:aI H (upd (upd H R (.Ef 0 n)) N (.lst (NV (List.range n)))):=(aj hR).trans (aj hN);have gN:=ae (H:=upd H R (.Ef 0 n)) (a:=N) (o:=.lst (NV (List.range n)));have hNH:H N=none:=(aj hR).free hN;generalize upd (upd H R _) N _=H0 at *;dsimp only;refine wX (fun σ Hc=>∃N xs v,σ=[some (.ref p),some (.int n),some (.ref l),some (.ref N),v]/\aO p H Hc/\bn Hc p/\Hc N=some (.lst (NV xs))/\xs.Perm (List.range n)) ?_ ?_
  .rintro σ Hc ⟨N,xs,v,rfl,sc,oH,hNc,pm⟩;have xl:xs.length=n:=by have:=pm.length_eq;rwa [dk] at this
   have hlc:=sc _ _ hl nlp;have poc:=po.r0 sc hp;refine⟨_,rfl,l,rfl,⟨_,a8.of hlc⟩,fun D1 DB=>?_⟩;refine vt (ren xs) (fun σ=>∃a b,σ=[a,b,some (.ref N)]) hlc poc DB (by lia) ⟨_,_,rfl⟩ ?_ ?_
   .rintro z σ H3 Rr Kf hz ⟨a,b,rfl⟩ s3 ha kt;obtain⟨⟨a0,a1⟩,⟨b0,b1⟩⟩:=Fi.rg z.2 (bB.mpr ⟨z,hz,rfl⟩);have gt:∀x:Int,0<=x->x<n->zS (NV xs) x=some (.int (ci (xs.getD x.toNat 0))):=fun x h0 h1=>by
     have:=aD (xs:=NV xs) (iS (xs:=xs) (j:=x.toNat) (by lia));rwa [qr h0] at this
    refine⟨z.1,_,rfl,cu.of ha,rfl,_,_,rfl,_,_,rfl,rfl,?_⟩;exact⟨_,rfl,_,rfl,N,_,_,_,rfl,rfl,a8.of (s3 _ _ hNc),gt _ a0 a1,_,rfl,_,rfl,N,_,_,_,rfl,rfl,a8.of (s3 _ _ hNc),gt _ b0 b1,by show 2<=sizeLine;decide,fun t ht=>kt _ _ ⟨_,_,rfl⟩ ht⟩
   .intro jx H3 s3 h3 RD e3 _;exact q D1 jx H3 (sc.trans (aO.of s3)) (oH.same s3) (sc.free oH.full DB) h3 RD (by rw[e3];exact Fi.ren pm)
  .intro Nx hNx;refine⟨_,rfl,p,2,rfl,by decide,by decide,hp.same s0,fun d H1 hd s1 mW=>⟨rfl,_,rfl,?_⟩⟩;have P0:aO p H H1:=(aO.of s0).trans s1;refine gU (fun c=>?_) (fun c=>hNx _ _ ⟨N,_,_,rfl,P0,mW,s1 _ _ gN (hp.ne hNH),iD _⟩);refine⟨_,rfl,n,rfl,fun R2 v9=>⟨R2,n,rfl,ae,by lia,fun L hL=>?_⟩⟩;have sL:aI H1 (upd (upd H1 R2 (.Ef 0 n)) L (.lst (NV (List.range n)))):=(aj v9).trans (aj hL);have gL:=ae (H:=upd H1 R2 (.Ef 0 n)) (a:=L) (o:=.lst (NV (List.range n)));have tX:H1 L=none:=(aj v9).free hL;generalize upd (upd H1 R2 _) L _=H2 at *;refine⟨_,rfl,(n:Int),rfl,by lia,by lia,fun D1 DB=>?_⟩;rw[gE];refine A1 (mW.same sL) gL (mW.ne tX) DB (aP _) n2 fun xs ls H3 s3 nB h3 pm xl=>?_;obtain rfl:ls=[]:=List.length_eq_zero_iff.mp (by have:=pm.length_eq;rw[dh,dk] at this;lia);rw[jH] at pm;refine hNx _ _ ⟨D1,xs,_,rfl,fun b o e m=>s3 _ _ (sL _ _ (P0 _ _ e m)) m ?_,nB,h3,pm⟩;rintro rfl;rw[P0 _ _ e m] at tX;cases tX
theorem mx:aN ["_law_pot_here","_law_many","_law_found","_law_counts","_law_k","_law_left","_law_size","_law_some","_law_ties","_law_new","_law_house"] ["_law_pot_here","_law_many"] (aw Sf):=dW (by decide +kernel)
def K_:Sp:=fun vs H Q _=>∃ (p:Addr) (n:Nat),vs=[.ref p,.int n]/\2<=n/\n<=32/\bn H p/\∀ (r:Addr) (zs:Zs) (H':Hp),aO p H H'->bn H' p->H r=none->H' r=some (.lst (zr zs))->PO H' zs->cJ n (zp zs)->Q (.ref r) H'
theorem Sj(F:iH K "_law_one_way" "_law_one_way" Sf f fd)(B:Bl mg)(B2:Uu mg)(D:d9 P w K mg base bo 1 "_law_take" ["_law_pot_here","_law_many"] io)(RG:d9 P w K mg base bo 1 "_law_ring" ["_law_many"] yI):bU P w K mg base bo 2 f fd ["_law_pot_here","_law_many"] K_:=by
 refine F.ok mx (fun vs H Q E h=>?_) (fun fX A outer s H vs Q E hr h=>?_)
 .obtain⟨p,n,rfl,_⟩:=h;rfl
 .obtain⟨p,n,rfl,n1,n2,hp,q⟩:=h;refine'⟨_,(ak (d8 (bT (aa (aH RG hr aM (aa (pv 1) ag)) (aa (a9 ya (cH (aa az ag)) (pv 1)) ag))) (dX (n:=2) rfl (aE (aA (i:=2) mx.nd rfl cW) (aE (aA (i:=3) mx.nd rfl cW) cM))))
   (ak (du eI rfl (b9 rfl B.range (aa (aH D hr aM (aa (pv 0) (aa (a9 dM (pv 1) az) ag))) ag)) (aA (i:=4) mx.nd rfl aL)
    (ak (aW (i:=5) mx.nd rfl cW (cU (oq rfl) (by rfl) B.lst qj (aa (cU md (by rfl) B.range BB (aa (pv 1) ag)) ag)))
    (ak (aW (i:=6) mx.nd rfl aL (a9 dM az (aH D hr aM (aa (pv 0) (aa (aJ (qS rfl) (by rfl) B.min BG (aa az (aa (a9 k6 (pv 1) az) ag))) ag)))))
    (ak (fE (i:=7) (g:=(bH 0)) (te:=(Sh K)) (NB:=["_law_turn","_law_left","_law_pot_here"]) (src:=[none,some 5,some 0]) (bz (by kernel_rfl)) rfl (b9 rfl B.range (aa (pv 6) ag)) ?g1 ?t1 ?e1 mx.nd rfl rfl rfl)
    (ak (aW (i:=8) mx.nd rfl aL (WM rfl rfl B2.zip rfl B.lst (aa (pv 7) (aa (a9 uU (l9 xU (pv 7) (pB az) pA) (l9 xU (pv 7) pA (pB az))) ag))))
    (ak (fE (i:=9) (g:=(bH 0)) (tt:=(pf (jR (Rb K true) (bb 0) (bb 1)))) (te:=(bb 0)) (NB:=["_law_tie","_law_found"]) (src:=[none,some 2]) (bz (by kernel_rfl)) rfl (bN (pv 8)) ?g2 ?t2 ?e2 mx.nd rfl rfl rfl)
    (av (dS (PW.pt (xP (aY iQ (aJ aV (by rfl) B.len fc (aa (pv 9) ag)) (aJ aV (by rfl) B.len fc (aa (pv 8) ag)) (bp _)) (tE (aY ni (aJ (G7 rfl) (by rfl) B.max BH (aa ?c3 ag)) az (bp _))))) (ak (aW (i:=2) mx.nd rfl cW (a9 uU (pv 2) (pv 8)))
     (av (du eI rfl (bN (pv 7)) (aA (i:=10) mx.nd rfl aL)
      (av (d8 (a9 dM (aX aG (pv 3) (pv 10) (fun _ _=>rfl)) az) (gx (pv 3) (pv 10) dY)))))) b8))))))))
   (av (bh (pv 2))))),?_⟩
  case g1=>exact fun cl C s₃ H₃ fp=>(aA (i:=0) lE rfl aL cW)
  case t1=>exact fun cl C s₃ H₃ fp=>dC
  case e1=>exact fun cl C s₃ H₃ fp=>(gQ gy PySem.F.slot_list_pop PySem.F.type_list_pop zX (pv 1) (aa (aH D hr aM (aa (pv 2) (aa (aJ aV (by rfl) B.len fc (aa (pv 1) ag)) ag))) ag))
  case g2=>exact fun cl C s₃ H₃ fp=>(aA (i:=0) yL rfl aL cW)
  case t2=>exact fun cl C s₃ H₃ fp=>g8 (aY (mP hr.u) (pv 0) (pv 1) rfl)
  case e2=>exact fun cl C s₃ H₃ fp=>(pv 0)
  case c3=>
   refine' cQ (g:=(bH 0)) (te:=(jR (sr K) (bb 1) (bb 0))) (NB:=["_law_house","_law_counts"]) (src:=[none,some 3]) (bz (by kernel_rfl)) rfl (bN (pv 7)) ?g ?t ?e;case g=>exact fun cl C s₃ H₃ fp=>(aA (i:=0) sV rfl aL cW)
   case t=>exact fun cl C s₃ H₃ fp=>dC
   case e=>exact fun cl C s₃ H₃ fp=>(aX aG (pv 1) (pv 0) (fun _ _=>rfl))
  refine⟨_,rfl,n,rfl,n1,n2,fun T0 Dr H1 s1 R7 hT1 P1 ez1=>⟨by show 1<=sizeLine;decide,fun L1 tX=>⟨_,rfl,L1,_,_,rfl,rfl,ae,by lia,by lia,by rw[gE,lN];exact aZ (show 1*n<=32 by lia) (by decide),fun M hM=>?_⟩⟩⟩;rw[gE,mr,HC];refine⟨by show 2<=sizeLine;decide,fun T1 aat=>⟨T1,_,rfl,cu.of ae,rfl,_,_,rfl,_,_,rfl,rfl,?_⟩⟩;have F0:cJ n (zp Dr):=by rw[ez1];exact(wW n1 n2 (iD _)).perm mT
  rw[<-ez1] at *;have s3:=aj (o:=.tup [.ref T0,.ref M]) aat;have sL:=aj (o:=.lst [.int 1]) tX;have s2:=(sL.trans (aj (o:=.lst (NV (sW n (zp Dr)))) hM)).trans s3;have gT:=s2 _ _ hT1;have gM:=s3 _ _ (ae (H:=upd H1 L1 (.lst [.int 1])) (a:=M) (o:=.lst (NV (sW n (zp Dr)))));have DH:=P1.same s2;have Uv:H M=none:=s1.free (sL.free hM);have L4:M≠p:=hp.ne Uv;have sH:=s1.trans s2;generalize upd (upd (upd H1 L1 _) M _) T1 _=H2 at *;clear s3 sL s2 hT1 P1;refine⟨_,rfl,_,rfl,_,_,rfl,rfl,p,n+1,rfl,by lia,by lia,hp.same sH,fun d H3 hd s3 nB=>⟨(d:Int),rfl,by lia,by lia,?_⟩⟩;rw[gE];refine eh (lo:=0) (n:=d) (fun i σ Hc=>∃ (T:Addr) (zs:Zs),(∃a b c e f g h,σ=[some (.ref p),some (.int n),some (.ref T),some (.ref M),a,b,c,e,f,g,h])/\aO p H Hc/\bn Hc p/\H T=none/\Hc T=some (.lst (zr zs))/\PO Hc zs/\Hc M=some (.lst (NV (sW n (zp zs))))/\cJ n (zp zs)) ⟨T0,Dr,⟨_,_,_,_,_,_,_,rfl⟩,(aO.of sH).trans s3,nB,R7,s3 _ _ gT (hp.ne R7),DH.r0 s3 (hp.same sH),s3 _ _ gM L4,F0⟩ ?_ ?_
  .clear gT gM DH F0 s3 nB sH;rintro i σ Hc hi ⟨T,zs,⟨x4,x5,x6,x7,x8,x9,Fs,rfl⟩,sc,oH,hT,Ft,po,DK,Fi⟩;have nTp:T≠p:=hp.ne hT;have YR:zs.length<=256:=by have:=Fi.len;rwa [b_] at this
   have nTM:T≠M:=by rintro rfl;rw[Ft] at DK;have:=HO.lst.inj (cB DK);exact WP (by rw[b_.symm];exact Fi.pos) this
   refine⟨_,rfl,n,rfl,fun R hR=>⟨R,n,rfl,ae,by lia,fun L hL=>?_⟩⟩;have sL:aI Hc (upd (upd Hc R (.Ef 0 n)) L (.lst (NV (List.range n)))):=(aj hR).trans (aj hL);have gL:=ae (H:=upd Hc R (.Ef 0 n)) (a:=L) (o:=.lst (NV (List.range n)));have HF:Hc L=none:=(aj hR).free hL;have nLp:=oH.ne HF;generalize upd (upd Hc R _) L _=H4 at *;have em:(if (n:Int)-1<4 then (n:Int)-1 else 4)=((min 4 (n-1):Nat):Int):=by split <;> lia
   refine⟨_,rfl,_,rfl,_,_,rfl,rfl,4,_,rfl,p,min 4 (n-1),by rw[em];rfl,by lia,by lia,oH.same sL,fun d2 H5 RW s5 w9=>⟨_,_,rfl,rfl,?_⟩⟩;have e3:(2:Int)+(d2:Int)=((2+d2:Nat):Int):=by lia
   refine⟨_,rfl,((2+d2:Nat):Int),congrArg (fun v=>[V.int v]) e3,by lia,by lia,fun S hS=>?_⟩;rw[gE];refine A1 w9 (s5 _ _ gL nLp) nLp hS (by lia) n2 fun cs ls H6 s6 zm WQ pm cl=>?_;have vZ:∀b o,Hc b=some o->b≠p->H6 b=some o:=fun b o e m=>s6 _ _ (s5 _ _ (sL _ _ e) m) m (am e HF);have cnd:cs.Nodup:=(j6.mp (pm.nodup_iff.mpr jG)).1;have YX:∀x∈cs,x<n:=fun x hx=>bY.mp (pm.mem_iff.mp (gC _ hx));have hT6:=vZ _ _ Ft nTp;have PY:=vZ _ _ DK L4;have PZ:PO H6 zs:=fun z hz=>vZ _ _ (po z hz) (oH.neT (po z hz));have WR:aO p H H6:=fun b o e m=>vZ _ _ (sc _ _ e m) m;have nSM:S≠M:=(am (s5 _ _ (sL _ _ DK) L4) hS).symm;clear s6 s5 w9 gL sL vZ hS pm;refine⟨_,rfl,_,rfl,_,rfl,S,_,rfl,a8.of WQ,fun S1 Vz=>?_⟩;have sS1:=aj (o:=.lst (iu (NV cs) (some 1) none)) Vz;refine⟨_,rfl,_,rfl,S,_,rfl,a8.of (sS1 _ _ WQ),fun S2 Il=>?_⟩;have sS2:=aj (o:=.lst (iu (NV cs) none (some 1))) Il;refine⟨S1,S2,_,_,rfl,rfl,sS2 _ _ ae,ae,?_,fun S3 hS3=>?_⟩
   .rw[show (1:Int)=((1:Nat):Int) from rfl,vC,DI,kL,kK,be];exact aZ (show _<=12 by lia) (by decide)
   have sS3:=aj (o:=.lst (iu (NV cs) (some 1) none++iu (NV cs) none (some 1))) hS3;have sS:=(sS1.trans sS2).trans sS3;have gS3:=ae (H:=upd (upd H6 S1 (.lst (iu (NV cs) (some 1) none))) S2 (.lst (iu (NV cs) none (some 1)))) (a:=S3) (o:=.lst (iu (NV cs) (some 1) none++iu (NV cs) none (some 1)));have e4:iu (NV cs) (some 1) none++iu (NV cs) none (some 1)=((cs.drop 1++cs.take 1).map ci).map V.int:=by
    rw[show (1:Int)=((1:Nat):Int) from rfl,vC,DI];unfold NV;rw[<-List.map_drop,<-List.map_take,dQ,<-dt];rfl
   have e5:NV cs=(cs.map ci).map V.int:=by unfold NV;rw[dQ];rfl
   refine⟨S,S3,cs.map ci,(cs.drop 1++cs.take 1).map ci,rfl,by rw[<-e5];exact a8.of (sS _ _ WQ),by rw[<-e4];exact a8.of gS3,by simp;lia,by rw[aT];lia,fun Tn ms H7 s7 UA YY poM WS=>?_⟩;rw[HD] at WS;have La:=sS.trans s7;have hS7:=La _ _ WQ;have Sk:=La _ _ hT6;have Uy:=La _ _ PY;have R9:=PZ.same La;have KY:=zm.same La;have YT:aO p H H7:=WR.trans (aO.of La);have aco:H Tn=none:=WR.free zm.full (sS.free UA);clear La s7 sS sS1 sS2 sS3 gS3 PZ PY hT6 WQ WR zm e4 Vz Il hS3;have ml:ms.length=cs.length:=by rw[<-b_,WS];unfold oG;rw[aT,dk]
   refine⟨_,rfl,Tn,rfl,⟨_,a8.of YY⟩,fun Nw hNw=>?_⟩;refine NK (fun u=>!decide (u∈zp zs)) (fun σ=>∃x,σ=[x,some (.ref T)]) YY hNw (by lia) ⟨_,rfl⟩ ?_ ?_
   .rintro z σ H8 Kt Kf hz ⟨x,rfl⟩ sm8 kt kf;obtain⟨l1,l2⟩:=Fg (K:=K) (R9.same sm8);refine⟨_,rfl,_,rfl,z.1,T,z.2,zs.map (fun z:Addr×Int×Int=>z.1),zp zs,rfl,rfl,cu.of (sm8 _ _ (poM z hz)),by rw[<-iX];exact a8.of (sm8 _ _ Sk),by rw[aT];exact l1,l2,_,rfl,?_⟩;exact gU (fun c=>⟨_,rfl,kt _ _ ⟨_,rfl⟩ (aI.refl _) c⟩) (fun c=>kf _ _ ⟨_,rfl⟩ (aI.refl _) (by simpa using c))
   intro H8 s8 hN8;have hS8:=s8 _ _ hS7;have WT:=s8 _ _ YY;have hT8:=s8 _ _ Sk;have YZ:=s8 _ _ Uy;have po8:=R9.same s8;have aau:=poM.same s8;have hp8:=KY.same s8;have sH8:aO p H H8:=YT.trans (aO.of s8);clear hS7 YY Sk Uy R9 poM KY YT s8;refine⟨_,rfl,Nw,_,rfl,.inl (a8.of hN8),_,rfl,Tn,_,rfl,.inl (a8.of WT),rfl,_,rfl,?_⟩;have jO:∀Hd:Hp,aI H8 Hd->∃ (T':Addr) (jx:Zs),(∃a b c e f g h,[some (V.ref p),some (.int n),some (.ref T),some (.ref M),some (.int (0+(i:Int))),some (.ref L),some (.int (2+(d2:Int))),some (.ref S),some (.ref Tn),some (.ref Nw),Fs]=[some (.ref p),some (.int n),some (.ref T'),some (.ref M),a,b,c,e,f,g,h])/\aO p H Hd/\bn Hd p/\H T'=none/\Hd T'=some (.lst (zr jx))/\PO Hd jx/\Hd M=some (.lst (NV (sW n (zp jx))))/\cJ n (zp jx):=fun Hd sd=>⟨T,zs,⟨_,_,_,_,_,_,_,rfl⟩,sH8.trans (aO.of sd),hp8.same sd,hT,sd _ _ hT8,po8.same sd,sd _ _ YZ,Fi⟩
   refine gU (fun c1=>?_) (fun c1=>jS (jO _ (aI.refl _)));have c2:(zr (ms.filter fun z=>!decide (z.2∈zp zs))).length=(zr ms).length:=d7 (by simpa using c1);rw[v_ (c:=fun u=>!decide (u∈zp zs)),dZ,<-b_] at c2;have nin:∀t∈zp ms,t∉zp zs:=fun t ht=>by simpa using List.length_filter_eq_length_iff.mp c2 t ht
   refine⟨_,rfl,S,rfl,⟨_,a8.of hS8⟩,fun Ct hC=>?_⟩;refine Fh cs (fun (x:Nat)=>V.int (x:Int)) (fun (x:Nat)=>V.int ((gu (zp zs) (ci x):Nat):Int)) (fun σ=>∃x,σ=[x,some (.ref M)]) hS8 hC (by lia) ⟨_,rfl⟩ ?_ ?_
   .rintro x σ Y0 R' Kf hx ⟨x',rfl⟩ aav kt;refine⟨_,rfl,_,rfl,M,_,_,_,rfl,rfl,a8.of (aav _ _ YZ),aD (iS (by rw[K7];exact YX x hx)),?_⟩;rw[K8 (YX x hx)];exact kt _ _ ⟨_,rfl⟩ (aI.refl _)
   intro Y0 Sl aaw;have WU:Y0 Ct=some (.lst ((cs.map fun (x:Nat)=>((gu (zp zs) (ci x):Nat):Int)).map V.int)):=by rw[aaw,dQ];rfl
   refine⟨Ct,_,rfl,a8.of WU,fun z=>?_,fun Mx hMx vS=>⟨_,_,rfl,rfl,_,rfl,?_⟩⟩
   .have:=congrArg List.length z;rw[aT,cl] at this;simp at this
   refine gU (fun c3=>?_) (fun c3=>jO _ Sl);have aax:=Sl _ _ hT8;have WV:=Sl _ _ WT;refine⟨_,rfl,_,rfl,T,Tn,_,_,rfl,rfl,aax,WV,by rw[dZ,dZ];exact aZ (show _<=300 by lia) (by decide),fun N hN=>?_⟩;have sN:=aj (o:=.lst (zr zs++zr ms)) hN;have hNH:H N=none:=(sH8.trans (aO.of Sl)).free (hp8.same Sl).full hN;have F2:cJ n (zp (zs++ms)):=by
    rw[eQ,WS];refine Fi.round cnd YX (by lia) (fun x hx=>?_) (fun t ht=>nin t (by rw[WS];exact ht));have h7:((gu (zp zs) (ci x):Nat):Int)<=Mx:=vS _ (bB.mpr ⟨x,hx,rfl⟩);have h8:Mx<8:=fu c3;lia
   have sA:=Sl.trans sN;have hMA:=sA _ _ YZ;have hSA:=sA _ _ hS8;have hNA:=ae (H:=Y0) (a:=N) (o:=.lst (zr zs++zr ms));have poA:=(po8.append aau).same sA;have hpA:=hp8.same sA;have sHA:aO p H _:=sH8.trans (aO.of sA);have nNM:N≠M:=(am (Sl _ _ YZ) hN).symm;generalize upd Y0 N _=HA at *;refine⟨_,rfl,S,rfl,⟨_,a8.of hSA⟩,eM (K:=K) (xs:=NV cs) (fun j σ He=>(∃a b c e f g h,σ=[some (.ref p),some (.int n),some (.ref N),some (.ref M),a,b,c,e,f,g,h])/\(∀b o,HA b=some o->b≠M->He b=some o)/\He M=some (.lst (NV ((List.range n).map fun (h:Nat)=>gu (zp zs) (ci h)+if h∈cs.take j then 1 else 0)))) ⟨⟨_,_,_,_,_,_,_,rfl⟩,fun b o e _=>e,?_⟩ (fun j σ He _ z=>a8.of (z.2.1 _ _ hSA nSM)) ?_ ?_⟩
   .rw[hMA];simp[sW]
   .rintro j x σ He hx ⟨⟨y4,y5,y6,y7,y8,y9,y10,rfl⟩,sk,Y1⟩;obtain⟨c,hv,rfl⟩:=pW hx;have hc:c<n:=YX c (dz hv);have hj:j<cs.length:=(eR.mp hv).1;have H_:c<((List.range n).map fun (h:Nat)=>gu (zp zs) (ci h)+if h∈cs.take j then 1 else 0).length:=by rw[aT,dk];exact hc
    have cn:c∉cs.take j:=fun z=>by
     obtain⟨k,hk⟩:=xq.mp z;have hkl:k<j:=by have:=(eR.mp hk).1;rw[kK] at this;lia
     rw[By hkl] at hk;obtain⟨k1,e1⟩:=eR.mp hk;obtain⟨k2,e2⟩:=eR.mp hv;have:=kB cnd k1 k2 (e1.trans e2.symm);lia
    refine⟨_,rfl,_,rfl,M,_,_,_,rfl,rfl,a8.of Y1,aD (iS H_),_,_,rfl,rfl,_,rfl,_,rfl,M,_,(c:Int),c,rfl,rfl,Y1,eJ (by rw[be];exact H_),⟨_,_,_,_,_,_,_,rfl⟩,fun b o e m=>by rw[aq m];exact sk b o e m,?_⟩;rw[ae];have eg:((List.range n).map fun (h:Nat)=>gu (zp zs) (ci h)+if h∈cs.take j then 1 else 0).getD c 0=gu (zp zs) (ci c):=by
     rw[cw,cA,f_ hc];show gu (zp zs) (ci c)+(if c∈cs.take j then 1 else 0)=_;rw[ao cn];rfl
    rw[eg];refine congrArg (fun l=>some (HO.lst l)) ((rA (x:=gu (zp zs) (ci c)+1)).trans ?_);congr 1;refine lK fun k=>?_;rw[um,cA,cA];have tk:cs.take (j+1)=cs.take j++[c]:=by rw[gW,hv];rfl
    by_cases hk:c=k
    .subst hk;rw[ap rfl,ap H_,f_ hc];show _=some (gu (zp zs) (ci c)+if c∈cs.take (j+1) then 1 else 0);rw[ap (by rw[tk];simp)]
    .rw[ao hk];by_cases Ux:k<n
     .rw[f_ Ux];show some (gu (zp zs) (ci k)+if k∈cs.take j then 1 else 0)=some (gu (zp zs) (ci k)+if k∈cs.take (j+1) then 1 else 0);have:(k∈cs.take (j+1))↔k∈cs.take j:=by rw[tk,cL,dA];exact⟨fun z=>z.resolve_right (fun e=>hk e.symm),.inl⟩
      simp only[this]
     .rw[f9 (by rw[dk];lia)];rfl
   .rintro σ He ⟨⟨y4,y5,y6,y7,y8,y9,y10,rfl⟩,sk,Y1⟩;have st:∀b o,HA b=some o->b≠M->He b=some o:=sk;refine⟨N,zs++ms,⟨_,_,_,_,_,_,_,rfl⟩,fun b o e m=>sk _ _ (sHA _ _ e m) (am e Uv),?_,hNH,?_,fun z hz=>?_,?_,F2⟩
    .obtain⟨x,y,e,r⟩:=hpA;exact⟨x,y,sk _ _ e L4.symm,r⟩
    .rw[eO];exact sk _ _ hNA nNM
    .have g:=poA z hz;exact sk _ _ g (by rintro e;rw[e,hMA] at g;cases g)
    .rw[Y1,be,i_];refine congrArg (fun l=>some (HO.lst (NV l))) ?_;unfold sW;refine j5 fun h _=>?_;rw[eQ,WS,Fe,A0 cnd]
  .rintro σ Hc ⟨T,zs,⟨x4,x5,x6,x7,x8,x9,Fs,rfl⟩,sc,oH,hT,Ft,po,DK,Fi⟩;exact⟨_,rfl,q T zs Hc sc oH hT Ft po Fi⟩
abbrev Lb:Stmt:=top 49
theorem Lc{bs:bR}{h:Nat}(hh:h<bs.length):(bs.map V.ref)[h]?=some (.ref (bs.getD h 0)):=by
 rw[cA,cw,cz hh];rfl
theorem Sm{cs:bR}{j:Nat}(h:j<cs.length):cs.getD j 0∈cs:=by rw[cw,cz h];exact ie _
def WW(σ:St):Nat:=match σ[5]? with
 |some (some (V.int i))=>i.toNat
 |_=>0
theorem my:aN ["_law_outs_here","_law_found","_law_begin","_law_far_here","_law_waiting","_law_at","_law_other"] ["_law_outs_here"] (aw Lb):=dW (by decide +kernel)
def DO:Sp:=fun vs H Q _=>∃ (L:iP) (o:Addr) (n:Nat) (ts:Ts),vs=[.ref o]/\cJ n ts/\bK H L o n (bX n ts)/\∀ (r:Addr) (H':Hp),aI H H'->H r=none->bK H' (fun b=>H b=none) r n (fun h=>(List.range n).map (far ts h))->Q (.ref r) H'
theorem NS{f:Addr}{fd:eA}(F:iH K "_law_far" "_law_far" Lb f fd)(B:Bl mg):bU P w K mg base bo 1 f fd ["_law_outs_here"] DO:=by
 refine F.ok my (fun vs H Q E h=>?_) (fun fX A outer s H vs Q E hr h=>?_)
 .obtain⟨L,o,n,ts,rfl,_⟩:=h;rfl
 .obtain⟨L,o,n,ts,rfl,fi,O,q⟩:=h;have n1:=fi.n1;have n2:=fi.n2;refine⟨_,(ak (aW (i:=1) my.nd rfl aL (cH ag))
   (ak (du eI rfl (b9 rfl B.range (aa (aJ aV (by rfl) B.len fc (aa (pv 0) ag)) ag)) (aA (i:=2) my.nd rfl aL)
    (ak (aW (i:=3) my.nd rfl aL (a9 ya (cH (aa ii ag)) (aJ aV (by rfl) B.len fc (aa (pv 0) ag))))
    (ak (d8 az (gx (pv 3) (pv 2) dY))
    (ak (aW (i:=4) my.nd rfl aL (cH (aa (pv 2) ag)))
    (ak (aW (i:=5) my.nd rfl aL az)
    (ak (zH eI (aY ni (pv 5) (aJ aV (by rfl) B.len fc (aa (pv 4) ag)) (bp _)) (ak (du eI rfl (bN (aX aG (pv 0) (aX aG (pv 4) (pv 5) (fun _ _=>rfl)) (fun _ _=>rfl))) (aA (i:=6) my.nd rfl aL)
      (av (dS (aY Cr (aX aG (pv 3) (pv 6) (fun _ _=>rfl)) ii (bp _)) (ak (d8 (a9 dM (aX aG (pv 3) (aX aG (pv 4) (pv 5) (fun _ _=>rfl)) (fun _ _=>rfl)) az) (gx (pv 3) (pv 6) dY))
       (av (cG (gQ gy i8 i7 cV (pv 4) (aa (pv 6) ag))))) b8)))
     (av (aW (i:=5) my.nd rfl aL (a9 dM (pv 5) az)))))
    (av (cG (gQ gy i8 i7 cV (pv 1) (aa (pv 3) ag))))))))))
   (av (bh (pv 1))))),?_⟩
  obtain⟨bs,Ie,hbL,PJ,O9⟩:=O;refine⟨by show 0<=sizeLine;decide,fun F hF=>?_⟩;have sF:=aj (o:=.lst []) hF;have el:(((bs.map V.ref).length:Nat):Int)=(n:Int):=by rw[aT,PJ]
  refine⟨_,rfl,o,_,rfl,.inl (a8.of (sF _ _ Ie)),(n:Int),congrArg (fun z=>[V.int z]) el,by lia,by lia,eh (n:=n) (lo:=0) (fun i σ Hc=>(∃a b c d e,σ=[some (.ref o),some (.ref F),a,b,c,d,e])/\aI H Hc/\∃ds:List Addr,Hc F=some (.lst (ds.map V.ref))/\(∀b∈ds,H b=none/\b≠F)/\ds.length=i/\∀j,j<i->Hc (ds.getD j 0)=some (.lst (NV ((List.range n).map (far ts j))))) ⟨⟨_,_,_,_,_,rfl⟩,sF,[],ae,fun b hb=>(nomatch hb),rfl,fun j hj=>absurd hj (nX _)⟩ ?_ ?_⟩
  rotate_left
  .rintro σ Hc ⟨⟨a,b,c,d,e,rfl⟩,sc,ds,P3,LV,dl,Y2⟩;exact⟨_,rfl,q F Hc sc hF ⟨ds,P3,fun b hb=>(LV b hb).1,dl,Y2⟩⟩
  .rintro b σ Hc hb ⟨⟨_,_,_,_,_,rfl⟩,sc,ds,P3,LV,dl,Y2⟩;rw[iF];refine⟨by show 1<=sizeLine;decide,fun L1 tX=>⟨_,rfl,o,_,rfl,.inl (a8.of (aj tX _ _ (sc _ _ Ie))),L1,_,_,rfl,rfl,ae,by rw[el];lia,by rw[el];lia,by rw[gE,lN,aT,PJ];exact aZ (show 1*n<=32 by lia) (by decide),fun D hD=>?_⟩⟩;rw[gE,mr,aT,PJ];have s1:=sc.trans (aj (o:=.lst [.cI]) tX);have hFD:F≠D:=am ((aj (o:=.lst [.cI]) tX) _ _ P3) hD;have fD:=s1.free hD;have dsD:∀c∈ds,c≠D:=fun c hc=>by
    rintro rfl;exact absurd hD (by
     obtain⟨j,hj,e⟩:=ug hc;have:(upd Hc L1 (.lst [.cI])) c=some (.lst (NV ((List.range n).map (far ts j)))):=(aj tX) _ _ (by have:=Y2 j (by lia);rw[cw,cz hj,qy,e] at this;exact this);rw[this];exact fun z=>by cases z)
   have Sn:=(aj (o:=.lst [.cI]) tX) _ _ P3;have WX:∀j,j<b->(upd Hc L1 (.lst [.cI])) (ds.getD j 0)=some (.lst (NV ((List.range n).map (far ts j)))):=fun j hj=>(aj tX) _ _ (Y2 j hj);generalize upd Hc L1 _=H1 at *;refine⟨_,rfl,_,rfl,D,_,b,b,rfl,rfl,ae,by rw[i9];exact eJ hb,?_⟩;rw[mK,vv hb];refine⟨_,rfl,by show 1<=sizeLine;decide,fun R hR=>?_⟩;have Ij:D≠R:=am (H:=upd H1 D (.lst (iA n [b] (fun _=>0)))) ae hR;have Nq:H1 R=none:=by rw[aq Ij.symm] at hR;exact hR
   have fR:=s1.free Nq;have hFR:F≠R:=am Sn Nq;have dsR:∀c∈ds,c≠R:=fun c hc=>by
    rintro rfl;obtain⟨j,hj,e⟩:=ug hc;have:=WX j (by lia);rw[cw,cz hj,qy,e,Nq] at this;cases this
   have sm0:aI H1 (upd (upd H1 D (.lst (iA n [b] (fun _=>0)))) R (.lst [.int (b:Int)])):=bj (aj hD) Nq;have aay:=s1 _ _ Ie;have WY:∀u,u<n->H1 (bs.getD u 0)=some (.lst (NV (bX n ts u))):=fun u hu=>s1 _ _ (O9 u hu);refine zL (fun σ H2=>∃ (i:Nat) (Rs:aQ) (f:t8),i<=Rs.length/\Bm n ts b i Rs f/\(∃v,σ=[some (.ref o),some (.ref F),some (.int (b:Int)),some (.ref D),some (.ref R),some (.int (i:Int)),v])/\aI H1 H2/\H2 D=some (.lst (iA n Rs f))/\H2 R=some (.lst (NV Rs)))
    (fun σ _=>n-WW σ) ⟨0,[b],fun _=>0,cp _,Bm.start hb,⟨_,rfl⟩,sm0,?_,ae⟩ ?_ ?_
   .rw[aq Ij,ae]
   .rintro σ H2 ⟨i,Rs,f,hi,Bf,⟨v',rfl⟩,sm,jy,v9⟩;have hRn:Rs.length<=n:=f8 Bf.nd Bf.lt;refine⟨_,rfl,_,rfl,R,_,rfl,.inl (a8.of v9),_,_,rfl,rfl,_,rfl,?_⟩;rw[be];by_cases wP:i<Rs.length
    .rw[show decide ((i:Int)<((Rs.length:Nat):Int))=true by simp;lia];refine vT ?_;have hu:Rs[i]?=some Rs[i]:=cz wP;generalize Rs[i]=u at hu;have AN:u<n:=Bf.lt u (dz hu);have huR:(NV Rs)[i]?=some (.int (u:Int)):=by rw[cA,hu];rfl
     have hb1:=Lc (bs:=bs) (h:=u) (by rw[PJ];exact AN);have hb2:=sm _ _ (WY _ AN);refine⟨_,rfl,_,rfl,_,rfl,R,_,_,_,rfl,rfl,a8.of v9,aD huR,o,_,_,_,rfl,rfl,a8.of (sm _ _ aay),aD hb1,_,rfl,⟨_,a8.of hb2⟩,?_⟩;refine eM (K:=K) (xs:=NV (bX n ts u)) (fun j σ H3=>∃ (iY:aQ) (f':t8),Bm n ts b i iY f'/\iY[i]?=some u/\(∀v∈(bX n ts u).take j,v∈iY/\f' v<=f' u+1)/\
      (∃c,σ=[some (.ref o),some (.ref F),some (.int (b:Int)),some (.ref D),some (.ref R),some (.int (i:Int)),c])/\aI H1 H3/\H3 D=some (.lst (iA n iY f'))/\H3 R=some (.lst (NV iY)))
      ⟨Rs,f,Bf,hu,fun v hv=>by simp at hv,⟨_,rfl⟩,sm,jy,v9⟩ (fun j σ H3 _ ⟨_,_,_,_,_,_,Hq,_⟩=>a8.of (Hq _ _ (WY _ AN))) ?_ ?_
     .rintro j x σ H3 hx ⟨iY,f',yB,sw,dn,⟨b',rfl⟩,Hq,pU,Bk⟩;obtain⟨v,hv,rfl⟩:=pW hx;have RB:v∈bX n ts u:=dz hv;have Kv:v<n:=tR fi AN RB;have tuv:T ts u v:=(jh fi AN).mp RB;have tk:(bX n ts u).take (j+1)=(bX n ts u).take j++[v]:=by rw[gW,hv];rfl
      have Kw:u∈iY:=dz sw;have Kx:iY.length<=n:=f8 yB.nd yB.lt;refine⟨_,rfl,_,rfl,D,_,_,_,rfl,rfl,a8.of pU,aD (jj Kv),rfl,_,rfl,?_⟩;by_cases Dx:v∈iY
      .rw[ap Dx];refine jS ⟨iY,f',yB,sw,fun x hx=>?_,⟨_,rfl⟩,Hq,pU,Bk⟩;rw[tk] at hx;rcases cL.mp hx with z|z
       .exact dn x z
       .simp at z;subst z;exact⟨Dx,yB.bd u sw _ Dx⟩
      .rw[ao Dx];refine vT ?_;have L3:(iA n iY f')[u]?=some (.int ((f' u:Nat):Int)):=by rw[jj AN,ap Kw]
       refine⟨_,rfl,_,rfl,_,rfl,R,_,_,_,rfl,rfl,a8.of Bk,aD (show (NV iY)[i]?=some (.int (u:Int)) by rw[cA,sw];rfl),D,_,_,_,rfl,rfl,a8.of pU,aD L3,_,_,rfl,rfl,_,rfl,_,rfl,D,_,_,_,rfl,rfl,pU,by rw[kD];exact eJ Kv,?_⟩;have e1:(iA n iY f').set v (.int (((f' u:Nat):Int)+1))=iA n (iY++[v]) (put f' v (f' u+1)):=by
        rw[show ((f' u:Nat):Int)+1=((f' u+1:Nat):Int) by lia,AM Kv]
       rw[e1];have tQ:(upd H3 D (.lst (iA n (iY++[v]) (put f' v (f' u+1))))) R=some (.lst (NV iY)):=by rw[aq Ij.symm];exact Bk
       refine⟨_,rfl,.inl ⟨rfl,_,a8.of tQ⟩,_,rfl,R,_,_,rfl,rfl,tQ,by rw[be];exact bv (show iY.length<33 by lia) (by decide),?_⟩;have vJ:i<iY.length:=(eR.mp sw).1;have nuv:u≠v:=fun z=>Dx (z ▸ Kw);refine⟨iY++[v],put f' v (f' u+1),yB.add sw Kv tuv Dx,by rw[j3 vJ];exact sw,fun x hx=>?_,⟨_,rfl⟩,bj (bj Hq hD) Nq,?_,?_⟩
       .rw[hW nuv];rw[tk] at hx;rcases cL.mp hx with z|z
        .obtain⟨q1,q2⟩:=dn x z;exact⟨gC _ q1,by rw[hW (fun (z:x=v)=>Dx (z ▸ q1))];exact q2⟩
        .simp at z;subst z;exact⟨by simp,by rw[ky];exact aP _⟩
       .rw[aq Ij,ae]
       .rw[ae,jz]
     .rintro σ H3 ⟨iY,f',yB,sw,dn,⟨b',rfl⟩,Hq,pU,Bk⟩;rw[be,i_] at dn;have vJ:i<iY.length:=(eR.mp sw).1;have Kx:iY.length<=n:=f8 yB.nd yB.lt;refine⟨_,rfl,_,_,rfl,rfl,⟨⟨i+1,iY,f',vJ,yB.next sw (fun v t=>dn v ((jh fi AN).mpr t)),⟨_,rfl⟩,Hq,pU,Bk⟩,?_⟩⟩;show n-((i:Int)+1).toNat<n-(i:Int).toNat;lia
    .rw[show decide ((i:Int)<((Rs.length:Nat):Int))=false by rw[Bz];lia];have e:iA n Rs f=NV ((List.range n).map (far ts b)):=by
      unfold iA NV;rw[dQ];refine j5 fun x hx=>?_;obtain⟨q1,q2⟩:=Bf.done fi (by lia) (bY.mp hx);rw[ap q1,q2];rfl
     rw[e] at jy;have hF2:=sm _ _ Sn;refine jS ⟨_,rfl,.inl ⟨rfl,_,a8.of hF2⟩,_,rfl,F,_,_,rfl,rfl,hF2,by rw[aT,dl];exact bv (show b<33 by lia) (by decide),?_⟩;refine⟨⟨_,_,_,_,_,rfl⟩,fun c ob ec=>?_,ds++[D],by rw[ae,dt];rfl,fun c hc=>?_,by rw[dh,dl];rfl,fun j hj=>?_⟩
     .rw[aq (am ec hF)];exact sm _ _ (s1 _ _ ec)
     .rcases cL.mp hc with z|z
      .exact LV c z
      .rw[dA.mp z];exact⟨fD,hFD.symm⟩
     .by_cases c:j<b
      .have m:=Sm (cs:=ds) (j:=j) (by lia);have e:(ds++[D]).getD j 0=ds.getD j 0:=by rw[cw,cw,j3 (by lia)]
       rw[e,aq (LV _ m).2];exact sm _ _ (WX j c)
      .obtain rfl:j=b:=by lia
       have e:(ds++[D]).getD j 0=D:=by rw[cw,rJ (by lia),dl,uG];rfl
       rw[e,aq hFD.symm];exact jy
   .rintro σ H2 Q1 Q2 imp ⟨v,e1,v2,e2,p,ys,e3,e4,i1,i2,e5,e6,kk,e7,q⟩;exact⟨v,e1,v2,e2,p,ys,e3,e4,i1,i2,e5,e6,kk,e7,imp _ _ q⟩
end
end rY
namespace L2
open PySem PySem.Spec PyProof.Rows
theorem HG:gf X (.type "int") (fun xs H Q=>∃b,xs=[.bl b]/\Q (.int (if b then 1 else 0)) H):=by
 intro af s σ H xs us Q I r h;obtain⟨b,rfl,q⟩:=h;obtain⟨u1,rfl,r1⟩:=r.one;obtain rfl:u1=Value.bool b:=r1;exact call_int_bool ⟨.int _,H,I.tok _,⟨_,rfl⟩,q⟩
end L2
namespace rY
open PySem L2 lj
abbrev Sq:Stmt:=top 47
theorem p6:(["_law_one","_law_other"]:bQ).Nodup:=by decide +kernel
def Ld(p:Addr)(H:Hp)(Q:V->Hp->Prop):Prop:=∀ (t r:Addr) (n:Nat) (zs:Zs) (H':Hp),aO p H H'->bn H' p->H t=none->H' t=some (.tup [.int n,.ref r])->H r=none->H' r=some (.lst (zr zs))->PO H' zs->cJ n (zp zs)->Q (.ref t) H'
def Le:Sp:=fun vs H Q _=>∃ (p:Addr),vs=[.ref p]/\bn H p/\Ld p H Q
theorem Ld.go(k:Ld p H Q)(s:aO p H H2)(hp:bn H2 p)(hr:H r=none)(Bp:H2 r=some (.lst (zr zs)))(po:PO H2 zs)(F:cJ n (zp zs))(ht:H2 t=none):Q (.ref t) (upd H2 t (.tup [.int n,.ref r])):=
 k t r n zs _ (s.trans (aO.of (aj ht))) (hp.same (aj ht)) (s.free hp.full ht) ae hr (aj ht _ _ Bp) (po.putN ht) F
section
variable {P:bL} {w:World} {K:a_} {mg:cr} {base:Heap}
theorem nC:aN ["_law_pot_here","_law_way","_law_many","_law_pairs"] ["_law_pot_here"] (aw Sq):=dW (by decide +kernel)
theorem Sr(F:iH K "_law_net" "_law_net" Sq f fd)(B:Bl mg)(D:d9 P w K mg base bo 1 "_law_take" ["_law_pot_here","_law_many"] io)(RG:d9 P w K mg base bo 1 "_law_ring" ["_law_many"] yI)(BX:d9 P w K mg base bo 2 "_law_box" ["_law_pot_here"] w_)(WO:d9 P w K mg base bo 2 "_law_words" ["_law_pot_here"] w_)(SP:d9 P w K mg base bo 2 "_law_some_pairs" ["_law_pot_here","_law_many","_law_more"] DJ)(OW:d9 P w K mg base bo 2 "_law_one_way" ["_law_pot_here","_law_many"] K_)(RN:d9 P w K mg base bo 2 "_law_renamed" ["_law_pot_here","_law_many","_law_ties"] Fq):bU P w K mg base bo 3 f fd ["_law_pot_here"] Le:=by
 refine F.ok nC (fun vs H Q E h=>?_) (fun fX A outer s H vs Q E h2 h=>?_)
 .obtain⟨p,rfl,_⟩:=h;rfl
 .obtain⟨p,rfl,hp,q⟩:=h;have h1:df 1 _:=h2.mono (by decide);refine'⟨_,(ak (aW (i:=1) nC.nd rfl aL (aH D h1 aM (aa (pv 0) (aa az ag))))
   (ak (aW (i:=2) nC.nd rfl aL (a9 dM az (aH D h1 aM (aa (pv 0) (aa (aX aG (cH (aa az (aa az (aa az ag)))) (aH D h1 aM (aa (pv 0) (aa az ag))) (fun _ _=>rfl)) ag)))))
   (ak (dS (aY iQ (pv 1) az (bp _)) (av (bh (bT (aa (pv 2) (aa (aH RN h2 aM (aa (pv 0) (aa (pv 2) (aa (aH OW h2 aM (aa (pv 0) (aa (pv 2) ag))) ag)))) ag))))) b8)
   (ak (dS (aY iQ (pv 1) az (bp _)) (av (aW (i:=3) nC.nd rfl aL (aH RG h1 aM (aa (pv 2) ag)))) (av (dS (aY iQ (pv 1) az (bp _)) (av (d8 (aH BX h2 aM (aa (pv 0) ag)) (dX (n:=2) rfl (aE (aA (i:=2) nC.nd rfl aL) (aE (aA (i:=3) nC.nd rfl aL) cM))))) (av (dS (aY iQ (pv 1) az (bp _)) (av (d8 (aH WO h2 aM (aa (pv 0) ag)) (dX (n:=2) rfl (aE (aA (i:=2) nC.nd rfl aL) (aE (aA (i:=3) nC.nd rfl aL) cM))))) (ak (aW (i:=2) nC.nd rfl aL (a9 k6 (pv 2) (cU HG (by rfl) B.int PyProof.Rows.boot_int (aa (pe iQ (pv 1) az (bp _)) ag))))
      (av (aW (i:=3) nC.nd rfl aL (aH SP h2 aM (aa (pv 0) (aa (pv 2) (aa (aX aG (cH (aa az (aa az (aa (pv 2) ag)))) (a9 k6 (pv 1) az) (fun _ _=>rfl)) ag))))))))))))
   (av (bh (bT (aa (pv 2) (aa (aH RN h2 aM (aa (pv 0) (aa (pv 2) (aa (a9 uU (pv 3) ?c1) ag)))) ag))))))))),?_⟩
  case c1=>
   refine' cQ (g:=(uN K 2 (gn (bH 0) (gn (bH 1) uM)))) (te:=(sn (bJ (bb 1) (bJ (bb 0) h_)))) (NB:=["_law_one","_law_other"]) (src:=[none,none]) (bz (by kernel_rfl)) rfl (bN (pv 3)) ?g ?t ?e;case g=>exact fun cl C s₃ H₃ fp=>(dX (n:=2) rfl (aE (aA (i:=0) p6 rfl aL cW) (aE (aA (i:=1) p6 rfl aL cW) cM)))
   case t=>exact fun cl C s₃ H₃ fp=>dC
   case e=>exact fun cl C s₃ H₃ fp=>(bT (aa (pv 1) (aa (pv 0) ag)))
  refine⟨_,rfl,p,7,rfl,by decide,by decide,hp,fun wy H1 hw s1 mW=>?_⟩;refine⟨_,rfl,by show 3<=sizeLine;decide,fun l hl=>⟨_,rfl,p,3,rfl,by decide,by decide,mW.same (aj hl),fun d H2 hd s2 vK=>?_⟩⟩;have gl:=s2 _ _ (ae (H:=H1) (a:=l) (o:=.lst [.int 4,.int 10,.int 30])) (mW.ne hl);obtain⟨m,hm,m1,m2⟩:∃m:Nat,zS [V.int 4,.int 10,.int 30] (d:Int)=some (.int m)/\4<=m/\m<=30:=by
   rcases(show d=0\/d=1\/d=2 by lia) with rfl|rfl|rfl
   .exact⟨4,aD (j:=0) rfl,by decide,by decide⟩
   .exact⟨10,aD (j:=1) rfl,by decide,by decide⟩
   .exact⟨30,aD (j:=2) rfl,by decide,by decide⟩
  refine⟨l,_,_,_,rfl,rfl,a8.of gl,hm,p,m,rfl,by lia,by lia,vK,fun d2 H3 RW s3 nB=>⟨_,_,rfl,rfl,?_⟩⟩;have sH:aO p H H3:=((s1.trans (aO.of (aj hl))).trans s2).trans s3;obtain⟨n,hn⟩:∃n:Nat,n=3+d2:=⟨_,rfl⟩
  have en:(3:Int)+(d2:Int)=((n:Nat):Int):=by lia
  change bH 2 (V.int ((3:Int)+(d2:Int))) _ _ _;rw[en];have n1:3<=n:=by lia
  have n2:n<=32:=by lia
  clear gl hm s1 s2 s3 mW vK hl hd en;have d_:∀ (m:Nat) (r:Addr) (zs:Zs) (H4:Hp),aO p H H4->bn H4 p->H r=none->H4 r=some (.lst (zr zs))->PO H4 zs->cJ m (et (zp zs))->U0 (sn (bJ (bb 2) (bJ (rN Fq [] E0 (bJ (bb 0) (bJ (bb 2) (bJ (jR Vn (bb 3) (Jm [none,none] (O2 K (bb 3)) (uN K 2 (gn (bH 0) (gn (bH 1) uM))) QH (sn (bJ (bb 1) (bJ (bb 0) h_))))) h_)))) h_))) { nx:=fun _ H'=>Q .cI H',rt:=Q } [some (.ref p),some (.int (wy:Nat)),some (.int (m:Nat)),some (.ref r)] H4:=fun m r zs H4 sH r9 hr AO po Fi=>by
   have zl:zs.length<=256:=by have:=Fi.len;rw[tT,b_] at this;lia
   refine⟨_,rfl,_,rfl,_,rfl,_,rfl,_,rfl,r,rfl,⟨_,a8.of AO⟩,fun D1 DB=>?_⟩;refine vt v7 (fun σ=>∃a b,σ=[a,b]) AO po DB (by lia) ⟨_,_,rfl⟩ ?_ ?_
   .rintro z σ H5 R Kf hz ⟨a,b,rfl⟩ _ ha kt;exact⟨z.1,_,rfl,cu.of ha,rfl,_,_,rfl,_,_,rfl,rfl,_,rfl,_,rfl,by show 2<=sizeLine;decide,fun t ht=>kt _ _ ⟨_,_,rfl⟩ ht⟩
   intro zo H5 s5 L9 Ik e5 _;refine⟨r,D1,_,_,rfl,rfl,s5 _ _ AO,L9,by rw[dZ,dZ,<-b_,<-b_,e5,aT,b_];exact aZ (show _<=512 by lia) (by decide),fun L hL=>?_⟩;have sL:=aj (o:=.lst (zr zs++zr zo)) hL;have F2:cJ m (zp (zs++zo)):=by rw[eQ,e5];exact Fi.perm ji.symm
   refine⟨p,L,m,zs++zo,rfl,(r9.same s5).same sL,by rw[ae,eO],((po.same s5).append Ik).same sL,(r9.same s5).ne hL,F2,fun r3 PM H6 s6 zm RQ Ss PZ F6=>⟨by show 2<=sizeLine;decide,fun t ht=>?_⟩⟩;have sA:aO p H H6:=(sH.trans (aO.of (s5.trans sL))).trans s6;exact q.go sA zm ((sH.trans (aO.of s5)).free (r9.same s5).full (sL.free RQ)) Ss PZ F6 ht
  refine⟨_,rfl,rfl,_,rfl,gU (fun c=>?_) (fun c6=>?_)⟩
  .refine⟨_,rfl,_,rfl,_,rfl,_,rfl,_,rfl,p,n,rfl,by lia,n2,nB,fun r zs H4 s4 r9 hr AO po F4=>?_⟩;refine⟨p,r,n,zs,rfl,r9,AO,po,nB.ne hr,F4,fun r3 PM H6 s6 zm RQ Ss PZ F6=>⟨by show 2<=sizeLine;decide,fun t ht=>?_⟩⟩;exact q.go ((sH.trans s4).trans s6) zm ((sH.trans s4).free r9.full RQ) Ss PZ F6 ht
  unfold O1;dsimp only;refine wX (fun σ Hc=>∃ (m:Nat) (r:Addr) (zs:Zs),σ=[some (.ref p),some (.int (wy:Nat)),some (.int (m:Nat)),some (.ref r)]/\aO p H Hc/\bn Hc p/\H r=none/\Hc r=some (.lst (zr zs))/\PO Hc zs/\cJ m (et (zp zs))) ?_ ?_
  .rintro σ Hc ⟨m,r,zs,rfl,a1,a2,a3,a4,a5,a6⟩;exact d_ m r zs Hc a1 a2 a3 a4 a5 a6
  clear d_;intro N hN;have fr:∀ {a:Addr},H3 a=none->H a=none:=fun h=>sH.free nB.full h;refine⟨_,rfl,rfl,_,rfl,gU (fun c=>?_) (fun c0=>?_)⟩
  .exact⟨_,rfl,n,rfl,by lia,n2,fun r zs H4 s4 hr AO po ez=>hN _ _ ⟨n,r,zs,rfl,sH.trans (aO.of s4),nB.same s4,fr hr,AO,po,by rw[ez];exact Hv n1 n2⟩⟩
  refine⟨_,rfl,rfl,_,rfl,gU (fun c=>?_) (fun c1=>?_)⟩
  .exact⟨_,rfl,p,rfl,nB,fun t r m zs H4 s4 r9 ht hr ht4 AO po F4=>⟨t,_,rfl,cu.of ht4,rfl,_,_,rfl,_,_,rfl,rfl,hN _ _ ⟨m,r,zs,rfl,sH.trans s4,r9,fr hr,AO,po,F4⟩⟩⟩
  refine⟨_,rfl,rfl,_,rfl,gU (fun c=>?_) (fun c2=>?_)⟩
  .exact⟨_,rfl,p,rfl,nB,fun t r m zs H4 s4 r9 ht hr ht4 AO po F4=>⟨t,_,rfl,cu.of ht4,rfl,_,_,rfl,_,_,rfl,rfl,hN _ _ ⟨m,r,zs,rfl,sH.trans s4,r9,fr hr,AO,po,F4⟩⟩⟩
  have hw3:3<=wy/\wy<=5:=by
   have a0:wy≠0:=fun z=>c0 (by rw[z];rfl);have a1:wy≠1:=fun z=>c1 (by rw[z];rfl);have a2:wy≠2:=fun z=>c2 (by rw[z];rfl);have a6:wy≠6:=fun z=>c6 (by rw[z];rfl);lia
  obtain⟨k,hk,k1,k2⟩:∃k:Nat,(n:Int)-(if decide (V.int (wy:Int)=V.int 3)=true then 1 else 0)=(k:Int)/\2<=k/\k<=32:=by
   by_cases e:wy=3
   .exact⟨n-1,by rw[ap (by rw[e];rfl)];lia,by lia,by lia⟩
   .exact⟨n,by rw[ao (by simp;lia)];lia,by lia,by lia⟩
  refine⟨_,rfl,_,rfl,rfl,_,rfl,_,_,rfl,rfl,?_⟩;change bH 2 (V.int ((n:Int)-(if decide (V.int (wy:Int)=V.int 3)=true then 1 else 0))) _ _ _;rw[hk];refine⟨_,rfl,_,rfl,_,rfl,by show 3<=sizeLine;decide,fun l hl=>⟨_,rfl,_,_,rfl,rfl,?_⟩⟩;have sl:=aj (o:=.lst [.int 0,.int 3,.int (k:Int)]) hl;obtain⟨g,hg,g1⟩:∃g:Nat,zS [V.int 0,.int 3,.int (k:Int)] ((wy:Int)-3)=some (.int g)/\g<=64:=by
   rcases(show wy=3\/wy=4\/wy=5 by lia) with e|e|e <;> rw[e]
   .exact⟨0,aD (j:=0) rfl,by decide⟩
   .exact⟨3,aD (j:=1) rfl,by decide⟩
   .exact⟨k,aD (j:=2) rfl,by lia⟩
  refine⟨l,_,_,_,rfl,rfl,a8.of ae,hg,p,k,g,rfl,k1,k2,g1,nB.same sl,fun r zs H4 s4 r9 hr AO po F4=>?_⟩;exact hN _ _ ⟨k,r,zs,rfl,(sH.trans (aO.of sl)).trans s4,r9,fr (sl.free hr),AO,po,F4⟩
abbrev DP:Stmt:=top 48
theorem sX:(["_law_k","_law_house","_law_many"]:bQ).Nodup:=by decide +kernel
theorem mz:(["_law_other","_law_house","_law_there"]:bQ).Nodup:=by decide +kernel
theorem NU(G:Nat->V)(c_:rM)(hD:H0 D=none)(hn:n<=1000)(h0:c_ σB)(hs:∀x σ H (R:j9) (Kf:ir),x<n->c_ σ->aI H0 H->(∀σ2 H2,c_ σ2->aI H H2->R (G x) σ2 H2)->g (.int (lo+(x:Nat))) σ H fun σ2 H2=>tt σ2 H2 fun b H3=>if b=true then te σ2 H3 fun v H4=>R v σ2 H4 else Kf σ2 H3)(hd:∀H,aI H0 H->H D=some (.lst ((List.range n).map G))->d_ H):ix (HV lo n) g tt te D d_ σB (upd H0 D (.lst [])):=by
 refine fJ (fun i ys σ H=>c_ σ/\aI H0 H/\H D=some (.lst ys)/\ys=(List.range i).map G) ⟨h0,aj hD,ae,rfl⟩ ?_ ?_
 .rintro i ys σ H Kt Kf hi ⟨sh,sm,kC,rfl⟩ kt kf;refine hs i σ H Kt Kf hi sh sm (fun σ2 H2 yy s2=>?_);refine kt _ _ _ (s2 _ _ kC) ?_ ⟨yy,bj (sm.trans s2) hD,ae,by rw[lu,dt];rfl⟩;rw[aT,dk];exact bv (show i<1000 by lia) (by decide)
 .rintro ys σ H ⟨_,sm,kC,rfl⟩;exact hd H sm kC
theorem yM(ms:List β)(e:β->V)(c:β->Bool)(c_:rM)(ha:H0 a=some (.lst (ms.map e)))(hD:H0 D=none)(hn:ms.length<=1000)(h0:c_ σB)(hs:∀m σ H (Kt:j9) (Kf:ir),m∈ms->c_ σ->aI H0 H->(∀σ2 H2,c_ σ2->aI H H2->c m=true->Kt (e m) σ2 H2)->(∀σ2 H2,c_ σ2->aI H H2->c m=false->Kf σ2 H2)->
   g (e m) σ H fun σ2 H2=>tt σ2 H2 fun b H3=>if b=true then te σ2 H3 fun v H4=>Kt v σ2 H4 else Kf σ2 H3)(hd:∀H,aI H0 H->H D=some (.lst ((ms.filter c).map e))->d_ H):ix (IU K a) g tt te D d_ σB (upd H0 D (.lst [])):=by
 refine fZ (xs:=ms.map e) (fun i ys σ H=>c_ σ/\aI H0 H/\H D=some (.lst ys)/\ys=((ms.take i).filter c).map e) ⟨h0,aj hD,ae,rfl⟩ (fun i ys σ H _ z=>a8.of (z.2.1 _ _ ha)) ?_ ?_
 .rintro i x ys σ H Kt Kf hx ⟨sh,sm,kC,rfl⟩ kt kf;rw[cA] at hx;cases hz:ms[i]? with
  |none=>rw[hz] at hx;cases hx
  |some m=>
   rw[hz] at hx;obtain rfl:e m=x:=cB hx;have tk:ms.take (i+1)=ms.take i++[m]:=by rw[gW,hz];rfl
   refine hs m σ H Kt Kf (dz hz) sh sm (fun σ2 H2 yy s2 hc=>?_) (fun σ2 H2 yy s2 hc=>?_)
   .refine kt _ _ _ (s2 _ _ kC) ?_ ⟨yy,bj (sm.trans s2) hD,ae,by rw[tk,ic];simp[eU,hc]⟩;rw[aT];exact eK (aZ (iK _ _) (BJ _ _)) (eK hn (by decide))
   .exact kf _ _ ⟨yy,sm.trans s2,s2 _ _ kC,by rw[tk,ic];simp[eU,hc]⟩
 .rintro ys σ H ⟨_,sm,kC,rfl⟩;rw[aT,i_] at kC;exact hd H sm kC
def DD(u:lF):List iV:=[.inl u.1,.inl u.2]
theorem A2:∀ {ps:List TK} {m:List (List iV×V)},(iW (eF m ps) k).isSome=true↔(iW m k).isSome=true\/k∈ps.map fun p:TK=>p.1
 |[],m=>by unfold eF;simp
 |p::ps,m=>by
  have ih:=A2 (k:=k) (ps:=ps) (m:=u9 m p.1 p.2.2);rw[show eF m (p::ps)=eF (u9 m p.1 p.2.2) ps from rfl,ih,JE];by_cases c:k=p.1
  .rw[ap c];simp[c]
  .rw[ao c,gJ];simp[c]
theorem NW{u:lF}{ts:Ts}:DD u∈ts.map DD↔u∈ts:=by
 constructor
 .intro h;obtain⟨v,hv,e⟩:=bB.mp h;unfold DD at e;injection e with e1 e2;injection e2 with e2 _;rw[show u=v from iG (Sum.inl.inj e1).symm (Sum.inl.inj e2).symm];exact hv
 .exact fun h=>bB.mpr ⟨u,h,rfl⟩
theorem NX(F:cJ n ts)(hh:h<n):((List.range (n-1)).map fun s=>(h+(s+1)) % n).filter (fun o=>decide ((ci h,ci o)∈ts))=bX n ts h:=by
 unfold bX;obtain⟨m,rfl⟩:∃m,n=m+1:=⟨n-1,by lia⟩
 have e0:(h+0) % (m+1)=h:=jE hh;rw[qm,gJ,eU,dQ,e0];have nt:¬ T ts h h:=fun z=>F.ne _ z rfl;rw[ao (fun z=>nt (fu z)),show m+1-1=m from rfl];exact BZ fun o _=>uv.mpr Iff.rfl
theorem Su:(["_law_tie"]:bQ).Nodup:=by decide +kernel
theorem p7:aN ["_law_many","_law_ties","_law_there","_law_found","_law_house","_law_around"] ["_law_many","_law_ties"] (aw DP):=dW (by decide +kernel)
def yN:Sp:=fun vs H Q _=>∃ (n:Nat) (l:Addr) (zs:Zs),vs=[.int n,.ref l]/\H l=some (.lst (zr zs))/\PO H zs/\cJ n (zp zs)/\∀ (r:Addr) (H':Hp),aI H H'->H r=none->bK H' (fun a=>H a=none) r n (bX n (zp zs))->Q (.ref r) H'
theorem Lf{f:Addr}{fd:eA}(F:iH K "_law_outs" "_law_outs" DP f fd)(B:Bl mg)(B2:Uu mg):bU P w K mg base bo 1 f fd ["_law_many","_law_ties"] yN:=by
 refine F.ok p7 (fun vs H Q E h=>?_) (fun fX A outer s H vs Q E hr h=>?_)
 .obtain⟨n,l,zs,rfl,_⟩:=h;rfl
 .obtain⟨n,l,zs,rfl,hl,po,Fi,q⟩:=h;have n1:=Fi.n1;have n2:=Fi.n2;have zl:zs.length<=256:=by have:=Fi.len;rwa [b_] at this
  refine'⟨_,(ak (aW (i:=2) p7.nd rfl cW (cU (DE rfl hr.u) (by rfl) B2.dict PyProof.Rows.boot_dict (aa ?c1 ag)))
   (ak (aW (i:=3) p7.nd rfl aL (cH ag))
   (ak (du eI rfl (b9 rfl B.range (aa (pv 0) ag)) (aA (i:=4) p7.nd rfl cW)
    (ak (fE (i:=5) (g:=(bH 0)) (te:=(jR (rI (fun _ j=>0<j) fun i j=>.int (i % j)) (jR (zM fun i j=>.int (i+j)) (bb 1) (bb 0)) (bb 2))) (NB:=["_law_k","_law_house","_law_many"]) (src:=[none,some 4,some 0]) (bz (by kernel_rfl)) rfl (qR rfl B.range (aa az (aa (pv 0) ag))) ?g2 ?t2 ?e2 p7.nd rfl rfl rfl)
    (av (cG (gQ gy i8 i7 cV (pv 3) (aa ?c3 ag))))))
   (av (bh (pv 3)))))),?_⟩
  case c1=>
   refine' cQ (g:=(bH 0)) (te:=(sn (bJ (bb 0) (bJ (tC (.bl true)) h_)))) (NB:=["_law_tie"]) (src:=[none]) (bz (by kernel_rfl)) rfl (bN (pv 1)) ?g ?t ?e;case g=>exact fun cl C s₃ H₃ fp=>(aA (i:=0) Su rfl aL cW)
   case t=>exact fun cl C s₃ H₃ fp=>dC
   case e=>exact fun cl C s₃ H₃ fp=>(bT (aa (pv 0) (aa Ek ag)))
  case g2=>exact fun cl C s₃ H₃ fp=>(aA (i:=0) sX rfl aL cW)
  case t2=>exact fun cl C s₃ H₃ fp=>dC
  case e2=>exact fun cl C s₃ H₃ fp=>(a9 jd (a9 dM (pv 1) (pv 0)) (pv 2))
  case c3=>
   refine' cQ (g:=(bH 0)) (tt:=(tB (VX (sn (bJ (bb 1) (bJ (bb 0) h_))) (bb 2)))) (te:=(bb 0)) (NB:=["_law_other","_law_house","_law_there"]) (src:=[none,some 4,some 2]) (bz (by kernel_rfl)) rfl (bN (pv 5)) ?g ?t ?e;case g=>exact fun cl C s₃ H₃ fp=>(aA (i:=0) mz rfl aL cW)
   case t=>exact fun cl C s₃ H₃ fp=>g8 (Ql (QW hr.u (bT (aa (pv 1) (aa (pv 0) ag))) (pv 2)))
   case e=>exact fun cl C s₃ H₃ fp=>(pv 0)
  refine⟨_,rfl,l,rfl,⟨_,a8.of hl⟩,fun D1 DB=>?_⟩;refine fZ (xs:=zr zs) (fun i ys σ H2=>(∃x,σ=[x])/\aI H H2/\H2 D1=some (.lst ys)/\∃as:List Addr,ys=as.map V.ref/\as.length=i/\∀j,j<i->∃z,zs[j]?=some z/\H2 (as.getD j 0)=some (.tup [.ref z.1,.bl true])) ⟨⟨_,rfl⟩,aj DB,ae,[],rfl,rfl,fun j hj=>absurd hj (nX _)⟩ (fun i ys σ H2 _ z=>a8.of (z.2.1 _ _ hl)) ?_ ?_
  .rintro i x ys σ H2 Kt Kf hx ⟨⟨x',rfl⟩,sm,kC,as,rfl,al,ah⟩ kt kf;obtain⟨z,hz,rfl⟩:=vq hx;have hi:i<zs.length:=(eR.mp hz).1;refine⟨_,rfl,by show 2<=sizeLine;decide,fun t ht=>?_⟩;have st:=aj (o:=.tup [.ref z.1,.bl true]) ht;have nD:D1≠t:=am kC ht;refine kt _ _ _ (st _ _ kC) (by rw[aT,al];exact bv (show i<1000 by lia) (by decide)) ⟨⟨_,rfl⟩,bj (sm.trans st) DB,ae,as++[t],by rw[dt];rfl,by rw[dh,al];rfl,fun j hj=>?_⟩;by_cases c:j<i
   .obtain⟨z',e1,e2⟩:=ah j c;refine⟨z',e1,?_⟩;have e3:=st _ _ e2;rw[cw,j3 (by lia),<-cw,aq (by rintro e;rw[e,st _ _ kC] at e3;cases e3)];exact e3
   .obtain rfl:j=i:=by lia
    refine⟨z,hz,?_⟩;rw[cw,rJ (by lia),al,uG];show (upd _ D1 _) t=_;rw[aq nD.symm];exact ae
  rintro ys σ H2 ⟨_,s2,jy,as,rfl,al,ah⟩;rw[dZ] at al ah;refine⟨D1,as,zs.map fun z=>(DD z.2,z.1,V.bl true),rfl,jy,by rw[aT];exact al,fun i hi=>?_,by rw[aT];lia,fun Kn hK=>?_⟩
  .rw[aT] at hi;obtain⟨z,e1,e2⟩:=ah i hi;exact⟨DD z.2,z.1,.bl true,by rw[cA,e1];rfl,e2,s2 _ _ (po z (dz e1))⟩
  have WZ:∀u:Int×Int,(iW (eF [] (zs.map fun z=>(DD z.2,z.1,V.bl true))) (DD u)).isSome=decide (u∈zp zs):=fun u=>by
   rw[kP,A2,dQ,uk];have e:((fun p:TK=>p.1) ∘ fun z:Addr×Int×Int=>(DD z.2,z.1,V.bl true))=DD ∘ fun z:Addr×Int×Int=>z.2:=rfl;rw[e,<-dQ];have:=NW (u:=u) (ts:=zp zs);unfold zp at this |-;rw[this];simp[iW]
  have sK:=aj (o:=.dT (eF [] (zs.map fun z=>(DD z.2,z.1,V.bl true)))) hK;have hKK:(upd H2 Kn (.dT (eF [] (zs.map fun z=>(DD z.2,z.1,V.bl true))))) Kn=some (.dT (eF [] (zs.map fun z=>(DD z.2,z.1,V.bl true)))):=ae;generalize eF [] _=kd at *;refine⟨by show 0<=sizeLine;decide,fun R hR=>?_⟩;have s3:aI H _:=s2.trans sK;have hK3:=aj (o:=.lst []) hR _ _ hKK;have hRH:=s3.free hR;have s4:=s3.trans (aj (o:=.lst []) hR);refine⟨_,rfl,(n:Int),rfl,by lia,by lia,eh (n:=n) (lo:=0) (fun i σ Hc=>(∃a b,σ=[some (.int n),some (.ref l),some (.ref Kn),some (.ref R),a,b])/\aI H Hc/\Hc Kn=some (.dT kd)/\∃bs:List Addr,Hc R=some (.lst (bs.map V.ref))/\(∀b∈bs,H b=none/\b≠R)/\Holds Hc bs i fun h=>.lst (NV (bX n (zp zs) h))) ⟨⟨_,_,rfl⟩,s4,hK3,[],ae,fun b hb=>(nomatch hb),Holds.nil⟩ ?_ ?_⟩
  .rintro i σ Hc hi ⟨⟨x4,x5,rfl⟩,sc,Y3,bs,W0,fr,hb⟩;have nKR:Kn≠R:=by rintro rfl;rw[Y3] at W0;cases W0
   rw[iF];refine⟨_,rfl,1,(n:Int),rfl,⟨by decide,by decide,by lia,by lia⟩,fun D2 jy=>?_⟩;rw[show ((n:Int)-1).toNat=n-1 by lia];refine NU (lo:=1) (n:=n-1) (fun s=>V.int (((i+(s+1)) % n:Nat):Int)) (fun σ=>∃x,σ=[x,some (.int (i:Nat)),some (.int n)]) jy (by lia) ⟨_,rfl⟩ ?_ ?_
   .rintro x σ H4 R' Kf hx ⟨x',rfl⟩ yD kt;have e:((i:Int)+(1+(x:Int))) % (n:Int)=(((i+(x+1)) % n:Nat):Int):=by lia
    refine⟨_,rfl,_,rfl,_,_,rfl,rfl,_,rfl,_,_,rfl,rfl,(by show (0:Int)<(n:Int);lia),?_⟩;have:=kt [some (.int (1+(x:Int))),some (.int (i:Nat)),some (.int n)] H4 ⟨_,rfl⟩ (aI.refl _);rw[<-e] at this;exact this
   intro H4 s4 Bo;have W1:H4 D2=some (.lst (((List.range (n-1)).map fun s=>(i+(s+1)) % n).map fun (x:Nat)=>V.int (x:Int))):=by rw[Bo,dQ];rfl
   have tQ:=s4 _ _ W0;refine⟨_,rfl,.inl ⟨rfl,_,a8.of tQ⟩,_,rfl,D2,rfl,⟨_,a8.of W1⟩,fun D3 pU=>?_⟩;refine yM ((List.range (n-1)).map fun s=>(i+(s+1)) % n) (fun (x:Nat)=>V.int (x:Int)) (fun o=>decide ((ci i,ci o)∈zp zs)) (fun σ=>∃x,σ=[x,some (.int (i:Nat)),some (.ref Kn)]) W1 pU (by rw[aT,dk];lia) ⟨_,rfl⟩ ?_ ?_
   .rintro m σ H5 Kt Kf hm ⟨x',rfl⟩ Sv kt kf;refine⟨_,rfl,_,rfl,by show 2<=sizeLine;decide,fun t ht=>?_⟩;have st:=aj (o:=.tup [.int (i:Int),.int (m:Int)]) ht;have hK5:=st _ _ (Sv _ _ (s4 _ _ Y3));refine⟨_,rfl,Kn,_,rfl,JF.t (k:=DD (ci i,ci m)) hK5 ae,_,rfl,?_⟩;rw[WZ];refine gU (fun c=>?_) (fun c=>?_)
    .exact⟨_,rfl,kt _ _ ⟨_,rfl⟩ st c⟩
    .exact kf _ _ ⟨_,rfl⟩ st (by simpa using c)
   intro H5 s5 L9;rw[NX Fi hi] at L9;have Q_:=s5 _ _ tQ;have bl:bs.length=i:=hb.1;have Ij:D3≠R:=by rintro rfl;rw[tQ] at pU;cases pU
   refine⟨R,_,_,rfl,rfl,Q_,by rw[aT,bl];exact bv (show i<33 by lia) (by decide),⟨_,_,rfl⟩,bj ((sc.trans s4).trans s5) hRH,?_,bs++[D3],by rw[ae,dt];rfl,fun b vW=>?_,?_⟩
   .rw[aq nKR];exact s5 _ _ (s4 _ _ Y3)
   .rcases cL.mp vW with z|z
    .exact fr b z
    .rw[dA.mp z];exact⟨(sc.trans s4).free pU,Ij⟩
   .refine Holds.snoc (hb.mono fun j hj e=>?_) (by rw[aq Ij];exact L9);have e5:=s5 _ _ (s4 _ _ e);have hm:bs.getD j 0∈bs:=by rw[cw,cz (by lia)];exact ie _
    rw[aq (fr _ hm).2];exact e5
  .rintro σ Hc ⟨⟨x4,x5,rfl⟩,sc,Y3,bs,W0,fr,hb⟩;exact⟨_,rfl,q R Hc sc hRH ⟨bs,W0,fun b vW=>(fr b vW).1,hb⟩⟩
abbrev DQ:Stmt:=top 50
def oV:Option Nat->V
 |none=>.cI
 |some y=>.int (y:Nat)
theorem Lg{y:Nat}:∀ {st:bA},(st.map oV).countP (fun z=>uT z (.int (y:Int)))=st.count (some y)
 |[]=>rfl
 |o::st=>by
  rw[gJ,qz,Lg,B_];cases o with
  |none=>rfl
  |some x=>
   congr 1;show (if decide ((x:Int)=(y:Int))=true then 1 else 0)=_;by_cases h:x=y
   .subst h;simp
   .rw[ao (by simp;lia),ao (by simp[h])]
theorem mB:∀ {st:bA},(st.map oV).all g7=true
 |[]=>rfl
 |none::st=>mB (st:=st)
 |some _::st=>mB (st:=st)
structure kH(n:Nat)(ts:Ts)(homes:aQ)(st:bA):Prop where
 len:homes.length=st.length
 hs:∀x∈homes,x<n
 ss:∀i y:Nat,st[i]?=some (some y)->y<n/\homes[i]?≠some y
 cap:∀y,y<n->st.count (some y)<=(bX n ts y).length
theorem kH.snoc(S:kH n ts homes st)(hh:h<n)(ho:∀y,o=some y->y<n/\y≠h/\st.count (some y)<(bX n ts y).length):kH n ts (homes++[h]) (st++[o]):=by
 refine⟨by rw[dh,dh,S.len];rfl,fun x hx=>?_,fun i y e=>?_,fun y hy=>?_⟩
 .rcases cL.mp hx with z|z
  .exact S.hs x z
  .rw[dA.mp z];exact hh
 .by_cases c:i<st.length
  .rw[j3 c] at e;rw[j3 (by rw[S.len];exact c)];exact S.ss i y e
  .rw[rJ (by lia)] at e;have hi:i=st.length:=by
    have:=(eR.mp e).1;rw[lN] at this;lia
   subst hi;rw[uG] at e;have:=ho y (cB e);refine⟨this.1,?_⟩;rw[<-S.len,rJ (aP _),uG];exact fun z=>this.2.1 (cB z).symm
 .rw[List.count_append,List.count_singleton];by_cases e:o=some y
  .rw[ap (by rw[e];simp)];exact(ho y e).2.2
  .rw[ao (by simpa using e)];exact S.cap y hy
theorem jA:aN ["_law_pot_here","_law_outs_here","_law_many","_law_crowd","_law_homes","_law_stand","_law_k","_law_house"] ["_law_pot_here","_law_outs_here"] (aw DQ):=dW (by decide +kernel)
def yO:Sp:=fun vs H Q _=>∃ (p r:Addr) (n:Nat) (ts:Ts) (L:iP),vs=[.ref p,.ref r]/\2<=n/\n<=32/\bn H p/\bK H L r n (bX n ts)/\L r/\¬ L p/\
 ∀ (t a b:Addr) (homes:aQ) (st:bA) (H':Hp),aO p H H'->bn H' p->H' t=some (.tup [.ref a,.ref b])->H' a=some (.tup (NV homes))->H' b=some (.tup (st.map oV))->st.length<=16->kH n ts homes st->Q (.ref t) H'
theorem Lh(F:iH K "_law_start" "_law_start" DQ f fd)(B:Bl mg)(D:d9 P w K mg base bo 1 "_law_take" ["_law_pot_here","_law_many"] io):bU P w K mg base bo 2 f fd ["_law_pot_here","_law_outs_here"] yO:=by
 refine F.ok jA (fun vs H Q E h=>?_) (fun fX A outer s H vs Q E hr h=>?_)
 .obtain⟨p,r,n,ts,L,rfl,_⟩:=h;rfl
 .obtain⟨p,r,n,ts,L,rfl,n1,n2,hp,R0,hLr,hLp,q⟩:=h;refine⟨_,(ak (aW (i:=2) jA.nd rfl aL (aJ aV (by rfl) B.len fc (aa (pv 1) ag)))
   (ak (aW (i:=3) jA.nd rfl aL (aX aG (cH (aa (pv 2) (aa (pv 2) (aa az (aa az ag))))) (aH D hr aM (aa (pv 0) (aa az ag))) (fun _ _=>rfl)))
   (ak (Ck (i:=4) (j:=5) rfl jA.nd rfl rfl (by decide) rfl rfl (aa (cH ag) (aa (cH ag) ag)) (by rfl))
   (ak (du eI rfl (b9 rfl B.range (aa (aH D hr aM (aa (pv 0) (aa az ag))) ag)) (aA (i:=6) jA.nd rfl aL)
    (ak (cG (gQ gy i8 i7 cV (pv 4) (aa (aH D hr aM (aa (pv 0) (aa (pv 2) ag))) ag)))
    (ak (aW (i:=7) jA.nd rfl aL (aH D hr aM (aa (pv 0) (aa (aJ (qS rfl) (by rfl) B.min BG (aa (pv 3) (aa (pv 2) ag))) ag))))
    (ak (dS (PW.pt (El (aY iQ (aH D hr aM (aa (pv 0) (aa az ag))) az (bp _)) (El (aY iQ (pv 7) (aX aG (pv 4) (zN uP az) (fun _ _=>rfl)) (bp _)) (Cj (aY O6 (gQ gy PySem.F.slot_list_count PySem.F.type_list_count An (pv 5) (aa (pv 7) ag)) (aJ aV (by rfl) B.len fc (aa (aX aG (pv 1) (pv 7) (fun _ _=>rfl)) ag)) (bp _)))))) (av (aW (i:=7) jA.nd rfl aL (a9 jd (a9 dM (a9 dM (pv 7) az) (aH D hr aM (aa (pv 0) (aa (pv 2) ag)))) (pv 2)))) b8)
    (ak (dS (PW.pt (El (aY iQ (pv 7) (aX aG (pv 4) (zN uP az) (fun _ _=>rfl)) (bp _)) (Cj (aY O6 (gQ gy PySem.F.slot_list_count PySem.F.type_list_count An (pv 5) (aa (pv 7) ag)) (aJ aV (by rfl) B.len fc (aa (aX aG (pv 1) (pv 7) (fun _ _=>rfl)) ag)) (bp _))))) (av (aW (i:=7) jA.nd rfl aL ii)) b8)
    (av (cG (gQ gy i8 i7 cV (pv 5) (aa (pv 7) ag)))))))))
   (av (bh (bT (aa (cU fh (by rfl) B.tup oX (aa (pv 4) ag)) (aa (cU fh (by rfl) B.tup oX (aa (pv 5) ag)) ag))))))))),?_⟩
  obtain⟨bs0,g1,g2,g3⟩:=id R0;have el:(((bs0.map V.ref).length:Nat):Int)=(n:Int):=by rw[aT,g3.1]
  refine⟨_,rfl,r,_,rfl,.inl (a8.of g1),?_⟩;rw[el];refine⟨_,rfl,_,rfl,by show 4<=sizeLine;decide,fun l hl=>⟨_,rfl,p,4,rfl,by decide,by decide,hp.same (aj hl),fun d1 H1 hd1 s1 mW=>?_⟩⟩;have gl:=s1 _ _ (ae (H:=H) (a:=l) (o:=.lst [.int (n:Int),.int (n:Int),.int 2,.int 1])) (hp.ne hl);obtain⟨c,hc,c1,c2⟩:∃c:Nat,zS [V.int (n:Int),.int (n:Int),.int 2,.int 1] (d1:Int)=some (.int c)/\1<=c/\c<=32:=by
   rcases(show d1=0\/d1=1\/d1=2\/d1=3 by lia) with rfl|rfl|rfl|rfl
   .exact⟨n,aD (j:=0) rfl,by lia,by lia⟩
   .exact⟨n,aD (j:=1) rfl,by lia,by lia⟩
   .exact⟨2,aD (j:=2) rfl,by decide,by decide⟩
   .exact⟨1,aD (j:=3) rfl,by decide,by decide⟩
  have P0:aO p H H1:=(aO.of (aj hl)).trans s1;refine⟨l,_,_,_,rfl,rfl,a8.of gl,hc,by show 0<=sizeLine;decide,fun Hs hHs=>⟨by show 0<=sizeLine;decide,fun St hSt=>⟨_,_,rfl,?_⟩⟩⟩;have sA:=aj (o:=.lst []) hHs;have sB:=aj (o:=.lst []) hSt;have gH:=sB _ _ (ae (H:=H1) (a:=Hs) (o:=.lst (NV [])));have gS:(upd (upd H1 Hs (.lst [])) St (.lst [])) St=some (.lst (List.map oV [])):=ae;have fH:H Hs=none:=P0.free mW.full hHs;have fS:H St=none:=P0.free mW.full (sA.free hSt);have UB:Hs≠p:=hp.ne fH;have L5:St≠p:=hp.ne fS;have nHS:Hs≠St:=am ae hSt;have sAB:=sA.trans sB;generalize upd (upd H1 Hs _) St _=H2 at *;refine⟨_,rfl,p,17,rfl,by decide,by decide,mW.same sAB,fun d2 H3 RW s3 nB=>⟨(d2:Int),rfl,by lia,by lia,?_⟩⟩;rw[gE];refine eh (lo:=0) (n:=d2) (fun i σ Hc=>∃ (homes:aQ) (st:bA),(∃a b,σ=[some (.ref p),some (.ref r),some (.int (n:Int)),some (.int (c:Int)),some (.ref Hs),some (.ref St),a,b])/\aO p H Hc/\bn Hc p/\Hc Hs=some (.lst (NV homes))/\Hc St=some (.lst (st.map oV))/\st.length=i/\kH n ts homes st)
   ⟨[],[],⟨_,_,rfl⟩,(P0.trans (aO.of sAB)).trans s3,nB,s3 _ _ gH UB,s3 _ _ gS L5,rfl,rfl,fun x hx=>(nomatch hx),fun i y e=>by simp at e,fun y _=>cp _⟩ ?_ ?_
  .clear gH gS s3 nB sAB sA sB gl P0 s1 mW;rintro i σ Hc hi ⟨homes,st,⟨x6,x7,rfl⟩,sc,oH,NY,vL,sl,SD⟩;refine⟨_,rfl,.inl ⟨rfl,_,a8.of NY⟩,_,rfl,_,rfl,p,n,rfl,by lia,by lia,oH,fun home H4 hh s4 r9=>⟨Hs,_,_,rfl,rfl,s4 _ _ NY UB,by rw[be,SD.len,sl];exact bv (show i<33 by lia) (by decide),?_⟩⟩;rw[jz];have R8:aO p H (upd H4 Hs (.lst (NV (homes++[home])))):=fun b o e m=>by rw[aq (am e fH)];exact s4 _ _ (sc _ _ e m) m
   have w9:=r9.put (o:=.lst (NV (homes++[home]))) UB.symm;have hS5:(upd H4 Hs (.lst (NV (homes++[home])))) St=some (.lst (st.map oV)):=by rw[aq nHS.symm];exact s4 _ _ vL L5
   have hH5:=ae (H:=H4) (a:=Hs) (o:=.lst (NV (homes++[home])));generalize upd H4 Hs _=H5 at *;clear s4 r9 NY vL oH sc;have em:(if (n:Int)<(c:Int) then (n:Int) else (c:Int))=((min c n:Nat):Int):=by split <;> lia
   refine⟨_,rfl,_,rfl,_,rfl,_,_,rfl,p,min c n,by rw[em];rfl,by lia,by lia,w9,fun y0 H6 hy0 s6 zm=>?_⟩;have hgl:zS (NV (homes++[home])) (-1)=some (.int (home:Int)):=by rw[<-jz];exact zU _ _
   dsimp only;refine wX (fun σ Hd=>∃y:Nat,y<n/\σ=[some (.ref p),some (.ref r),some (.int (n:Int)),some (.int (c:Int)),some (.ref Hs),some (.ref St),some (.int (0+(i:Int))),some (.int (y:Int))]/\aO p H Hd/\bn Hd p/\Hd Hs=some (.lst (NV (homes++[home])))/\Hd St=some (.lst (st.map oV))) ?_ ?_
   .rintro σ Hd ⟨y,hy,rfl,sd,Q7,hH,hS⟩;refine wX (fun σ He=>He=Hd/\∃o:Option Nat,σ=[some (.ref p),some (.ref r),some (.int (n:Int)),some (.int (c:Int)),some (.ref Hs),some (.ref St),some (.int (0+(i:Int))),some (oV o)]/\∀y,o=some y->y<n/\y≠home/\st.count (some y)<(bX n ts y).length) ?_ ?_
    .rintro σ He ⟨rfl,o,rfl,ho⟩;refine⟨_,rfl,.inl ⟨rfl,_,a8.of hS⟩,_,rfl,St,_,_,rfl,rfl,hS,by rw[aT,sl];exact bv (show i<33 by lia) (by decide),?_⟩;exact⟨homes++[home],st++[o],⟨_,_,rfl⟩,fun b o' e m=>by rw[aq (am e fS)];exact sd _ _ e m,Q7.put L5.symm,by rw[aq nHS];exact hH,by rw[ae,dt];rfl,by rw[dh,sl];rfl,SD.snoc hh ho⟩
    .intro N hN;have Rd:=R0.keep hLr fun b o l e=>sd b o e fun z=>hLp (z ▸ l);obtain⟨bs,b1,b2,b3⟩:=Rd;have no:N _ Hd:=hN _ _ ⟨rfl,none,rfl,fun y e=>by cases e⟩;refine⟨_,rfl,_,rfl,_,rfl,Hs,_,_,_,rfl,rfl,a8.of hH,hgl,rfl,_,rfl,gU (fun e1=>vT ?_) (fun e1=>?_)⟩
     .exact no
     refine⟨_,rfl,.inl ⟨rfl,_,a8.of hS⟩,_,rfl,St,_,_,rfl,rfl,hS,rfl,mB,_,rfl,_,rfl,r,_,_,_,rfl,rfl,a8.of b1,aD (Lc (by rw[b3.1];exact hy)),_,_,rfl,.inl (a8.of (b3.2 y hy)),_,_,rfl,rfl,_,rfl,?_⟩;refine gU (fun e2=>no) (fun e2=>hN _ _ ⟨rfl,some y,rfl,fun y' e=>?_⟩);cases e;refine⟨hy,fun z=>e1 (by rw[z];simp),?_⟩;have e2:=mt iN e2;rw[Lg,be] at e2;lia
   .intro N hN;have WR:=R8.trans s6;have hH:=s6 _ _ hH5 UB;have hS:=s6 _ _ hS5 L5;have hy:y0<n:=by lia
    have Rd:∀ {Hd},aO p H Hd->bK Hd L r n (bX n ts):=fun sd=>R0.keep hLr fun b o l e=>sd b o e fun z=>hLp (z ▸ l);refine aak (fun Hd=>aO p H Hd/\bn Hd p/\Hd Hs=some (.lst (NV (homes++[home])))/\Hd St=some (.lst (st.map oV))) (fun Hd=>aO p H Hd/\bn Hd p/\Hd Hs=some (.lst (NV (homes++[home])))/\Hd St=some (.lst (st.map oV))) ?_ (fun Hd ⟨a1,a2,a3,a4⟩=>hN _ _ ⟨y0,hy,rfl,a1,a2,a3,a4⟩) ?_
    .rintro Hd ⟨sd,Q7,hHd,hSd⟩;refine⟨_,rfl,_,_,rfl,rfl,_,rfl,_,rfl,p,n,rfl,by lia,by lia,Q7,fun d3 H7 hd3 s7 KY=>⟨_,_,rfl,rfl,_,rfl,_,_,rfl,rfl,(by show (0:Int)<(n:Int);lia),?_⟩⟩;have ey:((y0:Int)+1+(d3:Int)) % (n:Int)=(((y0+1+d3) % n:Nat):Int):=by simp
     change bH 7 (V.int (((y0:Int)+1+(d3:Int)) % (n:Int))) _ _ _;rw[ey];exact hN _ _ ⟨_,lV _ (by lia),rfl,sd.trans s7,KY,s7 _ _ hHd UB,s7 _ _ hSd L5⟩
    .intro Y N' hY hN';refine⟨_,rfl,p,7,rfl,by decide,by decide,zm,fun d3 H7 hd3 s7 KY=>⟨rfl,_,rfl,?_⟩⟩;have k7:=WR.trans s7;have hS:=s7 _ _ hS L5;have hH:=s7 _ _ hH UB;refine gU (fun e0=>vT (hY _ ⟨k7,KY,hH,hS⟩)) (fun e0=>?_);refine⟨_,rfl,_,rfl,_,rfl,Hs,_,_,_,rfl,rfl,a8.of hH,hgl,rfl,_,rfl,gU (fun e1=>vT (hY _ ⟨k7,KY,hH,hS⟩)) (fun e1=>?_)⟩;obtain⟨bs,b1,b2,b3⟩:=Rd k7;refine⟨_,rfl,.inl ⟨rfl,_,a8.of hS⟩,_,rfl,St,_,_,rfl,rfl,hS,rfl,mB,_,rfl,_,rfl,r,_,_,_,rfl,rfl,a8.of b1,aD (Lc (by rw[b3.1];exact hy)),_,_,rfl,.inl (a8.of (b3.2 y0 hy)),_,_,rfl,rfl,_,rfl,?_⟩;exact gU (fun e2=>hY _ ⟨k7,KY,hH,hS⟩) (fun e2=>hN' _ ⟨k7,KY,hH,hS⟩)
  .rintro σ Hc ⟨homes,st,⟨x6,x7,rfl⟩,sc,oH,NY,vL,sl,SD⟩;refine⟨_,rfl,Hs,_,rfl,.inl ⟨a8.of NY,fun ta hta=>⟨_,rfl,St,_,rfl,.inl ⟨a8.of (aj hta _ _ vL),fun tb Yz=>⟨by show 2<=sizeLine;decide,fun t ht=>?_⟩⟩⟩⟩⟩;have u1:=aj (o:=.tup (NV homes)) hta;have u2:=aj (o:=.tup (st.map oV)) Yz;have u3:=aj (o:=.tup [.ref ta,.ref tb]) ht;exact q t ta tb homes st _ (sc.trans (aO.of ((u1.trans u2).trans u3))) (((oH.same u1).same u2).same u3) ae (u3 _ _ (u2 _ _ ae)) (u3 _ _ ae) (by lia) SD
abbrev sUW:Stmt:=top 13
abbrev Fu:Stmt:=gw (top 15) 1
abbrev sFF:Stmt:=top 26
abbrev sHT:Stmt:=top 25
abbrev Li:Stmt:=top 23
theorem lx:(["letter","house"]:bQ).Nodup:=by decide +kernel
theorem jm:(["ahead","goes","stand","letter"]:bQ).Nodup:=by decide +kernel
theorem NZ:(["home"]:bQ).Nodup:=by decide +kernel
noncomputable def iT(n:Nat)(ts:Ts)(i j:Nat):List Nat:=(bX n ts i).filter fun o=>decide (far ts o j<far ts i j)
theorem nbG:(["other","self","home","own"]:bQ).Nodup:=by decide +kernel
def oU(st:bA)(i:Nat):List Nat:=(List.range i).filter fun j=>(st.getD j none).isSome
theorem p8:oU st (i+1)=oU st i++if (st.getD i none).isSome then [i] else []:=by
 unfold oU;rw[lu,ic,eU];rfl
theorem jB:(oU st i).length<=i:=aZ (iK _ _) (by rw[dk];exact aP _)
def W2:R2:=fun x y H Q=>y=.cI/\Q (.bl (!decide (x=.cI))) H
theorem DR{st:bA}{i:Nat}{x:V}(h:(st.map oV)[i]?=some x):i<st.length/\x=oV (st.getD i none):=by
 have hi:=(eR.mp h).1;rw[aT] at hi;refine⟨hi,?_⟩;rw[cA,cz hi] at h;rw[cw,cz hi];exact(cB h).symm
theorem Fv:(!decide (oV o=.cI))=o.isSome:=by cases o <;> simp[oV]
theorem yP{α:Type}{l:List α}{i:Nat}{d:α}(h:i<l.length):l[i]?=some (l.getD i d):=by rw[cw,cz h];rfl
theorem jC(h:j∈oU st i):j<i/\st.getD j none=some ((st.getD j none).getD 0):=by
 obtain⟨a,b⟩:=gb.mp h;refine⟨bY.mp a,?_⟩;cases e:st.getD j none with
 |none=>rw[e] at b;cases b
 |some y=>rfl
def m9(st gs:bA)(l:Nat)(os:aQ):Option Nat:=os.find? fun h=>!((List.range st.length).any fun a=>decide (st.getD a none=st.getD l none)&&decide (gs.getD a none=some h))
theorem kI{st:bA}{i:Nat}(h:i<st.length):(st.map oV)[i]?=some (oV (st.getD i none)):=by
 rw[cA,cw,cz h];rfl
theorem W3:decide (oV a=oV b)=decide (a=b):=by
 cases a <;> cases b <;> simp[oV];exact⟨fun h=>d7 h,fun h=>by rw[h]⟩
theorem N0:Mj (oV a) (oV b)=true:=by cases a <;> cases b <;> rfl
theorem P4{h:Nat}:∀ {xs:bA},LW (.int (h:Int)) (xs.map oV)=xs.any fun o=>decide (o=some h)
 |[]=>rfl
 |o::xs=>by
  have ih:=P4 (h:=h) (xs:=xs);unfold LW at *;rw[gJ,lT,lT,ih];cases o with
  |none=>rfl
  |some x=>
   congr 1;show decide ((x:Int)=(h:Int))=_;by_cases e:x=h
   .subst e;simp
   .rw[gY (by lia),gY (by simp[e])]
theorem dE.own(N:dE C H L p n ts):dE C H (fun b=>H b≠none) p n ts:=by
 obtain⟨dx,tl,ol,ds,a,l1,l2,b,c,d⟩:=N.ob;have ne:∀ {b o},H b=some o->H b≠none:=fun e z=>by rw[e] at z;cases z
 have vO:∀ {l r},bK H L l n r->bK H (fun b=>H b≠none) l n r/\H l≠none:=fun ⟨bs,a,b,c⟩=>⟨⟨bs,a,fun x hx=>by
  obtain⟨j,hj,e⟩:=ug hx;have:=c.2 j (by rw[<-c.1];exact hj);rw[cw,cz hj,qy,e] at this;exact ne this,c⟩,ne a⟩
 obtain⟨t1,zs,t2,t3,t4,t5⟩:=d;exact⟨N.lD,dx,tl,ol,ds,a,(vO b).2,(vO c).2,(vO b).1,(vO c).1,ne t2,zs,t2,t3,fun z hz=>ne (t3 z hz),t5⟩
theorem Lj:aN ["self","house","home","own"] ["self","house","home"] (aw Km):=dW (by decide +kernel)
def yQ(C:Addr):Sp:=fun vs H Q _=>∃ (L:iP) (p:Addr) (n:Nat) (ts:Ts) (i j:Nat),vs=[.ref p,.int i,.int j]/\dE C H L p n ts/\i<n/\j<n/\∀r H',aI H H'->H r=none->H' r=some (.lst (NV (iT n ts i j)))->Q (.ref r) H'
theorem Lk(F:iH K "good" "Net.good" Km f fd)(T:NT K mg C)(M:jW P w K mg base bo 5 C "far" ["self","one","other"] (oB C)):
  bU P w K mg base bo 6 f fd ["self","house","home"] (yQ C):=by
 obtain⟨fM,fdM,mM,bM,GM⟩:=M.ex;refine F.ok Lj (fun vs H Q E h=>?_) (fun fX A outer s H vs Q E hr h=>?_)
 .obtain⟨L,p,n,ts,i,j,rfl,_⟩:=h;rfl
 .obtain⟨L,p,n,ts,i,j,rfl,N,hi,hj,k2⟩:=h;obtain⟨dx,tl,ol,ds,h1,_,_,RO,R,_⟩:=N.ob;have fi:=N.lD;have n2:=fi.n2;refine'⟨_,ak (aW (i:=3) Lj.nd rfl cW (eZ (pv 0) T.cl mM GM hr bM .nil aM (aa (pv 1) (aa (pv 2) ag))))
   (av (bh ?c)),?_⟩
  case c=>
   refine' cQ (g:=bH 0) (tt:=pf (jR (zM fun i j=>.bl (decide (i<j))) (jR (sr K) (jR (sr K) (Mq K (bb 1) "distances") (bb 0)) (bb 2)) (bb 3))) (te:=bb 0) (NB:=["other","self","home","own"]) (src:=[none,some 0,some 2,some 3]) (bz (by kernel_rfl)) rfl (bN (aX aG (k8 (pv 0) rfl) (pv 1) (fun _ _=>rfl))) ?g ?t ?e;case g=>exact fun cl C s₃ H₃ fp=>aA (i:=0) nbG rfl aL cW
   case t=>exact fun cl C s₃ H₃ fp=>g8 (aY ni (aX aG (aX aG (k8 (pv 1) rfl) (pv 0) (fun _ _=>rfl)) (pv 2) (fun _ _=>rfl)) (pv 3) (bp _))
   case e=>exact fun cl C s₃ H₃ fp=>pv 0
  refine⟨_,rfl,p,dx,_,rfl,h1,Rp _ _ _ _,_,rfl,_,rfl,L,p,n,ts,i,j,rfl,N,hi,hj,?_⟩;obtain⟨bs,b,r1,r2,r3,_⟩:=RO.row hi;refine⟨_,rfl,p,C,dx,_,_,rfl,h1,T.cl,T.nO,E_ _ _ _ _,_,rfl,ol,_,_,_,rfl,rfl,a8.of r1,aD r2,b,rfl,⟨_,a8.of r3⟩,fun D hD=>?_⟩;have nb:b≠D:=am r3 hD;refine fZ (xs:=NV (bX n ts i)) (fun m ys σ H2=>(∃a,σ=[a,some (.ref p),some (.int (j:Int)),some (.int ((far ts i j:Nat):Int))])/\ys=NV (((bX n ts i).take m).filter fun o=>decide (far ts o j<far ts i j))/\H2=upd H D (.lst ys)) ⟨⟨_,rfl⟩,by simp,rfl⟩ (fun m ys σ H2 _ ⟨_,_,e⟩=>by rw[e];exact a8.of (by rw[aq nb];exact r3)) ?_ ?_
  .rintro m x ys σ H2 Kt Kf hx ⟨⟨a,rfl⟩,ey,rfl⟩ kt kf;obtain⟨v,hv,rfl⟩:=pW hx;have RB:v∈bX n ts i:=dz hv;have Kv:v<n:=tR fi hi RB;have sm:aI H (upd H D (.lst ys)):=aj hD;obtain⟨bs2,b2,q1,q2,q3,_⟩:=R.row Kv;have hg:(NV ((List.range n).map (far ts v)))[j]?=some (.int (far ts v j:Nat)):=by
    rw[cA,cA,f_ hj];rfl
   have tk:(bX n ts i).take (m+1)=(bX n ts i).take m++[v]:=by rw[gW,hv];rfl
   have hm:m<(bX n ts i).length:=(eR.mp hv).1;refine⟨_,rfl,p,C,dx,_,_,rfl,sm _ _ h1,T.cl,T.nD,Fa _ _ _ _,_,rfl,ds,_,_,_,rfl,rfl,a8.of (sm _ _ q1),aD q2,_,rfl,b2,_,_,_,rfl,rfl,a8.of (sm _ _ q3),aD hg,_,rfl,_,_,rfl,rfl,_,rfl,?_⟩;refine gU (fun e=>?_) (fun e=>?_)
   .refine⟨_,rfl,kt _ _ _ ae ?_ ⟨⟨_,rfl⟩,?_,by rw[mK]⟩⟩
    .rw[ey,be];refine eK (iK _ _) (eK (xt _ _) (bv (show m<33 from ?_) (by decide)));have:(bX n ts i).length<=n:=aZ (iK _ _) (by simp);lia
    .have:decide (far ts v j<far ts i j)=true:=by simp at e |-;lia
     rw[ey,tk,ic,jz];simp[eU,this]
   .refine kf _ _ ⟨⟨_,rfl⟩,?_,rfl⟩;have:decide (far ts v j<far ts i j)=false:=by simp at e |-;lia
    rw[ey,tk,ic];simp[eU,this]
  .rintro ys σ H2 ⟨_,ey,rfl⟩;rw[be,i_] at ey;refine k2 D _ (aj hD) hD ?_;rw[ae,ey];rfl
theorem aaz:aN ["stand"] ["stand"] (aw sUW):=dW (by decide +kernel)
def DS:Sp:=fun vs H Q _=>∃ (sa:Addr) (st:bA),vs=[.ref sa]/\H sa=some (.tup (st.map oV))/\st.length<=16/\∀ (r:Addr) (H':Hp),aI H H'->H r=none->H' r=some (.lst (NV (oU st st.length)))->Q (.ref r) H'
theorem W4{f:Addr}{fd:eA}(F:iH K "under_way" "under_way" sUW f fd)(hE:mg "enumerate"=none):bU P w K mg base bo 1 f fd ["stand"] DS:=by
 refine F.ok aaz (fun vs H Q E h=>?_) (fun fX A outer s H vs Q E hr h=>?_)
 .obtain⟨sa,st,rfl,_⟩:=h;rfl
 .obtain⟨sa,st,rfl,hS,hl,q⟩:=h;refine'⟨_,(av (bh ?c1)),?_⟩;case c1=>
   refine' cQ (g:=(uN K 2 (gn (bH 0) (gn (bH 1) uM)))) (tt:=(pf (jR W2 (bb 1) (tC .cI)))) (te:=(bb 0)) (NB:=["letter","house"]) (src:=[none,none]) (bz (by kernel_rfl)) rfl (Ap rfl hE (aa (pv 0) ag)) ?g ?t ?e;case g=>exact fun cl C s₃ H₃ fp=>(dX (n:=2) rfl (aE (aA (i:=0) lx rfl aL cW) (aE (aA (i:=1) lx rfl aL cW) cM)))
   case t=>exact fun cl C s₃ H₃ fp=>g8 (aY Er (pv 1) ii (bp _))
   case e=>exact fun cl C s₃ H₃ fp=>(pv 0)
  refine⟨_,rfl,sa,_,rfl,cu.of hS,fun D hD=>?_⟩;refine C5 (K:=K) (a:=sa) (xs:=st.map oV) (fun i ys σ H3=>(∃u v,σ=[u,v])/\ys=NV (oU st i)/\aI H H3/\H3 D=some (.lst ys)) ⟨⟨_,_,rfl⟩,rfl,aj hD,ae⟩ (fun i ys σ H3 _ z=>cu.of (z.2.2.1 _ _ hS)) ?_ ?_
  .rintro i x t ys σ H3 Kt Kf hx ⟨⟨u,v,rfl⟩,rfl,sm,pU⟩ ht kt kf;obtain⟨hi,rfl⟩:=DR hx;have aF:=aj (o:=.tup [.int (i:Int),oV (st.getD i none)]) ht;refine⟨_,_,rfl,cu.of ae,rfl,_,_,rfl,_,_,rfl,rfl,?_⟩;refine⟨_,rfl,rfl,_,rfl,?_⟩;rw[Fv];refine gU (fun e=>?_) (fun e=>?_)
   .refine⟨_,rfl,kt _ _ _ (aF _ _ pU) (by rw[be];exact eK jB (bv (show i<17 by lia) (by decide))) ⟨⟨_,_,rfl⟩,?_,bj (sm.trans aF) hD,ae⟩⟩;rw[p8,ap e,jz]
   .refine kf _ _ ⟨⟨_,_,rfl⟩,?_,sm.trans aF,aF _ _ pU⟩;rw[p8,ao e,jH]
  .rintro ys σ H3 ⟨_,rfl,sm,pU⟩;rw[aT] at pU;exact q D H3 sm hD pU
theorem Sw:aN ["self","net","homes","stand","beat"] ["self","net","homes","stand","beat"] (aw Fu):=dW (by decide +kernel)
def vF:Sp:=fun vs H Q _=>∃ (x0 x1 x2 x4:V) (sa:Addr) (st:bA),vs=[x0,x1,x2,.ref sa,x4]/\H sa=some (.tup (st.map oV))/\st.length<=16/\∀ (r:Addr) (H':Hp),aI H H'->H r=none->H' r=some (.lst (NV (oU st st.length)))->Q (.ref r) H'
theorem Fw(F:iH K "order" "Rule.order" Fu f fd)(UW:d9 P w K mg base bo 1 "under_way" ["stand"] DS):bU P w K mg base bo 2 f fd ["self","net","homes","stand","beat"] vF:=by
 refine F.ok Sw (fun vs H Q E h=>?_) (fun fX A outer s H vs Q E hr h=>?_)
 .obtain⟨x0,x1,x2,x4,sa,st,rfl,_⟩:=h;rfl
 .obtain⟨x0,x1,x2,x4,sa,st,rfl,hS,hl,q⟩:=h;refine⟨_,(av (bh (aH UW hr aM (aa (pv 3) ag)))),?_⟩;exact⟨_,rfl,sa,st,rfl,hS,hl,q⟩
theorem Sx:aN ["others","stand","goes","letter","taken","house"] ["others","stand","goes","letter"] (aw sFF):=dW (by decide +kernel)
def Sy:Sp:=fun vs H Q _=>∃ (oa sa ga:Addr) (os:aQ) (st gs:bA) (l:Nat),vs=[.ref oa,.ref sa,.ref ga,.int l]/\H oa=some (.lst (NV os))/\H sa=some (.tup (st.map oV))/\H ga=some (.lst (gs.map oV))/\gs.length=st.length/\st.length<=16/\l<st.length/\∀H',aI H H'->Q (oV (m9 st gs l os)) H'
theorem W5{f:Addr}{fd:eA}(F:iH K "first_free" "first_free" sFF f fd)(B:Bl mg):bU P w K mg base bo 1 f fd ["others","stand","goes","letter"] Sy:=by
 refine F.ok Sx (fun vs H Q E h=>?_) (fun fX A outer s H vs Q E hr h=>?_)
 .obtain⟨oa,sa,ga,os,st,gs,l,rfl,_⟩:=h;rfl
 .obtain⟨oa,sa,ga,os,st,gs,l,rfl,hO,hS,hG,gl,sl,hl,q⟩:=h;refine'⟨_,(ak (fE (i:=4) (g:=(bH 0)) (tt:=(pf (jR (ZC) (jR (zV K) (bb 2) (bb 0)) (jR (zV K) (bb 2) (bb 3))))) (te:=(jR (sr K) (bb 1) (bb 0))) (NB:=["ahead","goes","stand","letter"]) (src:=[none,some 2,some 1,some 3]) (bz (by kernel_rfl)) rfl (b9 rfl B.range (aa (aJ aV (by rfl) B.len fc (aa (pv 1) ag)) ag)) ?g1 ?t1 ?e1 Sx.nd rfl rfl rfl)
   (ak (du eI rfl (bN (pv 0)) (aA (i:=5) Sx.nd rfl aL)
    (av (dS (aY xX (pv 5) (pv 4) rfl) (av (bh (pv 5))) b8)))
   (av (bh ii)))),?_⟩
  case g1=>exact fun cl C s₃ H₃ fp=>(aA (i:=0) jm rfl aL cW)
  case t1=>exact fun cl C s₃ H₃ fp=>g8 (aY iQ (aX eN (pv 2) (pv 0) (fun _ _=>rfl)) (aX eN (pv 2) (pv 3) (fun _ _=>rfl)) (bp _))
  case e1=>exact fun cl C s₃ H₃ fp=>(aX aG (pv 1) (pv 0) (fun _ _=>rfl))
  refine⟨_,rfl,sa,_,rfl,.inr (cu.of hS),(((st.map oV).length:Nat):Int),rfl,by lia,by rw[aT];lia,fun D hD=>?_⟩;rw[gE,aT];refine fJ (fun i ys σ H2=>(∃x,σ=[x,some (.ref ga),some (.ref sa),some (.int (l:Int))])/\aI H H2/\H2 D=some (.lst ys)/\ys=(((List.range i).filter fun a=>decide (st.getD a none=st.getD l none)).map fun a=>gs.getD a none).map oV) ⟨⟨_,rfl⟩,aj hD,ae,rfl⟩ ?_ ?_
  .rintro i ys σ H2 Kt Kf hi ⟨⟨x,rfl⟩,sm,jy,rfl⟩ kt kf;rw[iF];refine⟨_,rfl,_,rfl,sa,_,_,_,rfl,rfl,cu.of (sm _ _ hS),aD (kI hi),_,rfl,_,rfl,sa,_,_,_,rfl,rfl,cu.of (sm _ _ hS),aD (kI hl),N0,_,rfl,?_⟩;rw[W3];refine gU (fun c=>?_) (fun c=>?_)
   .refine⟨_,rfl,_,rfl,ga,_,_,_,rfl,rfl,a8.of (sm _ _ hG),aD (kI (by lia)),?_⟩;refine kt _ _ _ jy ?_ ⟨⟨_,rfl⟩,bj sm hD,ae,?_⟩
    .rw[aT,aT];refine eK (iK _ _) ?_;rw[dk];exact bv (show i<17 by lia) (by decide)
    .rw[lu,ic,dt,dt,eU,ap c];rfl
   .refine kf _ _ ⟨⟨_,rfl⟩,sm,jy,?_⟩;rw[lu,ic,eU,ao c,B9,jH]
  rintro ys σ H2 ⟨_,sm,jy,rfl⟩;have ein:∀h:Nat,LW (.int (h:Int)) ((((List.range st.length).filter fun a=>decide (st.getD a none=st.getD l none)).map fun a=>gs.getD a none).map oV)=(List.range st.length).any fun a=>decide (st.getD a none=st.getD l none)&&decide (gs.getD a none=some h):=fun h=>by
   rw[P4,List.any_map,List.any_filter];rfl
  generalize hw:(((List.range st.length).filter fun a=>decide (st.getD a none=st.getD l none)).map fun a=>gs.getD a none)=ws at *;refine⟨_,rfl,oa,rfl,⟨_,a8.of (sm _ _ hO)⟩,eM (K:=K) (xs:=NV os) (fun j σ H3=>(∃x,σ=[some (.ref oa),some (.ref sa),some (.ref ga),some (.int (l:Int)),some (.ref D),x])/\H3=H2/\m9 st gs l os=m9 st gs l (os.drop j)) ⟨⟨_,rfl⟩,rfl,rfl⟩ (fun j σ H3 _ z=>by rw[z.2.1];exact a8.of (sm _ _ hO)) ?_ ?_⟩
  .rintro j x σ H3 hx ⟨⟨x5,rfl⟩,rfl,ef⟩;obtain⟨h,hv,rfl⟩:=pW hx;have hj:j<os.length:=(eR.mp hv).1;have ed:os.drop j=h::os.drop (j+1):=by
    rw[qh hj];congr 1;exact(eR.mp hv).2
   refine⟨_,rfl,_,rfl,D,_,rfl,.inl (a8.of jy),rfl,mB,_,rfl,?_⟩;have ef2:m9 st gs l (h::os.drop (j+1))=if (!LW (.int (h:Int)) (ws.map oV))=true then some h else m9 st gs l (os.drop (j+1)):=by
    rw[ein];unfold m9;rw[lQ];cases (!((List.range st.length).any fun a=>decide (st.getD a none=st.getD l none)&&decide (gs.getD a none=some h))) <;> rfl
   rw[ed,ef2] at ef;refine gU (fun c=>?_) (fun c=>?_)
   .have c:(!LW (.int (h:Int)) (ws.map oV))=true:=c;rw[ap c] at ef;refine⟨_,rfl,?_⟩;have:=q H3 sm;rw[ef] at this;exact this
   .have c:¬ (!LW (.int (h:Int)) (ws.map oV))=true:=c;rw[ao c] at ef;exact⟨⟨_,rfl⟩,rfl,ef⟩
  .rintro σ H3 ⟨⟨x5,rfl⟩,rfl,ef⟩;have:=q H3 sm;rw[ef,be,List.drop_length] at this;exact this
structure lz(n:Nat)(homes:aQ)(st:bA):Prop where
 le:st.length<=16
 len:homes.length=st.length
 hs:∀x∈homes,x<n
 ss:∀y,some y∈st->y<n
theorem lz.at(S:lz n homes st)(h:l∈oU st st.length):l<st.length/\∃y,st.getD l none=some y/\y<n/\homes.getD l 0<n:=by
 obtain⟨a,b⟩:=jC h;refine⟨a,_,b,S.ss _ ?_,S.hs _ ?_⟩
 .rw[<-b,cw,cz a];exact ie _
 .rw[dD (by rw[S.len];exact a)];exact ie _
theorem W6(n:Int)(tl ol ds:Addr):(rp n tl ol ds).lookup ("good":Str)=none:=tW n tl ol ds (by decide +kernel) (by decide +kernel) (by decide +kernel) (by decide +kernel)
theorem aaA(n:Int)(tl ol ds:Addr):(rp n tl ol ds).lookup ("out":Str)=none:=tW n tl ol ds (by decide +kernel) (by decide +kernel) (by decide +kernel) (by decide +kernel)
theorem p9:(bX n ts h).length<=n:=aZ (iK _ _) (by simp)
theorem dE.N4(N:dE C H L p n ts):∃dx fs,H p=some (.ins C dx fs)/\fs.lookup ("good":Str)=none/\fs.lookup ("out":Str)=none:=by
 obtain⟨dx,tl,ol,ds,a,_⟩:=N.ob;exact⟨dx,_,a,W6 _ _ _ _,aaA _ _ _ _⟩
abbrev Ll:Stmt:=top 51
theorem Sz:Mj (oV o) (.int (h:Int))=true:=by cases o <;> rfl
theorem W7{o:Option Nat}{h:Nat}:decide (oV o=V.int (h:Int))=decide (o=some h):=by
 cases o with
 |none=>exact uv.mpr ⟨(fun z=>by cases z),(fun z=>by cases z)⟩
 |some y=>exact uv.mpr ⟨(fun z=>by injection z with z;exact congrArg some (d7 z)),(fun z=>by cases z;rfl)⟩
theorem dE.weak(N:dE C H L p n ts)(k:∀b,L b->L' b):dE C H L' p n ts:=by
 obtain⟨F',dx',tl,ol,ds,q1,q2,q3,⟨b1,c1,d1,e1⟩,⟨b2,c2,d2,e2⟩,⟨a3,zs,b3,c3,d3,e3⟩⟩:=N;exact⟨F',dx',tl,ol,ds,q1,k _ q2,k _ q3,⟨b1,c1,fun b hb=>k b (d1 b hb),e1⟩,⟨b2,c2,fun b hb=>k b (d2 b hb),e2⟩,⟨k _ a3,zs,b3,c3,fun z hz=>k _ (d3 z hz),e3⟩⟩
theorem mY.mD(t:mY Pt H)(s:aO p H H')(hp:bn H p):mY Pt H':=by
 obtain⟨a,b,e,_⟩:=hp;rcases t with z|⟨c,z,y⟩
 .exact .inl (s _ _ z (by rintro rfl;rw[z] at e;cases e))
 .exact .inr ⟨c,s _ _ z (by rintro rfl;rw[z] at e;cases e),s _ _ y (by rintro rfl;rw[y] at e;cases e)⟩
theorem bK.weak(R:bK H L l n r)(k:∀b,L b->L' b):bK H L' l n r:=let ⟨bs,a,b,c⟩:=R;⟨bs,a,fun x hx=>k x (b x hx),c⟩
def Fx(Pt p:Addr)(H H':Hp):Prop:=∀b o,H b=some o->b≠Pt->b≠p->H' b=some o
structure rC(C:Addr)(H0 H:Hp)(t px oa fa ha sa:Addr)(n:Nat)(ts:Ts)(homes:aQ)(st:bA):Prop where
 tu:H t=some (.tup [.ref px,.ref oa,.ref fa,.ref ha,.ref sa])
 net:dE C H (fun b=>H0 b=none) px n ts
 px:H0 px=none
 out:bK H (fun b=>H0 b=none) oa n (bX n ts)
 oa:H0 oa=none
 far:bK H (fun b=>H0 b=none) fa n (fun h=>(List.range n).map (far ts h))
 fa:H0 fa=none
 ha:H ha=some (.tup (NV homes))
 sa:H sa=some (.tup (st.map oV))
 le:st.length<=16
 sd:kH n ts homes st
theorem rD:aN ["_law_pot_here","_law_many","_law_ties","_law_outs_here","_law_homes","_law_stand"] ["_law_pot_here"] (aw Ll):=dW (by decide +kernel)
def DT(C Pt:Addr):Sp:=fun vs H Q _=>∃p:Addr,vs=[.ref p]/\bn H p/\mY Pt H/\
 ∀ (t px oa fa ha sa:Addr) (n:Nat) (ts:Ts) (homes:aQ) (st:bA) (H':Hp),Fx Pt p H H'->bn H' p->mY Pt H'->rC C H H' t px oa fa ha sa n ts homes st->Q (.ref t) H'
theorem N6(F:iH K "_law_case" "_law_case" Ll f fd)(T:NT K mg C)(M:Mk K C fI)(bI:lw K fdI ["self","many","ties"] [])(GI:bU P w K mg base bo 7 fI fdI ["self","many","ties"] (Dy C Pt))(NE:d9 P w K mg base bo 3 "_law_net" ["_law_pot_here"] Le)(OU:d9 P w K mg base bo 1 "_law_outs" ["_law_many","_law_ties"] yN)(ST:d9 P w K mg base bo 2 "_law_start" ["_law_pot_here","_law_outs_here"] yO)(FA:d9 P w K mg base bo 1 "_law_far" ["_law_outs_here"] DO):
  bU P w K mg base bo 9 f fd ["_law_pot_here"] (DT C Pt):=by
 refine F.ok rD (fun vs H Q E h=>?_) (fun fX A outer s H vs Q E hr h=>?_)
 .obtain⟨p,rfl,_⟩:=h;rfl
 .obtain⟨p,rfl,hp,tb,q⟩:=h;have h1:df 1 _:=hr.mono (by decide);have h2:df 2 _:=hr.mono (by decide);have h3:df 3 _:=hr.mono (by decide);refine⟨_,(ak (d8 (aH NE h3 aM (aa (pv 0) ag)) (dX (n:=2) rfl (aE (aA (i:=1) rD.nd rfl aL) (aE (aA (i:=2) rD.nd rfl aL) cM))))
   (ak (aW (i:=3) rD.nd rfl aL (aH OU h1 aM (aa (pv 1) (aa (pv 2) ag))))
   (ak (d8 (aH ST h2 aM (aa (pv 0) (aa (pv 3) ag))) (dX (n:=2) rfl (aE (aA (i:=4) rD.nd rfl aL) (aE (aA (i:=5) rD.nd rfl aL) cM))))
   (av (bh (bT (aa (Eu M GI hr rfl T.Ng bI .nil aM (aa (pv 1) (aa (pv 2) ag))) (aa (pv 3) (aa (aH FA h1 aM (aa (pv 3) ag)) (aa (pv 4) (aa (pv 5) ag))))))))))),?_⟩
  refine⟨_,rfl,p,rfl,hp,fun t0 r n zs H1 s1 mW ht0 ht1 HI Dz P1 F1=>⟨t0,_,rfl,cu.of ht1,rfl,_,_,rfl,_,_,rfl,rfl,?_⟩⟩;refine⟨_,rfl,_,rfl,n,r,zs,rfl,Dz,P1,F1,fun oa H2 s2 Y4 R2=>?_⟩;have fr1:∀ {b:Addr},H1 b=none->H b=none:=fun h=>s1.free mW.full h;refine⟨_,rfl,_,rfl,p,oa,n,zp zs,_,rfl,F1.n1,F1.n2,mW.same s2,R2,Y4,fun z=>mW.full z,fun t3 ha sa homes st H3 s3 nB ht3 hha hsa sl SD=>⟨t3,_,rfl,cu.of ht3,rfl,_,_,rfl,_,_,rfl,rfl,?_⟩⟩;have R3:=R2.keep Y4 fun b o l e=>s3 b o e fun z=>mW.full (z ▸ l);have nrp:r≠p:=hp.ne HI;have DU:=s3 _ _ (s2 _ _ Dz) nrp;have RD:=(P1.same s2).r0 s3 (mW.same s2);have L_:aO p H H3:=(s1.trans (aO.of s2)).trans s3;have t3':=tb.mD L_ hp;refine⟨_,rfl,_,rfl,fun px dx nx ndx Y5=>?_⟩;have sN:aI H3 (upd (upd H3 dx (.own px)) px (.ins C dx [])):=(aj (o:=.own px) ndx).trans (aj (D:=px) (o:=.ins C dx []) (by rw[aq Y5.symm];exact nx));refine⟨px,dx,n,r,zs,rfl,ae,⟨F1,sN _ _ DU,RD.same sN⟩,t3'.same sN,fun H5 N5 t5 s5=>⟨rfl,?_⟩⟩;have W8:∀b o,H3 b=some o->(∀ps,o≠.jo ps)->H5 b=some o:=fun b o e nt=>s5 b o (sN _ _ e) (am e nx) ((t3'.same sN).not (sN _ _ e) nt);have LP:∀ {b:Addr},H3 b=none->H b=none:=fun h=>L_.free nB.full h;have aaB:∀ {b:Addr},(upd (upd H3 dx (.own px)) px (.ins C dx [])) b=none->H b=none:=fun h=>LP (sN.free h);have nl:∀ {xs:bg} (ps),HO.lst xs≠.jo ps:=fun ps z=>by cases z
  have nt:∀ {xs:bg} (ps),HO.tup xs≠.jo ps:=fun ps z=>by cases z
  obtain⟨bs,b1,b2,b3⟩:=R3;have R5:bK H5 (fun a=>H1 a=none) oa n (bX n (zp zs)):=⟨bs,W8 _ _ b1 nl,b2,b3.mono fun j hj e=>W8 _ _ e nl⟩
  have w9:bn H5 p:=by obtain⟨x,y,e,r⟩:=nB;exact⟨x,y,W8 _ _ e nl,r⟩
  have kp:Fx Pt p H H5:=fun b o e n m=>s5 b o (sN _ _ (L_ _ _ e m)) (am (L_ _ _ e m) nx) n;refine⟨_,rfl,_,rfl,_,oa,n,zp zs,rfl,F1,R5,fun fa H6 s6 Y6 R6=>⟨_,rfl,_,rfl,by show 5<=sizeLine;decide,fun t ht=>?_⟩⟩;have sT:=aj (o:=.tup [.ref px,.ref oa,.ref fa,.ref ha,.ref sa]) ht;have SA:=s6.trans sT;have Qr:∀ {b:Addr},H5 b=none->H b=none:=fun {b} h=>by
   cases e:H b with
   |none=>rfl
   |some o=>
    by_cases m:b=p
    .subst m;exact absurd h w9.full
    .by_cases z:b=Pt
     .subst z;rcases t5 with y|⟨c,y,_⟩ <;> (rw[h] at y;cases y)
     .rw[s5 b o (sN _ _ (L_ _ _ e m)) (am (L_ _ _ e m) nx) z] at h;cases h
  refine q t px oa fa ha sa n (zp zs) homes st _ (fun b o e n m=>SA _ _ (kp b o e n m)) (w9.same SA) (t5.same SA) ⟨ae,(N5.same SA).weak fun b hb=>aaB hb,LP nx,(R5.weak fun b hb=>fr1 hb).keep (fr1 Y4) (fun b o _ e=>SA _ _ e),fr1 Y4,(R6.weak fun b hb=>Qr hb).keep (Qr Y6) (fun b o _ e=>sT _ _ e),Qr Y6,SA _ _ (W8 _ _ hha nt),SA _ _ (W8 _ _ hsa nt),sl,SD⟩
theorem kH.let(S:kH n ts homes st)(le:st.length<=16):lz n homes st:=⟨le,S.len,S.hs,fun y hy=>by obtain⟨i,hi⟩:=xq.mp hy;exact(S.ss i y hi).1⟩
def N7(o:HO):Prop:=∀ps,o≠.jo ps
theorem dE.W9(N:dE C H L p n ts):dE C H (fun b=>L b/\∃o,H b=some o/\N7 o) p n ts:=by
 obtain⟨dx,tl,ol,ds,a,l1,l2,b,c,d⟩:=N.ob;have ne:∀ {b xs},L b->H b=some (.lst xs)->L b/\∃o,H b=some o/\N7 o:=fun l e=>⟨l,_,e,fun ps z=>by cases z⟩
 have ne':∀ {b xs},L b->H b=some (.tup xs)->L b/\∃o,H b=some o/\N7 o:=fun l e=>⟨l,_,e,fun ps z=>by cases z⟩
 have vO:∀ {l r},L l->bK H L l n r->bK H (fun b=>L b/\∃o,H b=some o/\N7 o) l n r/\(L l/\∃o,H l=some o/\N7 o):=fun hl ⟨bs,a,b,c⟩=>⟨⟨bs,a,fun x hx=>by
  obtain⟨j,hj,e⟩:=ug hx;have:=c.2 j (by rw[<-c.1];exact hj);rw[cw,cz hj,qy,e] at this;exact ne (b x hx) this,c⟩,ne hl a⟩
 obtain⟨t1,zs,t2,t3,t4,t5⟩:=d;exact⟨N.lD,dx,tl,ol,ds,a,(vO l1 b).2,(vO l2 c).2,(vO l1 b).1,(vO l2 c).1,ne t1 t2,zs,t2,t3,fun z hz=>ne' (t4 z hz) (t3 z hz),t5⟩
theorem _root_.L2.dU.not(t:dU lp q Pt H)(h:H b=some o)(n:∀ps,o≠.jo ps):b≠Pt:=by
 rintro rfl;rcases t with z|⟨c,z,_⟩ <;> · rw[h] at z;exact n _ (cB z)
theorem _root_.L2.dU.same(t:dU lp q Pt H)(e:aI H H'):dU lp q Pt H':=by
 rcases t with z|⟨c,z,y⟩
 .exact .inl (e _ _ z)
 .exact .inr ⟨c,e _ _ z,e _ _ y⟩
def yR(st:Stmt)(i:Nat):Expr:=match (cP st).getD i (.Pass ⟨0,0,0,0⟩) with
 |.Return (some (.Call _ _ (k::_) _)) _=>k.value
 |_=>.Name "x" ⟨0,0,0,0⟩
def Y7:Expr->Arguments
 |.Lambda a _ _ _=>a
 |_=>{ posonlyargs:=[],args:=[],vararg:=none,kwonlyargs:=[],kw_defaults:=[],kwarg:=none,defaults:=[] }
def P5:Expr->Expr
 |.Lambda _ b _ _=>b
 |e=>e
def P6:Expr->Scope
 |.Lambda _ _ s _=>s
 |_=>{ kind:=.function,names:=[],isGenerator:=false,isCoroutine:=false }
def Y8:Expr->Pos
 |.Lambda _ _ _ p=>p
 |_=>⟨0,0,0,0⟩
theorem df.lam(r:df (k+3) A)(env:Env):df k (A.in1.in1.deeper env):=r.in1.in1.deeper env
theorem mU:(oU st i).Pairwise (·<·):=BK _ List.pairwise_lt_range
noncomputable def jD(ts:Ts)(homes:aQ)(st:bA)(l:Nat):Int:=((far ts ((st.getD l none).getD 0) (homes.getD l 0):Nat):Int)
theorem p_(s1:aI H H1)(t2:dU lp q PN H2)(iz:∀b o,H1 b=some o->b≠PN->H2 b=some o)(s3:aI H2 H3)(DU:H3 r=none):H r=none:=by
 have h2:H2 r=none:=s3.free DU;cases z:H r with
 |none=>rfl
 |some o=>
  by_cases e:r=PN
  .subst e;rcases t2 with q|⟨_,q,_⟩ <;> (rw[h2] at q;cases q)
  .rw[iz r o (s1 _ _ z) e] at h2;cases h2
def yS(CR:Addr)(H:Hp)(rx:Addr)(ranks:dG):Prop:=∃rd ra,H rx=some (.ins CR rd [("ranks",.ref ra)])/\H ra=some (.tup (ranks.map V.int))
theorem yS.same{CR:Addr}{H H':Hp}{rx:Addr}{ranks:dG}(h:yS CR H rx ranks)(s:aI H H'):yS CR H' rx ranks:=let ⟨rd,ra,a,b⟩:=h;⟨rd,ra,s _ _ a,s _ _ b⟩
structure Y9(K:a_)(mg:cr)(CR:Addr):Prop where
 cl:HW K CR
 nR:je K CR "ranks"
 Ng:mg "Ranked"=some (.ref CR)
theorem W_:([("ranks",v)]:rK).lookup ("check_letters":Str)=none:=by
 rw[gX];rw[show (("check_letters":Str)==("ranks":Str))=false by decide +kernel];rfl
theorem P7:([("ranks",v)]:rK).lookup ("ranks":Str)=some v:=by
 rw[gX];rw[show (("ranks":Str)==("ranks":Str))=true by decide +kernel]
abbrev yT:Stmt:=gw (top 21) 0
abbrev Lm:Stmt:=gw (top 21) 1
theorem N8:(["rank"]:bQ).Nodup:=by decide +kernel
abbrev xb:Stmt:=gw (top 18) 0
def UC:Expr:=yR xb 0
def nrQ:Str:=("Nearest.order":Str)++".<locals>."++"<lambda>"
abbrev yU(PN:Addr)(H:Hp):Prop:=dU (Y8 UC) nrQ PN H
abbrev xc:Stmt:=gw (top 19) 0
def UD:Expr:=yR xc 0
def ftQ:Str:=("Farthest.order":Str)++".<locals>."++"<lambda>"
abbrev yV(PN:Addr)(H:Hp):Prop:=dU (Y8 UD) ftQ PN H
abbrev xf:Stmt:=gw (top 20) 0
def UE:Expr:=yR xf 0
def trQ:Str:=("Turns.order":Str)++".<locals>."++"<lambda>"
abbrev yW(PN:Addr)(H:Hp):Prop:=dU (Y8 UE) trQ PN H
abbrev xg:Stmt:=gw (top 21) 2
def UF:Expr:=yR xg 1
def rkQ:Str:=("Ranked.order":Str)++".<locals>."++"<lambda>"
abbrev yX(PN:Addr)(H:Hp):Prop:=dU (Y8 UF) rkQ PN H
theorem SB:aN ["self","net","homes","stand","beat"] ["self","net","homes","stand","beat"] (aw xb):=dW (by decide +kernel)
def DV(C PN:Addr):Sp:=fun vs H Q _=>∃ (L:iP) (x0 x4:V) (px ha sa:Addr) (n:Nat) (ts:Ts) (homes:aQ) (st:bA),vs=[x0,.ref px,.ref ha,.ref sa,x4]/\dE C H L px n ts/\H ha=some (.tup (NV homes))/\H sa=some (.tup (st.map oV))/\lz n homes st/\yU PN H/\
 ∀ (r:Addr) (H':Hp) (out:aQ),yU PN H'->mn PN H H'->H r=none->out.Perm (oU st st.length)->out.Pairwise (zn (jD ts homes st))->H' r=some (.lst (NV out))->Q (.ref r) H'
theorem Xa(F:sI K "order" "Nearest.order" xb f fd c)(B:Bl mg)(kb:K.In base)(hb:q9 mg base)(hc:W.codeHdIn K c PN=true)(T:NT K mg C)(MF:jW P w K mg base bo 5 C "far" ["self","one","other"] (oB C))(UW:d9 P w K mg base bo 1 "under_way" ["stand"] DS):
  bU P w K mg base bo 9 f fd ["self","net","homes","stand","beat"] (DV C PN):=by
 obtain⟨fF,fdF,mF,bF,GF⟩:=MF.ex;refine F.ok SB (fun vs H Q E h=>?_) (fun A outer s H vs Q E hr h=>?_)
 .obtain⟨L,x0,x4,px,ha,sa,n,ts,homes,st,rfl,_⟩:=h;rfl
 .obtain⟨L,x0,x4,px,ha,sa,n,ts,homes,st,rfl,N,hH,hS,LO,tb,q⟩:=h;have h1:df 1 _:=hr.mono (by decide);have LF:AG (l8 bo P w K mg base ["self","net","homes","stand","beat"] "Nearest.order" (aw xb) f (.ref c) A outer s H E).Bd ["letter","net","stand","homes"] [none,some 1,some 3,some 2] (P6 UC) nrQ (Y7 UC) (P5 UC) "letter":=
   ⟨bz (by kernel_rfl),fun _ _ _ _ _=>rfl,rfl,rfl,rfl,by decide +kernel,rfl,rfl⟩
  have PB:∀f' c' dJ s' H',PE (rX (l8 bo P w K mg base ["self","net","homes","stand","beat"] "Nearest.order" (aw xb) f (.ref c) A outer s H E).Bd ["letter","net","stand","homes"] (P6 UC) dJ nrQ f' c' s' H') (P5 UC) (Et C "far" (oB C) [] E0 (bb 1) (bJ (jR (zV K) (bb 2) (bb 0)) (bJ (jR (zV K) (bb 3) (bb 0)) h_))):=fun f' c' dJ s' H'=>
   eZ (pv 1) T.cl mF GF (df.lam hr _) bF .nil aM (aa (aX eN (pv 2) (pv 0) (fun _ _=>rfl)) (aa (aX eN (pv 3) (pv 0) (fun _ _=>rfl)) ag))
  refine⟨_,(av (bh (km (ln hr LF PB) rfl B.sorted nF (aa (aH UW h1 aM (aa (pv 3) ag)) ag) (ph (u8 (NB:=["letter","net","stand","homes"]) (src:=[none,some 1,some 3,some 2]) (pG kb hb hc) (bz (by kernel_rfl))) uR)))),?_⟩;refine⟨_,rfl,sa,st,rfl,hS,LO.le,fun l H1 s1 QG hl=>?_⟩;have t1:=tb.same s1;refine⟨t1,fun f' c' H2 t2 iz zD z9=>?_⟩;have wb:∀ {b o},H1 b=some o->(∀ps,o≠.jo ps)->H2 b=some o:=fun e n=>iz _ _ e (t1.not e n);have HY:=wb hl nofun;have UG:=wb (s1 _ _ hH) nofun;have Il:=wb (s1 _ _ hS) nofun;obtain⟨dx0,fs0,i0⟩:∃dx fs,H1 px=some (.ins C dx fs):=by obtain⟨dx,tl,ol,ds,a,_⟩:=(N.same s1).ob;exact⟨dx,_,a⟩
  have N2:=(N.same s1).W9.keep (H':=H2) (fun b o l e=>by obtain⟨_,o',e',n⟩:=l;rw[e] at e';cases e';exact wb e n) (fun o e=>wb e (by rw[i0] at e;cases e;intro ps z;cases z));refine⟨l,f',c',oU st st.length,(jD ts homes st),rfl,rfl,a8.of HY,eK jB (by have:=LO.le;lia),mU,fun n hn=>by have:=(jC hn).1;have:=LO.le;lia,z9,zD,fun m hm H3 s3=>?_,fun r H3 out s3 DU op pw=>?_⟩
  .obtain⟨K6,y,ey,hy,HJ⟩:=LO.at hm;have N3:=N2.same s3;obtain⟨dx,tl,ol,ds,i1,_⟩:=N3.ob;refine⟨_,rfl,px,dx,_,rfl,i1,Rp _ _ _ _,_,rfl,_,rfl,sa,_,_,_,rfl,rfl,cu.of (s3 _ _ Il),aD (kI K6),_,rfl,_,rfl,ha,_,_,_,rfl,rfl,cu.of (s3 _ _ UG),aD (iS (by rw[LO.len];exact K6)),?_⟩;rw[ey];refine⟨_,px,n,ts,y,homes.getD m 0,rfl,N3,hy,HJ,?_,aI.refl _⟩;unfold jD;rw[ey];rfl
  .have sm:=aj (o:=.lst (NV out)) DU;exact q r _ out ((dU.same t2 s3).same sm) (fun b o e n=>sm _ _ (s3 _ _ (iz _ _ (s1 _ _ e) n))) (p_ s1 t2 iz s3 DU) op pw ae
theorem SC:aN ["self","net","homes","stand","beat"] ["self","net","homes","stand","beat"] (aw xc):=dW (by decide +kernel)
def DW(C PN:Addr):Sp:=fun vs H Q _=>∃ (L:iP) (x0 x4:V) (px ha sa:Addr) (n:Nat) (ts:Ts) (homes:aQ) (st:bA),vs=[x0,.ref px,.ref ha,.ref sa,x4]/\dE C H L px n ts/\H ha=some (.tup (NV homes))/\H sa=some (.tup (st.map oV))/\lz n homes st/\yV PN H/\
 ∀ (r:Addr) (H':Hp) (out:aQ),yV PN H'->mn PN H H'->H r=none->out.Perm (oU st st.length)->out.Pairwise (zn (fun l=>-jD ts homes st l))->H' r=some (.lst (NV out))->Q (.ref r) H'
theorem Xb(F:sI K "order" "Farthest.order" xc f fd c)(B:Bl mg)(kb:K.In base)(hb:q9 mg base)(hc:W.codeHdIn K c PN=true)(T:NT K mg C)(MF:jW P w K mg base bo 5 C "far" ["self","one","other"] (oB C))(UW:d9 P w K mg base bo 1 "under_way" ["stand"] DS):
  bU P w K mg base bo 9 f fd ["self","net","homes","stand","beat"] (DW C PN):=by
 obtain⟨fF,fdF,mF,bF,GF⟩:=MF.ex;refine F.ok SC (fun vs H Q E h=>?_) (fun A outer s H vs Q E hr h=>?_)
 .obtain⟨L,x0,x4,px,ha,sa,n,ts,homes,st,rfl,_⟩:=h;rfl
 .obtain⟨L,x0,x4,px,ha,sa,n,ts,homes,st,rfl,N,hH,hS,LO,tb,q⟩:=h;have h1:df 1 _:=hr.mono (by decide);have LF:AG (l8 bo P w K mg base ["self","net","homes","stand","beat"] "Farthest.order" (aw xc) f (.ref c) A outer s H E).Bd ["letter","net","stand","homes"] [none,some 1,some 3,some 2] (P6 UD) ftQ (Y7 UD) (P5 UD) "letter":=
   ⟨bz (by kernel_rfl),fun _ _ _ _ _=>rfl,rfl,rfl,rfl,by decide +kernel,rfl,rfl⟩
  have PB:∀f' c' dJ s' H',PE (rX (l8 bo P w K mg base ["self","net","homes","stand","beat"] "Farthest.order" (aw xc) f (.ref c) A outer s H E).Bd ["letter","net","stand","homes"] (P6 UD) dJ ftQ f' c' s' H') (P5 UD) (tUn (rU fun i=>.int (-i)) (Et C "far" (oB C) [] E0 (bb 1) (bJ (jR (zV K) (bb 2) (bb 0)) (bJ (jR (zV K) (bb 3) (bb 0)) h_)))):=fun f' c' dJ s' H'=>
   zN uP (eZ (pv 1) T.cl mF GF (df.lam hr _) bF .nil aM (aa (aX eN (pv 2) (pv 0) (fun _ _=>rfl)) (aa (aX eN (pv 3) (pv 0) (fun _ _=>rfl)) ag)))
  refine⟨_,(av (bh (km (ln hr LF PB) rfl B.sorted nF (aa (aH UW h1 aM (aa (pv 3) ag)) ag) (ph (u8 (NB:=["letter","net","stand","homes"]) (src:=[none,some 1,some 3,some 2]) (pG kb hb hc) (bz (by kernel_rfl))) uR)))),?_⟩;refine⟨_,rfl,sa,st,rfl,hS,LO.le,fun l H1 s1 QG hl=>?_⟩;have t1:=tb.same s1;refine⟨t1,fun f' c' H2 t2 iz zD z9=>?_⟩;have wb:∀ {b o},H1 b=some o->(∀ps,o≠.jo ps)->H2 b=some o:=fun e n=>iz _ _ e (t1.not e n);have HY:=wb hl nofun;have UG:=wb (s1 _ _ hH) nofun;have Il:=wb (s1 _ _ hS) nofun;obtain⟨dx0,fs0,i0⟩:∃dx fs,H1 px=some (.ins C dx fs):=by obtain⟨dx,tl,ol,ds,a,_⟩:=(N.same s1).ob;exact⟨dx,_,a⟩
  have N2:=(N.same s1).W9.keep (H':=H2) (fun b o l e=>by obtain⟨_,o',e',n⟩:=l;rw[e] at e';cases e';exact wb e n) (fun o e=>wb e (by rw[i0] at e;cases e;intro ps z;cases z));refine⟨l,f',c',oU st st.length,(fun l=>-jD ts homes st l),rfl,rfl,a8.of HY,eK jB (by have:=LO.le;lia),mU,fun n hn=>by have:=(jC hn).1;have:=LO.le;lia,z9,zD,fun m hm H3 s3=>?_,fun r H3 out s3 DU op pw=>?_⟩
  .obtain⟨K6,y,ey,hy,HJ⟩:=LO.at hm;have N3:=N2.same s3;obtain⟨dx,tl,ol,ds,i1,_⟩:=N3.ob;refine⟨_,rfl,px,dx,_,rfl,i1,Rp _ _ _ _,_,rfl,_,rfl,sa,_,_,_,rfl,rfl,cu.of (s3 _ _ Il),aD (kI K6),_,rfl,_,rfl,ha,_,_,_,rfl,rfl,cu.of (s3 _ _ UG),aD (iS (by rw[LO.len];exact K6)),?_⟩;rw[ey];refine⟨_,px,n,ts,y,homes.getD m 0,rfl,N3,hy,HJ,_,rfl,?_,aI.refl _⟩;unfold jD;dsimp only;rw[ey];rfl
  .have sm:=aj (o:=.lst (NV out)) DU;exact q r _ out ((dU.same t2 s3).same sm) (fun b o e n=>sm _ _ (s3 _ _ (iz _ _ (s1 _ _ e) n))) (p_ s1 t2 iz s3 DU) op pw ae
theorem SE:aN ["self","net","homes","stand","beat"] ["self","net","homes","stand","beat"] (aw xf):=dW (by decide +kernel)
def DX(PN:Addr):Sp:=fun vs H Q _=>∃ (x0 x1:V) (bt:Int) (ha sa:Addr) (n:Nat) (homes:aQ) (st:bA),vs=[x0,x1,.ref ha,.ref sa,.int bt]/\0<=bt/\H ha=some (.tup (NV homes))/\H sa=some (.tup (st.map oV))/\lz n homes st/\yW PN H/\
 ∀ (r:Addr) (H':Hp) (out:aQ),yW PN H'->mn PN H H'->H r=none->out.Perm (oU st st.length)->out.Pairwise (zn (fun l=>((l:Nat)+bt) % ((homes.length:Nat):Int)))->H' r=some (.lst (NV out))->Q (.ref r) H'
theorem Xc(F:sI K "order" "Turns.order" xf f fd c)(B:Bl mg)(kb:K.In base)(hb:q9 mg base)(hc:W.codeHdIn K c PN=true)(UW:d9 P w K mg base bo 1 "under_way" ["stand"] DS):
  bU P w K mg base bo 9 f fd ["self","net","homes","stand","beat"] (DX PN):=by
 refine F.ok SE (fun vs H Q E h=>?_) (fun A outer s H vs Q E hr h=>?_)
 .obtain⟨x0,x1,bt,ha,sa,n,homes,st,rfl,_⟩:=h;rfl
 .obtain⟨x0,x1,bt,ha,sa,n,homes,st,rfl,b0,hH,hS,LO,tb,q⟩:=h;have h1:df 1 _:=hr.mono (by decide);have LF:AG (l8 bo P w K mg base ["self","net","homes","stand","beat"] "Turns.order" (aw xf) f (.ref c) A outer s H E).Bd ["letter","beat","homes"] [none,some 4,some 2] (P6 UE) trQ (Y7 UE) (P5 UE) "letter":=
   ⟨bz (by kernel_rfl),fun _ _ _ _ _=>rfl,rfl,rfl,rfl,by decide +kernel,rfl,rfl⟩
  have PB:∀f' c' dJ s' H',PE (rX (l8 bo P w K mg base ["self","net","homes","stand","beat"] "Turns.order" (aw xf) f (.ref c) A outer s H E).Bd ["letter","beat","homes"] (P6 UE) dJ trQ f' c' s' H') (P5 UE) (jR (rI (fun _ j=>0<j) fun i j=>.int (i % j)) (jR (zM fun i j=>.int (i+j)) (bb 0) (bb 1)) (Vi (fun xs H Q=>∃p ys,xs=[V.ref p]/\(a8 K H p ys\/cu K H p ys)/\Q (.int ys.length) H) (bJ (bb 2) h_))):=fun f' c' dJ s' H'=>
   a9 jd (a9 dM (pv 0) (pv 1)) (aJ aV (by rfl) B.len fc (aa (pv 2) ag))
  refine⟨_,(av (bh (km (ln hr LF PB) rfl B.sorted nF (aa (aH UW h1 aM (aa (pv 3) ag)) ag) (ph (u8 (NB:=["letter","beat","homes"]) (src:=[none,some 4,some 2]) (pG kb hb hc) (bz (by kernel_rfl))) uR)))),?_⟩;refine⟨_,rfl,sa,st,rfl,hS,LO.le,fun l H1 s1 QG hl=>?_⟩;have t1:=tb.same s1;refine⟨t1,fun f' c' H2 t2 iz zD z9=>?_⟩;have wb:∀ {b o},H1 b=some o->(∀ps,o≠.jo ps)->H2 b=some o:=fun e n=>iz _ _ e (t1.not e n);have HY:=wb hl nofun;have UG:=wb (s1 _ _ hH) nofun;have Il:=wb (s1 _ _ hS) nofun;refine⟨l,f',c',oU st st.length,(fun l=>((l:Nat)+bt) % ((homes.length:Nat):Int)),rfl,rfl,a8.of HY,eK jB (by have:=LO.le;lia),mU,fun n hn=>by have:=(jC hn).1;have:=LO.le;lia,z9,zD,fun m hm H3 s3=>?_,fun r H3 out s3 DU op pw=>?_⟩
  .obtain⟨K6,y,ey,hy,HJ⟩:=LO.at hm;refine⟨_,rfl,_,rfl,_,_,rfl,rfl,_,rfl,ha,_,rfl,.inr (cu.of (s3 _ _ UG)),_,_,rfl,rfl,?_,?_,aI.refl _⟩
   .rw[be,LO.len];lia
   .rw[be]
  .have sm:=aj (o:=.lst (NV out)) DU;exact q r _ out ((dU.same t2 s3).same sm) (fun b o e n=>sm _ _ (s3 _ _ (iz _ _ (s1 _ _ e) n))) (p_ s1 t2 iz s3 DU) op pw ae
theorem SF:aN ["self","homes"] ["self","homes"] (aw Lm):=dW (by decide +kernel)
def DY(CR:Addr):Sp:=fun vs H Q _=>∃ (rx ha:Addr) (ranks:dG) (homes:aQ),vs=[.ref rx,.ref ha]/\yS CR H rx ranks/\H ha=some (.tup (NV homes))/\ranks.length=homes.length/\Q .cI H
theorem N9{f CR:Addr}{fd:eA}(F:iH K "check_letters" "Ranked.check_letters" Lm f fd)(B:Bl mg)(RT:Y9 K mg CR):bU P w K mg base bo 1 f fd ["self","homes"] (DY CR):=by
 refine F.ok SF (fun vs H Q E h=>?_) (fun fX A outer s H vs Q E hr h=>?_)
 .obtain⟨rx,ha,ranks,homes,rfl,_⟩:=h;rfl
 .obtain⟨rx,ha,ranks,homes,rfl,⟨rd,ra,g1,g2⟩,hH,rl,q⟩:=h;refine⟨_,(av (dS (aY zO (aJ aV (by rfl) B.len fc (aa (k8 (pv 0) rfl) ag)) (aJ aV (by rfl) B.len fc (aa (pv 1) ag)) (bp _)) ff b8)),?_⟩;exact⟨_,rfl,rx,CR,rd,_,_,rfl,g1,RT.cl,RT.nR,P7,ra,_,rfl,.inr (cu.of g2),_,rfl,ha,_,rfl,.inr (cu.of hH),rfl,_,rfl,r6 (by rw[aT,be,rl];simp) q⟩
theorem N_:aN ["self","ranks"] ["self","ranks"] (aw yT):=dW (by decide +kernel)
def yY(CR:Addr):Sp:=fun vs H Q _=>∃ (p dx ra:Addr) (ranks:dG),vs=[.ref p,.ref ra]/\H p=some (.ins CR dx [])/\H ra=some (.tup (ranks.map V.int))/\ranks.length<=16/\∀H',yS CR H' p ranks->aO p H H'->Q .cI H'
theorem Ln{f CR:Addr}{fd:eA}(F:iH K "__init__" "Ranked.__init__" yT f fd)(B:Bl mg)(RT:Y9 K mg CR)(WH:d9 P w K mg base bo 1 "is_whole" ["thing"] (pR K)):bU P w K mg base bo 2 f fd ["self","ranks"] (yY CR):=by
 refine F.ok N_ (fun vs H Q E h=>?_) (fun fX A outer s H vs Q E hr h=>?_)
 .obtain⟨p,dx,ra,ranks,rfl,_⟩:=h;rfl
 .obtain⟨p,dx,ra,ranks,rfl,hp,Ma,rl,q⟩:=h;refine'⟨_,(ak (dS (PW.pt (El (oj (jQ (aJ jf (by rfl) B.Pw rH (aa (pv 1) (aa (kZ (v:=.ty "tuple") rfl B.tup oX rfl) ag))))) (Cj (oj (jQ (aJ (GE rfl) (by rfl) B.all PyProof.Rows.boot_all (aa ?c1 ag))))))) ff b8)
   (av (uQ (pv 0) (pv 1) rfl))),?_⟩
  case c1=>
   refine' cQ (g:=(bH 0)) (te:=rN (pR K) [] E0 (bJ (bb 0) h_)) (NB:=["rank"]) (src:=[none]) (bz (by kernel_rfl)) rfl (Co (pv 1)) ?g ?t ?e;case g=>exact fun cl C s₃ H₃ fp=>(aA (i:=0) N8 rfl aL cW)
   case t=>exact fun cl C s₃ H₃ fp=>dC
   case e=>exact fun cl C s₃ H₃ fp=>aH WH hr aM (aa (pv 0) ag)
  refine⟨_,rfl,_,_,_,.type "tuple",true,rfl,⟨rfl,yx⟩,.of (.tup Ma),_,rfl,jS ?_⟩;refine⟨_,rfl,ra,rfl,⟨_,cu.of Ma⟩,fun D hD=>?_⟩;refine vB (K:=K) (a:=ra) (xs:=ranks.map V.int) (fun i ys σ H2=>(∃x,σ=[x])/\aI H H2/\H2 D=some (.lst ys)/\ys=(List.replicate i true).map V.bl) ⟨⟨_,rfl⟩,aj hD,ae,rfl⟩ (fun i ys σ H2 _ z=>cu.of (z.2.1 _ _ Ma)) ?_ ?_
  .rintro i x ys σ H2 Kt Kf hx ⟨⟨x',rfl⟩,sm,jy,rfl⟩ kt kf;have hi:i<ranks.length:=by have:=(eR.mp hx).1;rwa [aT] at this
   rw[cA,cz hi] at hx;cases hx;refine⟨_,rfl,_,_,rfl,.int _,?_⟩;exact kt _ _ _ jy (by rw[aT,i9];exact bv (show i<17 by lia) (by decide)) ⟨⟨_,rfl⟩,bj sm hD,ae,by rw[ud,dt];rfl⟩
  .rintro ys σ H2 ⟨_,sm,jy,rfl⟩;refine⟨D,_,rfl,a8.of jy,_,rfl,?_⟩;have e:(List.replicate (ranks.map V.int).length true).all id=true:=by
    rw[kM];intro x qQ;rw[(BS.mp qQ).2];rfl
   rw[e];refine jS ⟨_,rfl,_,rfl,p,CR,dx,[],rfl,sm _ _ hp,RT.cl,RT.nR,(by show 0<1000;decide),?_⟩;have npr:ra≠p:=by rintro rfl;rw[hp] at Ma;cases Ma
   exact q _ ⟨dx,ra,by rw[ae];rfl,by rw[aq npr];exact sm _ _ Ma⟩ (fun b o e n=>by rw[aq n];exact sm _ _ e)
theorem SG:aN ["self","net","homes","stand","beat"] ["self","net","homes","stand","beat"] (aw xg):=dW (by decide +kernel)
def DZ(CR PN:Addr):Sp:=fun vs H Q _=>∃ (x1 x4:V) (rx ha sa:Addr) (n:Nat) (ranks:dG) (homes:aQ) (st:bA),vs=[.ref rx,x1,.ref ha,.ref sa,x4]/\yS CR H rx ranks/\ranks.length=homes.length/\H ha=some (.tup (NV homes))/\H sa=some (.tup (st.map oV))/\lz n homes st/\yX PN H/\
 ∀ (r:Addr) (H':Hp) (out:aQ),yX PN H'->mn PN H H'->H r=none->out.Perm (oU st st.length)->out.Pairwise (zn (fun l=>ranks.getD l 0))->H' r=some (.lst (NV out))->Q (.ref r) H'
theorem Xd{f c CR PN:Addr}{fd:eA}(F:sI K "order" "Ranked.order" xg f fd c)(B:Bl mg)(kb:K.In base)(hb:q9 mg base)(hc:W.codeHdIn K c PN=true)(RT:Y9 K mg CR)(MC:jW P w K mg base bo 1 CR "check_letters" ["self","homes"] (DY CR))(UW:d9 P w K mg base bo 1 "under_way" ["stand"] DS):
  bU P w K mg base bo 9 f fd ["self","net","homes","stand","beat"] (DZ CR PN):=by
 obtain⟨fC,fdC,mC,bC,GC⟩:=MC.ex;refine F.ok SG (fun vs H Q E h=>?_) (fun A outer s H vs Q E hr h=>?_)
 .obtain⟨x1,x4,rx,ha,sa,n,ranks,homes,st,rfl,_⟩:=h;rfl
 .obtain⟨x1,x4,rx,ha,sa,n,ranks,homes,st,rfl,RK,rl,hH,hS,LO,tb,q⟩:=h;have h1:df 1 _:=hr.mono (by decide);have LF:AG (l8 bo P w K mg base ["self","net","homes","stand","beat"] "Ranked.order" (aw xg) f (.ref c) A outer s H E).Bd ["letter","self"] [none,some 0] (P6 UF) rkQ (Y7 UF) (P5 UF) "letter":=
   ⟨bz (by kernel_rfl),fun _ _ _ _ _=>rfl,rfl,rfl,rfl,by decide +kernel,rfl,rfl⟩
  have PB:∀f' c' dJ s' H',PE (rX (l8 bo P w K mg base ["self","net","homes","stand","beat"] "Ranked.order" (aw xg) f (.ref c) A outer s H E).Bd ["letter","self"] (P6 UF) dJ rkQ f' c' s' H') (P5 UF) (jR (zV K) (Mq K (bb 1) "ranks") (bb 0)):=fun f' c' dJ s' H'=>
   aX eN (k8 (pv 1) rfl) (pv 0) (fun _ _=>rfl)
  refine⟨_,(ak (cG (eZ (pv 0) RT.cl mC GC h1 bC .nil aM (aa (pv 2) ag))) (av (bh (km (ln hr LF PB) rfl B.sorted nF (aa (aH UW h1 aM (aa (pv 3) ag)) ag) (ph (u8 (NB:=["letter","self"]) (src:=[none,some 0]) (pG kb hb hc) (bz (by kernel_rfl))) uR))))),?_⟩;obtain⟨rd0,ra0,g10,g20⟩:=id RK;refine⟨_,rfl,rx,rd0,_,rfl,g10,W_,_,rfl,rx,ha,ranks,homes,rfl,RK,hH,rl,?_⟩;refine⟨_,rfl,sa,st,rfl,hS,LO.le,fun l H1 s1 QG hl=>?_⟩;have t1:=tb.same s1;refine⟨t1,fun f' c' H2 t2 iz zD z9=>?_⟩;have wb:∀ {b o},H1 b=some o->(∀ps,o≠.jo ps)->H2 b=some o:=fun e n=>iz _ _ e (t1.not e n);have HY:=wb hl nofun;have UG:=wb (s1 _ _ hH) nofun;have Il:=wb (s1 _ _ hS) nofun;obtain⟨rd,ra,g1,g2⟩:=RK.same s1;have g1:=wb g1 nofun;have g2:=wb g2 nofun;refine⟨l,f',c',oU st st.length,(fun l=>ranks.getD l 0),rfl,rfl,a8.of HY,eK jB (by have:=LO.le;lia),mU,fun n hn=>by have:=(jC hn).1;have:=LO.le;lia,z9,zD,fun m hm H3 s3=>?_,fun r H3 out s3 DU op pw=>?_⟩
  .obtain⟨K6,y,ey,hy,HJ⟩:=LO.at hm;refine⟨_,rfl,rx,CR,rd,_,_,rfl,s3 _ _ g1,RT.cl,RT.nR,P7,_,rfl,ra,_,_,_,rfl,rfl,cu.of (s3 _ _ g2),aD (by rw[cA,cz (show m<ranks.length by rw[rl,LO.len];exact K6)];rfl),?_,aI.refl _⟩;dsimp only;rw[cw,cz (show m<ranks.length by rw[rl,LO.len];exact K6)];rfl
  .have sm:=aj (o:=.lst (NV out)) DU;exact q r _ out ((dU.same t2 s3).same sm) (fun b o e n=>sm _ _ (s3 _ _ (iz _ _ (s1 _ _ e) n))) (p_ s1 t2 iz s3 DU) op pw ae
theorem Lo[DecidableEq α]:∀ {a b:List α},a.Nodup->(∀x∈a,x∈b)->a.length<=b.length
 |[],b,_,_=>cp _
 |x::xs,b,hn,hs=>by
  obtain⟨h1,h2⟩:=gI.mp hn;have hx:x∈b:=hs x cK;have:=Lo (b:=b.erase x) h2 fun y hy=>(BI (fun (e:y=x)=>h1 (e ▸ hy))).mpr (hs y (dq _ hy));rw[Bx hx] at this;have:0<b.length:=ua hx;rw[fj];lia
theorem Fy(he:∀j,j≠i->Pzz' j=Pzz j)(hi:Pzz i=false):∀ {m:Nat},i<m->(List.range m).countP Pzz'=(List.range m).countP Pzz+(if Pzz' i=true then 1 else 0)
 |0,h=>absurd h (nX _)
 |m+1,h=>by
  rw[lu,List.countP_append,List.countP_append,List.countP_singleton,List.countP_singleton];by_cases c:i<m
  .rw[Fy he hi c,he m (by lia)];lia
  .obtain rfl:i=m:=by lia
   rw[show (List.range i).countP Pzz'=(List.range i).countP Pzz from List.countP_congr fun j hj=>by rw[he j (by have:=bY.mp hj;lia)],hi];simp
theorem A3(h:∀j,Pzz j=true->Pzz' j=true):(List.range m).countP Pzz<=(List.range m).countP Pzz':=List.countP_mono_left fun j _=>h j
theorem SH(h:∀j,Pzz j=true->Pzz' j=true)(hi:Pzz i=false)(vJ:Pzz' i=true)(hm:i<m):(List.range m).countP Pzz<(List.range m).countP Pzz':=by
 have a:=Fy (Pzz:=Pzz) (Pzz':=fun j=>if j=i then true else Pzz j) (i:=i) (fun j hj=>ao hj) hi hm;have b:=A3 (Pzz:=fun j=>if j=i then true else Pzz j) (Pzz':=Pzz') (m:=m) fun j hj=>by
  by_cases c:j=i
  .rw[c];exact vJ
  .rw[ao c] at hj;exact h j hj
 rw[ap rfl,ap rfl] at a;lia
theorem SI{st:bA}:st=(List.range st.length).map fun j=>st.getD j none:=by
 apply lK;intro i;by_cases h:i<st.length
 .rw[cA,f_ h];simp[cw,h]
 .rw[f9 (by lia),f9 (by rw[aT,dk];lia)]
theorem yZ{st:bA}{o:Option Nat}:st.count o=(List.range st.length).countP fun j=>decide (st.getD j none=o):=by
 have e:st.count o=((List.range st.length).map fun j=>st.getD j none).count o:=congrArg _ SI;rw[e,List.count_eq_countP,List.countP_map];exact List.countP_congr fun j _=>by simp
theorem y_:(List.replicate m (none:Option Nat)).getD j none=none:=by
 rw[cw,t_];split <;> rfl
theorem jX{fs:bA}{i j:Nat}{o:Option Nat}(hi:i<fs.length):(fs.set i o).getD j none=if j=i then o else fs.getD j none:=by
 rw[cw,um];by_cases c:i=j
 .subst c;rw[ap rfl,ap hi,ap rfl];rfl
 .rw[ao c,ao (fun z=>c z.symm),cw]
structure Hd(n:Nat)(ts:Ts)(st fs:bA):Prop where
 len:fs.length=st.length
 cI:∀j,st.getD j none=none->fs.getD j none=none
 out:∀j h,st.getD j none=some h->∃y,fs.getD j none=some y/\y∈bX n ts h
 inj:∀j k y,j≠k->fs.getD j none=some y->fs.getD k none=some y->st.getD j none≠st.getD k none
def Bq(homes:aQ)(fs:bA):List (Option Nat):=(List.range fs.length).map fun j=>if fs.getD j none=some (homes.getD j 0) then none else fs.getD j none
theorem mV:(Bq homes fs).length=fs.length:=by unfold Bq;rw[aT,dk]
theorem Fz(h:(Bq homes fs).getD j none=some y):fs.getD j none=some y:=by
 unfold Bq at h;by_cases hj:j<fs.length
 .rw[cw,cA,f_ hj,nW,qy] at h;split at h
  .cases h
  .exact h
 .rw[cw,f9 (by rw[aT,dk];lia)] at h;cases h
theorem Lp{g:bA}{a x:Nat}(h:g.getD a none=some x):a<g.length:=by
 rcases Nat.lt_or_ge a g.length with c|c
 .exact c
 .rw[cw,f9 c] at h;cases h
section
variable {n:Nat} {ts:Ts} {homes:aQ} {st g g1:bA} {gd ou:Nat->List Nat} {l x y:Nat} {os p:aQ}
theorem tZ(h:m9 st g l os=some x):x∈os/\∀a,a<st.length->st.getD a none=st.getD l none->g.getD a none≠some x:=by
 unfold m9 at h;refine⟨Iy h,fun a ha e z=>?_⟩;have:=B8 h;rw[Bool.not_eq_true',ur] at this;exact this a (bY.mpr ha) (by rw[iN e,iN z];rfl)
theorem FB(h:m9 st g l os=none)(hx:x∈os):∃a,a<st.length/\st.getD a none=st.getD l none/\g.getD a none=some x:=by
 unfold m9 at h;have:=BV.mp h x hx;rw[Bool.not_eq_true',Bool.not_eq_false,xA] at this;obtain⟨a,ha,b⟩:=this;rw[gm] at b;exact⟨a,bY.mp ha,fu b.1,fu b.2⟩
def Xe(st g:bA):Prop:=∀j k y,j≠k->g.getD j none=some y->g.getD k none=some y->st.getD j none≠st.getD k none
theorem Xe.put(I:Xe st g)(gl:g.length=st.length)(hl:l<st.length):Xe st (g.set l (m9 st g l os)):=by
 intro j k y n hj hk e;rw[jX (by rw[gl];exact hl)] at hj hk;by_cases cj:j=l
 .rw[ap cj] at hj;rw[ao (fun z=>n (cj.trans z.symm))] at hk;exact(tZ hj).2 k (by rw[<-gl];exact Lp hk) (by rw[<-cj];exact e.symm) hk
 .rw[ao cj] at hj;by_cases ck:k=l
  .rw[ap ck] at hk;exact(tZ hk).2 j (by rw[<-gl];exact Lp hj) (by rw[<-ck];exact e) hj
  .rw[ao ck] at hk;exact I j k y n hj hk e
structure E1(st g:bA)(gd:Nat->List Nat)(p:aQ):Prop where
 len:g.length=st.length
 inj:Xe st g
 cI:∀l,l∉p->g.getD l none=none
 ok:∀l,l∈p->(∃x,g.getD l none=some x/\x∈gd l)\/(g.getD l none=none/\∀o∈gd l,∃a,st.getD a none=st.getD l none/\g.getD a none=some o)
theorem E1.step(I:E1 st g gd p)(hl:l<st.length)(np:l∉p):E1 st (g.set l (m9 st g l (gd l))) gd (p++[l]):=by
 have gs:∀ {j:Nat},(g.set l (m9 st g l (gd l))).getD j none=if j=l then m9 st g l (gd l) else g.getD j none:=jX (by rw[I.len];exact hl)
 have nl:=I.cI l np;have kp:∀ {a o:Nat},g.getD a none=some o->(g.set l (m9 st g l (gd l))).getD a none=some o:=fun {a o} e=>by rw[gs,ao (by rintro rfl;rw[nl] at e;cases e)];exact e
 refine⟨by rw[ja,I.len],I.inj.put I.len hl,fun j hj=>?_,fun j hj=>?_⟩
 .rw[gs,ao (by rintro rfl;exact hj (e_ _ cK))];exact I.cI j fun z=>hj (gC _ z)
 .by_cases c:j=l
  .subst c;rw[gs,ap rfl];cases e:m9 st g j (gd j) with
   |some x=>exact .inl ⟨x,rfl,(tZ e).1⟩
   |none=>exact .inr ⟨rfl,fun o ho=>let ⟨a,_,e1,e2⟩:=FB e ho;⟨a,e1,by have:=kp e2;rwa [e] at this⟩⟩
  .rw[gs,ao c];have hj:j∈p:=by
    rcases cL.mp hj with z|z
    .exact z
    .exact absurd (dA.mp z) c
   rcases I.ok j hj with z|⟨z,f⟩
   .exact .inl z
   .exact .inr ⟨z,fun o ho=>let ⟨a,e1,e2⟩:=f o ho;⟨a,e1,kp e2⟩⟩
theorem E1.fold:∀ {ls p:aQ} {g:bA},E1 st g gd p->(∀l∈ls,l<st.length)->(p++ls).Nodup->E1 st (ls.foldl (fun g l=>g.set l (m9 st g l (gd l))) g) gd (p++ls)
 |[],p,g,I,_,_=>by rw[jH];exact I
 |l::ls,p,g,I,h,nd=>by
  rw[iM,show p++l::ls=(p++[l])++ls by simp];rw[show p++l::ls=(p++[l])++ls by simp] at nd;refine E1.fold (I.step (h l cK) fun z=>?_) (fun j hj=>h j (dq _ hj)) nd;exact(j6.mp (j6.mp nd).1).2.2 l z l cK rfl
theorem fold_at{f:List (Option Nat)->Nat->Option Nat}{a:Nat}:∀ {ls:aQ} {g:bA},(∀l∈ls,l<g.length)->a∉ls->(ls.foldl (fun g l=>g.set l (f g l)) g).getD a none=g.getD a none
 |[],g,_,_=>rfl
 |l::ls,g,h,n=>by
  rw[iM,fold_at (fun j hj=>by rw[ja];exact h j (dq _ hj)) fun z=>n (dq _ z),jX (h l cK),ao (by rintro rfl;exact n cK)]
noncomputable def FE(n:Nat)(ts:Ts)(st g:bA)(l:Nat):List (Option Nat):=if g.getD l none=none then g.set l (m9 st g l (bX n ts ((st.getD l none).getD 0))) else g
noncomputable def r_(n:Nat)(ts:Ts)(homes:aQ)(st g:bA)(l:Nat):List (Option Nat):=g.set l (m9 st g l (iT n ts ((st.getD l none).getD 0) (homes.getD l 0)))
noncomputable def Lq(n:Nat)(ts:Ts)(homes:aQ)(st:bA)(mZ:aQ):List (Option Nat):=mZ.foldl (FE n ts st) (mZ.foldl (r_ n ts homes st) (List.replicate st.length none))
theorem FG(S:kH n ts homes st)(hl:l<st.length)(ey:st.getD l none=some y)(hy:y<n)(en:g.getD l none=none):∃x,m9 st g l (bX n ts y)=some x:=by
 cases e:m9 st g l (bX n ts y) with
 |some x=>exact⟨x,rfl⟩
 |none=>
  exfalso;have a:=Lo (b:=((List.range st.length).filter fun j=>decide (st.getD j none=some y)&&(g.getD j none).isSome).map fun j=>(g.getD j none).getD 0) (Dg hy) fun x hx=>by
   obtain⟨a,ha,e1,e2⟩:=FB e hx;exact bB.mpr ⟨a,gb.mpr ⟨bY.mpr ha,by rw[e1,ey,e2];simp⟩,by rw[e2];rfl⟩
  rw[aT,<-List.countP_eq_length_filter] at a;have b:=SH (Pzz:=fun j=>decide (st.getD j none=some y)&&(g.getD j none).isSome) (Pzz':=fun j=>decide (st.getD j none=some y)) (i:=l) (fun j h=>(gm _ _ ▸ h:_/\_).1) (by rw[en];simp) (by rw[ey];simp) hl;have c:=S.cap y hy;rw[yZ] at c;lia
structure E2(n:Nat)(ts:Ts)(st g1 g:bA)(p:aQ):Prop where
 len:g.length=st.length
 inj:Xe st g
 keep:∀l x,g1.getD l none=some x->g.getD l none=some x
 cI:∀l,l∉p->g.getD l none=g1.getD l none
 out:∀l,l∈p->∃x,g.getD l none=some x/\(g1.getD l none=some x\/x∈bX n ts ((st.getD l none).getD 0))
theorem E2.step(S:kH n ts homes st)(I:E2 n ts st g1 g p)(hl:l<st.length)(ey:st.getD l none=some y)(hy:y<n)(np:l∉p):E2 n ts st g1 (FE n ts st g l) (p++[l]):=by
 have nl:=I.cI l np;unfold FE;by_cases c:g.getD l none=none
 .rw[ap c,ey];obtain⟨x,ex⟩:=FG S hl ey hy c;have gs:∀ {j:Nat},(g.set l (m9 st g l (bX n ts y))).getD j none=if j=l then m9 st g l (bX n ts y) else g.getD j none:=jX (by rw[I.len];exact hl)
  refine⟨by rw[ja,I.len],I.inj.put I.len hl,fun j x e=>?_,fun j hj=>?_,fun j hj=>?_⟩
  .show (g.set l (m9 st g l (bX n ts y))).getD j none=_;rw[gs,ao (by rintro rfl;rw[<-nl,c] at e;cases e)];exact I.keep j x e
  .show (g.set l (m9 st g l (bX n ts y))).getD j none=_;rw[gs,ao (by rintro rfl;exact hj (e_ _ cK))];exact I.cI j fun z=>hj (gC _ z)
  .show ∃x,(g.set l (m9 st g l (bX n ts y))).getD j none=some x/\_;rw[gs];by_cases d:j=l
   .subst d;rw[ap rfl,ex,ey];exact⟨x,rfl,.inr (tZ ex).1⟩
   .rw[ao d];rcases cL.mp hj with z|z
    .exact I.out j z
    .exact absurd (dA.mp z) d
 .rw[ao c];refine⟨I.len,I.inj,I.keep,fun j hj=>I.cI j fun z=>hj (gC _ z),fun j hj=>?_⟩;rcases cL.mp hj with z|z
  .exact I.out j z
  .rw[dA.mp z];cases e:g.getD l none with
   |none=>exact absurd e c
   |some x=>exact⟨x,rfl,.inl (by rw[<-nl,e])⟩
theorem E2.fold(S:kH n ts homes st):∀ {ls p:aQ} {g:bA},E2 n ts st g1 g p->(∀l∈ls,∃y,l<st.length/\st.getD l none=some y/\y<n)->(p++ls).Nodup->E2 n ts st g1 (ls.foldl (FE n ts st) g) (p++ls)
 |[],p,g,I,_,_=>by rw[jH];exact I
 |l::ls,p,g,I,h,nd=>by
  rw[iM,show p++l::ls=(p++[l])++ls by simp];rw[show p++l::ls=(p++[l])++ls by simp] at nd;obtain⟨y,a,b,c⟩:=h l cK;refine E2.fold S (I.step S a b c fun z=>?_) (fun j hj=>h j (dq _ hj)) nd;exact(j6.mp (j6.mp nd).1).2.2 l z l cK rfl
structure Eag(n:Nat)(ts:Ts)(homes:aQ)(st fs:bA):Prop where
 hd:Hd n ts st fs
 eag:∀l y,st.getD l none=some y->(∃x,fs.getD l none=some x/\x∈iT n ts y (homes.getD l 0))\/∀o∈iT n ts y (homes.getD l 0),∃a,st.getD a none=some y/\fs.getD a none=some o/\o∈iT n ts y (homes.getD a 0)
theorem FH{mZ:aQ}(S:kH n ts homes st)(pm:mZ.Perm (oU st st.length)):∀l∈mZ,∃y,l<st.length/\st.getD l none=some y/\y<n:=fun l hl=>by
 obtain⟨a,b⟩:=jC (pm.mem_iff.mp hl);exact⟨_,a,b,(S.ss l _ (by rw[yP (d:=none) a];exact congrArg some b)).1⟩
theorem SJ(h:st.getD l none=some y):l∈oU st st.length:=gb.mpr ⟨bY.mpr (Lp h),by rw[h];rfl⟩
theorem Lr{mZ:aQ}(pm:mZ.Perm (oU st st.length)):mZ.Nodup:=pm.nodup_iff.mpr (BK _ jG)
theorem SL{mZ:aQ}(S:kH n ts homes st)(pm:mZ.Perm (oU st st.length)):Eag n ts homes st (Lq n ts homes st mZ):=by
 have al:=FH S pm;have nd:=Lr pm;have i1:E1 st (mZ.foldl (r_ n ts homes st) (List.replicate st.length none)) (fun l=>iT n ts ((st.getD l none).getD 0) (homes.getD l 0)) ([]++mZ):=E1.fold (gd:=fun l=>iT n ts ((st.getD l none).getD 0) (homes.getD l 0)) ⟨i9,(fun j k y _ hy=>by rw[y_] at hy;cases hy),fun l _=>y_,fun l hl=>(nomatch hl)⟩ (fun l hl=>let ⟨_,a,_⟩:=al l hl;a) nd;have i2:=E2.fold S (g1:=mZ.foldl (r_ n ts homes st) (List.replicate st.length none)) (p:=[]) ⟨i1.len,i1.inj,fun _ _ e=>e,fun _ _=>rfl,fun l hl=>(nomatch hl)⟩ al nd;rw[List.nil_append] at i1 i2;have aaC:∀ {i j o},o∈iT n ts i j->o∈bX n ts i:=fun h=>(gb.mp h).1;have uo:∀ {l y},st.getD l none=some y->l∈mZ:=fun h=>pm.mem_iff.mpr (SJ h);have g1k:∀ {l y x},st.getD l none=some y->(mZ.foldl (r_ n ts homes st) (List.replicate st.length none)).getD l none=some x->x∈iT n ts y (homes.getD l 0):=fun {l y x} h e=>by
  rcases i1.ok l (uo h) with ⟨x',a,b⟩|⟨a,_⟩
  .rw[e] at a;cases a;rw[h] at b;exact b
  .rw[e] at a;cases a
 refine⟨⟨i2.len,fun j hj=>?_,fun j y hj=>?_,i2.inj⟩,fun l y hl=>?_⟩
 .have nj:j∉mZ:=fun z=>by obtain⟨y,_,e,_⟩:=al j z;rw[hj] at e;cases e
  exact(i2.cI j nj).trans (i1.cI j nj)
 .obtain⟨x,a,b⟩:=i2.out j (uo hj);rcases b with b|b
  .exact⟨x,a,aaC (g1k hj b)⟩
  .rw[hj] at b;exact⟨x,a,b⟩
 .rcases i1.ok l (uo hl) with ⟨x,a,b⟩|⟨a,f⟩
  .rw[hl] at b;exact .inl ⟨x,i2.keep l x a,b⟩
  .refine .inr fun o ho=>?_;obtain⟨a',e1,e2⟩:=f o (by rw[hl];exact ho);rw[hl] at e1;exact⟨a',e1,i2.keep _ _ e2,g1k e1 e2⟩
end
def SN(st gs:bA)(ps:Ts):Prop:=∀y h:Nat,(ci y,ci h)∈ps↔∃a,a<st.length/\st.getD a none=some y/\gs.getD a none=some h
theorem ffT{st gs:bA}{ps:Ts}{l y:Nat}{os:aQ}(k:SN st gs ps)(ey:st.getD l none=some y):m9 st gs l os=(os.filter fun h=>!decide ((ci y,ci h)∈ps)).head?:=by
 unfold m9;rw[List.head?_filter];congr 1;funext h;congr 1;rw[kP,xA,nN,k y h];constructor
 .rintro⟨a,ha,e⟩;rw[gm,nN,nN,ey] at e;exact⟨a,bY.mp ha,e.1,e.2⟩
 .rintro⟨a,ha,e1,e2⟩;exact⟨a,bY.mpr ha,by rw[e1,ey,e2];simp⟩
theorem SN.put(k:SN st gs ps)(gl:gs.length=st.length)(hl:l<st.length)(ey:st.getD l none=some y)(en:gs.getD l none=none):SN st (gs.set l (some x)) (ps++[(ci y,ci x)]):=fun y' h=>by
 rw[cL,k y' h,dA];constructor
 .rintro(⟨a,ha,e1,e2⟩|e)
  .refine⟨a,ha,e1,?_⟩;rw[jX (by lia),ao (by rintro rfl;rw[en] at e2;cases e2)];exact e2
  .have e1:=d7 (Prod.mk.inj e).1;have e2:=d7 (Prod.mk.inj e).2;exact⟨l,hl,by rw[ey,e1],by rw[jX (by lia),ap rfl,e2]⟩
 .rintro⟨a,ha,e1,e2⟩;rw[jX (by lia)] at e2;by_cases c:a=l
  .subst c;rw[ap rfl] at e2;rw[ey] at e1;cases e1;cases e2;exact .inr rfl
  .rw[ao c] at e2;exact .inl ⟨a,ha,e1,e2⟩
section
variable {n:Nat} {ts:Ts} {homes:aQ} {st g:bA} {l x y:Nat} {os:aQ} {ps:Ts}
theorem Oa(S:kH n ts homes st)(k:SN st g ps)(hl:l<st.length)(ey:st.getD l none=some y)(en:g.getD l none=none)(hy:y<n):(bX n ts y).filter (fun h=>!decide ((ci y,ci h)∈ps))≠[]:=fun e=>by
 obtain⟨x,ex⟩:=FG S hl ey hy en;rw[ffT k ey,e] at ex;cases ex
noncomputable def HK(n:Nat)(ts:Ts)(st g:bA)(l:Nat):List (Option Nat):=g.set l (m9 st g l (bX n ts ((st.getD l none).getD 0)))
theorem rE:∀ {os:aQ} {g:bA},os.Nodup->(∀l∈os,l<g.length)->os.foldl (FE n ts st) g=(os.filter fun l=>decide (g.getD l none=none)).foldl (HK n ts st) g
 |[],g,_,_=>rfl
 |l::r,g,nd,h=>by
  obtain⟨n1,n2⟩:=gI.mp nd;have hl:=h l cK;rw[iM];by_cases c:g.getD l none=none
  .rw[List.filter_cons_of_pos (p:=fun l=>decide (g.getD l none=none)) (iN c),iM,show FE n ts st g l=HK n ts st g l from ap c,rE n2 fun j hj=>by unfold HK;rw[ja];exact h j (dq _ hj)];congr 1;refine BZ fun j hj=>?_;unfold HK;rw[jX hl,ao (by rintro rfl;exact n1 hj)]
  .rw[List.filter_cons_of_neg (p:=fun l=>decide (g.getD l none=none)) (by rw[gY c];decide),show FE n ts st g l=g from ao c];exact rE n2 fun j hj=>h j (dq _ hj)
def gv(homes:aQ):List Nat:=homes.drop 1++homes.take 1
theorem rF:(gv homes).length=homes.length:=by unfold gv;rw[dh,kL,kK];lia
theorem Ob(S:kH n ts homes st):kH n ts (gv homes) (Bq (gv homes) st):=by
 refine⟨by rw[rF,mV,S.len],fun x hx=>?_,fun i y hy=>?_,fun y hy=>?_⟩
 .rcases cL.mp hx with z|z
  .exact S.hs x (ue z)
  .exact S.hs x (oZ z)
 .have hi:i<st.length:=by have:=(eR.mp hy).1;rwa [mV] at this
  have e:(Bq (gv homes) st).getD i none=some y:=by rw[cw,hy];rfl
  have f:=Fz e;refine⟨(S.ss i y (by rw[yP (d:=none) hi,f])).1,fun z=>?_⟩;unfold Bq at hy;rw[cA,f_ hi,nW,f,ap (by rw[cw,z];rfl)] at hy;cases hy
 .refine aZ ?_ (S.cap y hy);rw[yZ,yZ,mV];exact A3 fun j hj=>iN (Fz (fu hj))
end
abbrev D5:Stmt:=top 53
abbrev Ls:Stmt:=top 54
theorem oO:(["_law_k","_law_pot_here","_law_size"]:bQ).Nodup:=by decide +kernel
theorem mE:(["_law_mark","_law_letter"]:bQ).Nodup:=by decide +kernel
noncomputable def D6(ts:Ts)(homes:aQ)(st:bA)(bt:Int)(ranks:dG):Nat->Nat->Int
 |0,_=>0
 |1,l=>jD ts homes st l
 |2,l=>-jD ts homes st l
 |3,l=>((l:Nat)+bt) % ((homes.length:Nat):Int)
 |4,_=>0
 |_,l=>ranks.getD l 0
theorem SO{ts:Ts}{homes:aQ}{st:bA}{bt:Int}{ranks:dG}{jY l:Nat}(h:jY<6):zS [V.int 0,.int (jD ts homes st l),.int (-jD ts homes st l),.int (((l:Nat)+bt) % ((homes.length:Nat):Int)),.int 0,.int (ranks.getD l 0)] (jY:Int)=some (.int (D6 ts homes st bt ranks jY l)):=by
 match jY,h with
 |0,_=>exact aD (j:=0) rfl
 |1,_=>exact aD (j:=1) rfl
 |2,_=>exact aD (j:=2) rfl
 |3,_=>exact aD (j:=3) rfl
 |4,_=>exact aD (j:=4) rfl
 |5,_=>exact aD (j:=5) rfl
theorem Oc{kz:t7}{us:aQ}{zs jx:Zs}(e:zp zs=us.map fun l=>(kz l,ci l))(pm:jx.Perm zs)(mZ:Rk (zp jx)):∃out:List Nat,(jx.map fun z=>V.int z.2.2)=NV out/\out.Perm us/\out.Pairwise (zn kz):=by
 have pz:(zp jx).Perm (us.map fun l=>(kz l,ci l)):=by rw[<-e];exact pm.map _
 have mem:∀u∈zp jx,∃l∈us,u=(kz l,ci l):=fun u hu=>by
  obtain⟨l,hl,e⟩:=bB.mp (pz.mem_iff.mp hu);exact⟨l,hl,e.symm⟩
 refine⟨(zp jx).map fun u=>u.2.toNat,?_,?_,?_⟩
 .unfold zp NV;rw[dQ,dQ];refine j5 fun z hz=>?_;obtain⟨l,_,el⟩:=mem z.2 (bB.mpr ⟨z,hz,rfl⟩);show V.int z.2.2=V.int ((z.2.2.toNat:Nat):Int);rw[el];rfl
 .have:=pz.map fun u=>u.2.toNat;rw[dQ] at this;refine this.trans ?_;rw[show ((fun u:Int×Int=>u.2.toNat) ∘ fun l=>(kz l,ci l))=id from funext fun l=>rfl,kX]
 .refine gk.mpr (mZ.imp_of_mem fun {u v} hu hv h=>?_);obtain⟨l,_,rfl⟩:=mem u hu;obtain⟨m,_,rfl⟩:=mem v hv;exact h
theorem SS(b:∀n∈us,n<64):∀ {l1 l2:aQ},l1.Perm us->l2.Perm us->l1.Pairwise (zn kz)->l2.Pairwise (zn kz)->l1=l2:=fun {l1 l2} p1 p2 s1 s2=>by
 refine List.Perm.eq_of_pairwise (le:=zn kz) (fun x y hx hy h1 h2=>?_) s1 s2 (p1.trans p2.symm);have:=b x (p1.mem_iff.mp hx);have:=b y (p2.mem_iff.mp hy);unfold zn at h1 h2;lia
theorem FI:aN ["_law_pot_here","_law_many","_law_size"] ["_law_pot_here","_law_many"] (aw D5):=dW (by decide +kernel)
def zc:Sp:=fun vs H Q _=>∃ (p:Addr) (m:Nat),vs=[.ref p,.int (m:Nat)]/\bn H p/\m<=16/\∀ (t:Addr) (ranks:dG) (H':Hp),aO p H H'->bn H' p->H' t=some (.tup (ranks.map V.int))->ranks.length=m->Q (.ref t) H'
theorem Lu(F:iH K "_law_ranks" "_law_ranks" D5 f fd)(B:Bl mg)(TK:d9 P w K mg base bo 1 "_law_take" ["_law_pot_here","_law_many"] io):bU P w K mg base bo 2 f fd ["_law_pot_here","_law_many"] zc:=by
 refine F.ok FI (fun vs H Q E h=>?_) (fun fX A outer s H vs Q E hr h=>?_)
 .obtain⟨p,m,rfl,_⟩:=h;rfl
 .obtain⟨p,m,rfl,hp,m1,q⟩:=h;refine'⟨_,(ak (aW (i:=2) FI.nd rfl cW (aX aG (cH (aa az (aa (a9 l7 az (a9 Cq az az)) ag))) (aH TK hr aM (aa (pv 0) (aa az ag))) (fun _ _=>rfl)))
   (av (bh (cU fh (by rfl) B.tup oX (aa ?c1 ag))))),?_⟩
  case c1=>
   refine' cQ (g:=(bH 0)) (te:=(jR (zM fun i j=>.int (i-j)) (rN io [] E0 (bJ (bb 1) (bJ (bb 2) h_))) (jR (rI U_ fun i j=>.int (i / j)) (bb 2) (tC (.int 2))))) (NB:=["_law_k","_law_pot_here","_law_size"]) (src:=[none,some 0,some 2]) (bz (by kernel_rfl)) rfl (b9 rfl B.range (aa (pv 1) ag)) ?g ?t ?e;case g=>exact fun cl C s₃ H₃ fp=>(aA (i:=0) oO rfl aL cW)
   case t=>exact fun cl C s₃ H₃ fp=>dC
   case e=>exact fun cl C s₃ H₃ fp=>(a9 k6 (aH TK hr aM (aa (pv 1) (aa (pv 2) ag))) (a9 tG (pv 2) az))
  have e59:((10:Int) ^ Int.toNat 59)=100000000000000000000000000000000000000000000000000000000000:=by decide +kernel
  refine⟨_,_,rfl,rfl,⟨by decide,by decide,by decide⟩,_,_,rfl,rfl,?_,by show 2<=sizeLine;decide,fun l hl=>?_⟩
  .exact .inl ⟨by decide,by decide⟩
  have sl:=aj (o:=.lst [V.int 3,.int (2*10 ^ Int.toNat 59)]) hl;refine⟨_,rfl,p,2,rfl,by decide,by decide,hp.same sl,fun d H1 hd s1 mW=>?_⟩;have gl:=s1 _ _ (ae (H:=H) (a:=l) (o:=.lst [V.int 3,.int (2*10 ^ Int.toNat 59)])) (hp.ne hl);have s01:aO p H H1:=(aO.of sl).trans s1;obtain⟨z,hz,z0,z1⟩:∃z:Nat,zS [V.int 3,.int (2*10 ^ Int.toNat 59)] (d:Int)=some (.int (z:Nat))/\0<z/\z<2 ^ 200:=by
   rcases(show d=0\/d=1 by lia) with rfl|rfl
   .exact⟨3,aD (j:=0) rfl,by decide,by decide⟩
   .refine⟨200000000000000000000000000000000000000000000000000000000000,?_,by decide,by decide⟩;rw[e59];exact aD (j:=1) rfl
  refine⟨l,_,_,_,rfl,rfl,a8.of gl,hz,?_⟩;clear gl hz;refine⟨_,rfl,(m:Nat),rfl,by lia,by lia,fun D hD=>?_⟩;have nD:D≠p:=mW.ne hD;rw[gE];refine fJ (fun i ys σ H2=>(∃x,σ=[x,some (.ref p),some (.int (z:Nat))])/\aO p H1 H2/\bn H2 p/\H2 D=some (.lst ys)/\∃rs:List Int,ys=rs.map V.int/\rs.length=i) ⟨⟨_,rfl⟩,aO.of (aj hD),mW.same (aj hD),ae,[],rfl,rfl⟩ ?_ ?_
  .rintro i ys σ H2 Kt Kf hi ⟨⟨x,rfl⟩,s2,vK,jy,rs,rfl,rl⟩ kt kf;refine⟨_,rfl,_,rfl,p,z,rfl,z0,z1,vK,fun e H3 he s3 nB=>⟨_,rfl,_,_,rfl,rfl,⟨by decide,by decide⟩,_,_,rfl,rfl,?_⟩⟩;refine kt _ _ _ (s3 _ _ jy nD) (by rw[aT,rl];exact bv (show i<17 by lia) (by decide)) ⟨⟨_,rfl⟩,fun b o e' n=>?_,?_,ae,rs++[_],by rw[dt];rfl,by rw[dh,rl];rfl⟩
   .rw[aq (am e' hD)];exact s3 _ _ (s2 _ _ e' n) n
   .exact nB.put nD.symm
  .rintro ys σ H2 ⟨_,s2,vK,jy,rs,rfl,rl⟩;refine⟨D,_,rfl,.inl ⟨a8.of jy,fun t ht=>?_⟩⟩;exact q t rs _ ((s01.trans s2).trans (aO.of (aj ht))) (vK.same (aj ht)) ae rl
theorem vG:aN ["_law_way","_law_far_here","_law_homes","_law_stand","_law_beat_here","_law_ranks_here","_law_found","_law_letter","_law_house","_law_left"] ["_law_way","_law_far_here","_law_homes","_law_stand","_law_beat_here","_law_ranks_here"] (aw Ls):=dW (by decide +kernel)
def D7:Sp:=fun vs H Q _=>∃ (jY:Nat) (fa ha sa ra:Addr) (bt:Int) (n:Nat) (ts:Ts) (L:iP) (homes:aQ) (st:bA) (ranks:dG),vs=[.int (jY:Nat),.ref fa,.ref ha,.ref sa,.int bt,.ref ra]/\jY<6/\bK H L fa n (fun h=>(List.range n).map (far ts h))/\L fa/\H ha=some (.tup (NV homes))/\H sa=some (.tup (st.map oV))/\lz n homes st/\H ra=some (.tup (ranks.map V.int))/\ranks.length=homes.length/\
 ∀ (r:Addr) (H':Hp) (out:aQ),aI H H'->H r=none->H' r=some (.lst (NV out))->out.Perm (oU st st.length)->out.Pairwise (zn (D6 ts homes st bt ranks jY))->Q (.ref r) H'
theorem Od{f:Addr}{fd:eA}(F:iH K "_law_order" "_law_order" Ls f fd)(B:Bl mg)(hE:mg "enumerate"=none):bU P w K mg base bo 1 f fd ["_law_way","_law_far_here","_law_homes","_law_stand","_law_beat_here","_law_ranks_here"] D7:=by
 refine F.ok vG (fun vs H Q E h=>?_) (fun fX A outer s H vs Q E hr h=>?_)
 .obtain⟨jY,fa,ha,sa,ra,bt,n,ts,L,homes,st,ranks,rfl,_⟩:=h;rfl
 .obtain⟨jY,fa,ha,sa,ra,bt,n,ts,L,homes,st,ranks,rfl,w6,RF,hLf,hH,hS,LO,hR,rl,q⟩:=h;refine'⟨_,(ak (aW (i:=6) vG.nd rfl aL (cH ag))
   (ak (du eI rfl (Ap rfl hE (aa (pv 3) ag)) (dX (n:=2) rfl (aE (aA (i:=7) vG.nd rfl aL) (aE (aA (i:=8) vG.nd rfl aL) cM)))
    (av (dS (aY Er (pv 8) ii (bp _)) (ak (aW (i:=9) vG.nd rfl aL (aX aG (aX aG (pv 1) (pv 8) (fun _ _=>rfl)) (aX eN (pv 2) (pv 7) (fun _ _=>rfl)) (fun _ _=>rfl)))
     (av (cG (gQ gy i8 i7 cV (pv 6) (aa (bT (aa (aX aG (cH (aa az (aa (pv 9) (aa (zN uP (pv 9)) (aa (a9 jd (a9 dM (pv 7) (pv 4)) (aJ aV (by rfl) B.len fc (aa (pv 2) ag))) (aa az (aa (aX eN (pv 5) (pv 7) (fun _ _=>rfl)) ag))))))) (pv 0) (fun _ _=>rfl)) (aa (pv 7) ag))) ag))))) b8)))
   (av (bh ?c1)))),?_⟩
  case c1=>
   refine' cQ (g:=(uN K 2 (gn (bH 0) (gn (bH 1) uM)))) (te:=(bb 1)) (NB:=["_law_mark","_law_letter"]) (src:=[none,none]) (bz (by kernel_rfl)) rfl (bN (aJ Da (by rfl) B.sorted nF (aa (pv 6) ag))) ?g ?t ?e;case g=>exact fun cl C s₃ H₃ fp=>(dX (n:=2) rfl (aE (aA (i:=0) mE rfl aL cW) (aE (aA (i:=1) mE rfl aL cW) cM)))
   case t=>exact fun cl C s₃ H₃ fp=>dC
   case e=>exact fun cl C s₃ H₃ fp=>(pv 1)
  refine⟨by show 0<=sizeLine;decide,fun Fo hFo=>?_⟩;have sF:=aj (o:=.lst []) hFo;have le:=LO.le;refine⟨_,rfl,sa,_,rfl,cu.of (sF _ _ hS),GB (K:=K) (xs:=st.map oV) (fun i σ Hc=>∃zs:Zs,(∃x7 x8 x9,σ=[some (.int (jY:Nat)),some (.ref fa),some (.ref ha),some (.ref sa),some (.int bt),some (.ref ra),some (.ref Fo),x7,x8,x9])/\aI H Hc/\Hc Fo=some (.lst (zr zs))/\PO Hc zs/\zp zs=(oU st i).map fun l=>(D6 ts homes st bt ranks jY l,ci l)) ⟨[],⟨_,_,_,rfl⟩,sF,ae,PO.nil,rfl⟩ (fun i σ Hc _ ⟨zs,z⟩=>cu.of (z.2.1 _ _ hS)) ?_ ?_⟩
  .rintro i x t σ Hc hx ⟨zs,⟨x7,x8,x9,rfl⟩,sc,P3,po,ez⟩ ht;obtain⟨hi,rfl⟩:=DR hx;have aF:=aj (o:=.tup [.int (i:Int),oV (st.getD i none)]) ht;refine⟨t,_,rfl,cu.of ae,rfl,_,_,rfl,_,_,rfl,rfl,?_⟩;refine⟨_,rfl,rfl,_,rfl,?_⟩;rw[Fv];have s1:=sc.trans aF;have Sn:=aF _ _ P3;have P1:=po.same aF;generalize upd Hc t _=H1 at *;clear ht aF;refine gU (fun e=>?_) (fun e=>?_)
   .obtain⟨_,y,ey,hy,HJ⟩:=LO.at (gb.mpr ⟨bY.mpr hi,e⟩);obtain⟨bs,b,r1,r2,r3,_⟩:=(RF.keep hLf (fun b o _ e=>s1 b o e)).row hy;have hg:(NV ((List.range n).map (far ts y)))[homes.getD i 0]?=some (.int (far ts y (homes.getD i 0):Nat)):=by
     rw[cA,cA,f_ HJ];rfl
    have en:((far ts y (homes.getD i 0):Nat):Int)=jD ts homes st i:=by unfold jD;rw[ey];rfl
    rw[ey];refine⟨_,rfl,_,rfl,fa,_,_,_,rfl,rfl,a8.of r1,aD r2,_,rfl,_,rfl,ha,_,_,_,rfl,rfl,cu.of (s1 _ _ hH),aD (iS (by rw[LO.len];exact hi)),b,_,_,_,rfl,rfl,a8.of r3,aD hg,?_⟩;rw[en];refine⟨_,rfl,.inl ⟨rfl,_,a8.of Sn⟩,_,rfl,_,rfl,_,rfl,_,rfl,_,rfl,_,_,rfl,rfl,_,rfl,ha,_,rfl,.inr (cu.of (s1 _ _ hH)),_,_,rfl,rfl,?_,_,rfl,_,rfl,ra,_,_,.int (ranks.getD i 0),rfl,rfl,cu.of (s1 _ _ hR),aD ?_,by show 6<=sizeLine;decide,fun L6 hL6=>?_⟩
    .rw[be,LO.len];lia
    .rw[cA,cw,cz (show i<ranks.length by rw[rl,LO.len];exact hi)];rfl
    rw[be];have s6:=aj (o:=.lst [V.int 0,.int (jD ts homes st i),.int (-jD ts homes st i),.int (((i:Nat)+bt) % ((homes.length:Nat):Int)),.int 0,.int (ranks.getD i 0)]) hL6;refine⟨_,rfl,L6,_,_,_,rfl,rfl,a8.of ae,SO w6,_,rfl,by show 2<=sizeLine;decide,fun t2 ht2=>?_⟩;have s7:=s6.trans (aj (o:=oQ (D6 ts homes st bt ranks jY i,ci i)) ht2);refine⟨Fo,_,_,rfl,rfl,s7 _ _ Sn,?_,zs++[(t2,(D6 ts homes st bt ranks jY i,ci i))],⟨_,_,_,rfl⟩,bj (s1.trans s7) hFo,by rw[ae,eO];rfl,PO.putL (xs:=zr zs) ((P1.same s7).append (PO.one ae)) (s7 _ _ Sn),?_⟩
    .rw[dZ,<-b_,ez,aT];exact eK jB (bv (show i<17 by lia) (by decide))
    .rw[eQ,ez,p8,ap e,dt];rfl
   .refine⟨zs,⟨_,_,_,rfl⟩,s1,Sn,P1,?_⟩;rw[p8,ao e,jH];exact ez
  .rintro σ Hc ⟨zs,⟨x7,x8,x9,rfl⟩,sc,P3,po,ez⟩;rw[aT] at ez;have zl:zs.length<=16:=by rw[<-b_,ez,aT];exact aZ jB le
   refine⟨_,rfl,PL ?_⟩;refine Kl P3 po (by lia) (fun u hu=>?_) (by rw[ez];exact gk.mpr (mU.imp fun {a b} h=>by show (a:Int)<(b:Int);lia)) fun D jx hD pm mZ=>⟨D,rfl,⟨_,a8.of ae⟩,fun D2 jy=>?_⟩
   .rw[ez] at hu;obtain⟨l,hl,rfl⟩:=bB.mp hu;have:=(jC hl).1;show 0<=ci l/\ci l<64;show (0:Int)<=(l:Int)/\(l:Int)<64;lia
   obtain⟨out,eo,op,pw⟩:=Oc ez pm mZ;have sD:=aj (o:=.lst (zr jx)) hD;have DH:PO (upd Hc D (.lst (zr jx))) jx:=fun z hz=>sD _ _ (po z (pm.mem_iff.mp hz));refine Fh jx (fun z=>V.ref z.1) (fun z=>V.int z.2.2) (fun σ=>∃a b,σ=[a,b]) ae jy (by rw[pm.length_eq];lia) ⟨_,_,rfl⟩ ?_ ?_
   .rintro z σ H2 R Kf hz ⟨a,b,rfl⟩ sm kk;exact⟨z.1,_,rfl,cu.of (sm _ _ (DH z hz)),rfl,_,_,rfl,_,_,rfl,rfl,_,rfl,kk _ _ ⟨_,_,rfl⟩ (aI.refl _)⟩
   .intro H2 sm pU;rw[eo] at pU;exact q D2 H2 out (sc.trans (sD.trans sm)) (sc.free (sD.free jy)) pU op pw
abbrev UH:List Str:=["self","net","homes","stand","beat"]
theorem A7(a:PE X e t1)(b:PE X e t2):PE X e (fun σ H Q=>t1 σ H Q\/t2 σ H Q):=fun af s σ H Q I h=>h.elim (a af s σ H Q I) (b af s σ H Q I)
structure P8(K:a_)(mg:cr)(nm:Str)(CB Ci:Addr)(bt:Bool):Prop where
 cl:HW K Ci
 Ng:mg nm=some (.ref Ci)
 ha:W.findIn K (.ref Ci) "__class__"=some (some (.builtin "object.__class__"))
 hn:W.specialIn K (.builtin "object.__class__") "__get__"=some (some (.builtin "getset_descriptor.__get__"))
 Vd:W.takesIn K (.builtin "object.__class__")=some true
 hm:W.mroIn K Ci (.type "object")=some true
 kt:W.kitOne K (.ref Ci) (.ref CB)=some bt
theorem P8.ty(T:P8 K mg nm CB Ci bt)(e:H a=some (.ins Ci d fs)):O8 K H (.ref a) (.ref Ci):=.of (.ins e T.cl T.ha T.hn T.Vd T.hm)
structure jr(PN PF PT PR:Addr)(H:Hp):Prop where
 n:yU PN H
 f:yV PF H
 t:yW PT H
 r:yX PR H
theorem jr.same{PN PF PT PR:Addr}{H H':Hp}(t:jr PN PF PT PR H)(s:aI H H'):jr PN PF PT PR H':=⟨t.n.same s,t.f.same s,t.t.same s,t.r.same s⟩
def KQ(PN PF PT PR:Addr)(H H':Hp):Prop:=∀b o,H b=some o->b≠PN->b≠PF->b≠PT->b≠PR->H' b=some o
def KN(H H':Hp):Prop:=∀b o,H b=some o->N7 o->H' b=some o
theorem KQ.kn{PN PF PT PR:Addr}{H H':Hp}(k:KQ PN PF PT PR H H')(t:jr PN PF PT PR H):KN H H':=fun b o e n=>k b o e (t.n.not e n) (t.f.not e n) (t.t.not e n) (t.r.not e n)
theorem KQ.of{PN PF PT PR:Addr}{H H':Hp}(s:aI H H'):KQ PN PF PT PR H H':=fun b o e _ _ _ _=>s b o e
theorem KQ.trans{PN PF PT PR:Addr}{H H1 H2:Hp}(a:KQ PN PF PT PR H H1)(b:KQ PN PF PT PR H1 H2):KQ PN PF PT PR H H2:=fun c o e n1 n2 n3 n4=>b c o (a c o e n1 n2 n3 n4) n1 n2 n3 n4
theorem _root_.L2.dU.lA(t:dU lp q Pzz H)(s:mn Pzz' H H')(hp:∃ps,H Pzz'=some (.jo ps))(n:Pzz≠Pzz'):dU lp q Pzz H':=by
 obtain⟨ps,hp⟩:=hp;rcases t with z|⟨c,z,y⟩
 .exact .inl (s _ _ z n)
 .exact .inr ⟨c,s _ _ z n,s _ _ y (by rintro rfl;rw[hp] at y;cases y)⟩
theorem _root_.L2.dU.jo(t:dU lp q Pzz H):∃ps,H Pzz=some (.jo ps):=by
 rcases t with z|⟨c,z,y⟩
 .exact⟨_,z⟩
 .exact⟨_,z⟩
theorem _root_.L2.dU.putL(t:dU lp q Pt H)(h:H A=some (.lst xs)):dU lp q Pt (upd H A u):=by
 rcases t with z|⟨c,z,y⟩
 .exact .inl (by rw[aq (by rintro rfl;rw[h] at z;cases z)];exact z)
 .exact .inr ⟨c,by rw[aq (by rintro rfl;rw[h] at z;cases z)];exact z,by rw[aq (by rintro rfl;rw[h] at y;cases y)];exact y⟩
theorem jr.putL{PN PF PT PR A:Addr}{H:Hp}{xs:bg}{u:HO}(t:jr PN PF PT PR H)(h:H A=some (.lst xs)):jr PN PF PT PR (upd H A u):=⟨t.n.putL h,t.f.putL h,t.t.putL h,t.r.putL h⟩
def Rl(CE CN CF CT CI CR:Addr)(ranks:dG)(H:Hp):Nat->Addr->Prop
 |0,a=>∃d,H a=some (.ins CE d [])
 |1,a=>∃d,H a=some (.ins CN d [])
 |2,a=>∃d,H a=some (.ins CF d [])
 |3,a=>∃d,H a=some (.ins CT d [])
 |4,a=>∃d,H a=some (.ins CI d [])
 |_,a=>yS CR H a ranks
theorem Rl.kn{CE CN CF CT CI CR:Addr}{ranks:dG}{H H':Hp}{jY:Nat}{a:Addr}(h:Rl CE CN CF CT CI CR ranks H jY a)(k:KN H H'):Rl CE CN CF CT CI CR ranks H' jY a:=by
 match jY,h with
 |0,⟨d,e⟩=>exact⟨d,k _ _ e nofun⟩
 |1,⟨d,e⟩=>exact⟨d,k _ _ e nofun⟩
 |2,⟨d,e⟩=>exact⟨d,k _ _ e nofun⟩
 |3,⟨d,e⟩=>exact⟨d,k _ _ e nofun⟩
 |4,⟨d,e⟩=>exact⟨d,k _ _ e nofun⟩
 |n+5,⟨d,ra,e,e'⟩=>exact⟨d,ra,k _ _ e nofun,k _ _ e' nofun⟩
section
variable {K:a_} {C CE CN CF CT CI CR PN PF PT PR:Addr}
abbrev tO(Ci:Addr)(sp:Sp):TE:=Et Ci "order" sp [] E0 (bb 0) (bJ (bb 1) (bJ (bb 2) (bJ (bb 3) (bJ (bb 4) h_))))
abbrev tOU(C CE CN CF CT CI CR PN PF PT PR:Addr):TE:=fun σ H Q=>tO CE vF σ H Q\/(fun σ H Q=>tO CN (DV C PN) σ H Q\/(fun σ H Q=>tO CF (DW C PF) σ H Q\/(fun σ H Q=>tO CT (DX PT) σ H Q\/(fun σ H Q=>tO CI vF σ H Q\/tO CR (DZ CR PR) σ H Q) σ H Q) σ H Q) σ H Q) σ H Q
theorem SU:([("ranks",v)]:rK).lookup ("order":Str)=none:=by
 rw[gX];rw[show (("order":Str)==("ranks":Str))=false by decide +kernel];rfl
theorem FJ:(oU st i).Pairwise (zn fun _=>0):=mU.imp fun {a b} h=>by unfold zn;lia
theorem Xf(nd:[PN,PF,PT,PR].Nodup)(tb:jr PN PF PT PR H)(N:dE C H L px n ts)(he:H ha=some (.tup (NV homes)))(se:H sa=some (.tup (st.map oV)))(LO:lz n homes st)(b0:0<=bt)(rl:ranks.length=homes.length)(w6:jY<6)(ra:Rl CE CN CF CT CI CR ranks H jY a)(q:∀ (r:Addr) (H':Hp) (out:aQ),jr PN PF PT PR H'->KQ PN PF PT PR H H'->H r=none->out.Perm (oU st st.length)->out.Pairwise (zn (D6 ts homes st bt ranks jY))->H' r=some (.lst (NV out))->Q (.ref r) H'):
  tOU C CE CN CF CT CI CR PN PF PT PR [some (.ref a),some (.ref px),some (.ref ha),some (.ref sa),some (.int bt),x5,x6] H Q:=by
 simp only[gI,bq,jF,not_or,jL,not_false_eq_true,kQ,and_true] at nd;obtain⟨⟨n1,n2,n3⟩,⟨n4,n5⟩,n6⟩:=nd;have kq:∀ {Pzz H'},(Pzz=PN\/Pzz=PF\/Pzz=PT\/Pzz=PR)->mn Pzz H H'->KQ PN PF PT PR H H':=fun h s b o e m1 m2 m3 m4=>s b o e (by rcases h with rfl|rfl|rfl|rfl <;> assumption)
 match jY,w6,ra,q with
 |0,_,⟨d,e⟩,q=>exact .inl ⟨_,rfl,a,d,_,rfl,e,rfl,_,rfl,_,rfl,_,rfl,_,rfl,_,_,_,_,sa,st,rfl,se,LO.le,fun r H' s HI hr=>q r H' _ (tb.same s) (KQ.of s) HI (iD _) FJ hr⟩
 |1,_,⟨d,e⟩,q=>exact .inr (.inl ⟨_,rfl,a,d,_,rfl,e,rfl,_,rfl,_,rfl,_,rfl,_,rfl,_,_,_,px,ha,sa,n,ts,homes,st,rfl,N,he,se,LO,tb.n,fun r H' out t' s HI op pw hr=>q r H' out ⟨t',tb.f.lA s tb.n.jo (dI n1),tb.t.lA s tb.n.jo (dI n2),tb.r.lA s tb.n.jo (dI n3)⟩ (kq (.inl rfl) s) HI op pw hr⟩)
 |2,_,⟨d,e⟩,q=>exact .inr (.inr (.inl ⟨_,rfl,a,d,_,rfl,e,rfl,_,rfl,_,rfl,_,rfl,_,rfl,_,_,_,px,ha,sa,n,ts,homes,st,rfl,N,he,se,LO,tb.f,fun r H' out t' s HI op pw hr=>q r H' out ⟨tb.n.lA s tb.f.jo n1,t',tb.t.lA s tb.f.jo (dI n4),tb.r.lA s tb.f.jo (dI n5)⟩ (kq (.inr (.inl rfl)) s) HI op pw hr⟩))
 |3,_,⟨d,e⟩,q=>exact .inr (.inr (.inr (.inl ⟨_,rfl,a,d,_,rfl,e,rfl,_,rfl,_,rfl,_,rfl,_,rfl,_,_,bt,ha,sa,n,homes,st,rfl,b0,he,se,LO,tb.t,fun r H' out t' s HI op pw hr=>q r H' out ⟨tb.n.lA s tb.t.jo n2,tb.f.lA s tb.t.jo n4,t',tb.r.lA s tb.t.jo (dI n6)⟩ (kq (.inr (.inr (.inl rfl))) s) HI op pw hr⟩)))
 |4,_,⟨d,e⟩,q=>exact .inr (.inr (.inr (.inr (.inl ⟨_,rfl,a,d,_,rfl,e,rfl,_,rfl,_,rfl,_,rfl,_,rfl,_,_,_,_,sa,st,rfl,se,LO.le,fun r H' s HI hr=>q r H' _ (tb.same s) (KQ.of s) HI (iD _) FJ hr⟩))))
 |5,_,rk,q=>
  have rk:yS CR H a ranks:=rk;obtain⟨d,ra',e,e'⟩:=id rk;exact .inr (.inr (.inr (.inr (.inr ⟨_,rfl,a,d,_,rfl,e,SU,_,rfl,_,rfl,_,rfl,_,rfl,_,_,a,ha,sa,n,ranks,homes,st,rfl,rk,rl,he,se,LO,tb.r,fun r H' out t' s HI op pw hr=>q r H' out ⟨tb.n.lA s tb.r.jo n3,tb.f.lA s tb.r.jo n5,tb.t.lA s tb.r.jo n6,t'⟩ (kq (.inr (.inr (.inr rfl))) s) HI op pw hr⟩))))
end
structure Xg(P:bL)(w:World)(K:a_)(mg:cr)(base:Heap)(C CE CN CF CT CI CR PN PF PT PR:Addr):Prop where
 e:P8 K mg "Elder" CI CE false
 n:P8 K mg "Nearest" CI CN false
 f:P8 K mg "Farthest" CI CF false
 t:P8 K mg "Turns" CI CT false
 i:P8 K mg "InTurn" CI CI true
 r:P8 K mg "Ranked" CI CR false
 nd:[PN,PF,PT,PR].Nodup
 oE:jW P w K mg base bo 2 CE "order" UH vF
 oN:jW P w K mg base bo 9 CN "order" UH (DV C PN)
 oF:jW P w K mg base bo 9 CF "order" UH (DW C PF)
 oT:jW P w K mg base bo 9 CT "order" UH (DX PT)
 oI:jW P w K mg base bo 2 CI "order" UH vF
 oR:jW P w K mg base bo 9 CR "order" UH (DZ CR PR)
theorem Xg.ty{C CE CN CF CT CI CR PN PF PT PR:Addr}(R:Xg P w K mg base C CE CN CF CT CI CR PN PF PT PR){H:Hp}{ranks:dG}{jY a:Nat}(w6:jY<6)(h:Rl CE CN CF CT CI CR ranks H jY a):∃t,W.kitOne K t (.ref CI)=some (decide (jY=4))/\O8 K H (.ref a) t:=by
 match jY,w6,h with
 |0,_,⟨d,e⟩=>exact⟨_,R.e.kt,R.e.ty e⟩
 |1,_,⟨d,e⟩=>exact⟨_,R.n.kt,R.n.ty e⟩
 |2,_,⟨d,e⟩=>exact⟨_,R.f.kt,R.f.ty e⟩
 |3,_,⟨d,e⟩=>exact⟨_,R.t.kt,R.t.ty e⟩
 |4,_,⟨d,e⟩=>exact⟨_,R.i.kt,R.i.ty e⟩
 |5,_,rk=>
  obtain⟨d,ra',e,e'⟩:=(show yS CR H a ranks from rk)
  exact⟨_,R.r.kt,R.r.ty e⟩
abbrev sHE:Stmt:=top 24
theorem SV:aN ["net","homes","stand","letters","goes","letter"] ["net","homes","stand","letters","goes"] (aw sHE):=dW (by decide +kernel)
def SW(C:Addr):Sp:=fun vs H Q _=>∃ (L:iP) (px ha sa la ga:Addr) (n:Nat) (ts:Ts) (homes os:aQ) (st gs:bA),vs=[.ref px,.ref ha,.ref sa,.ref la,.ref ga]/\dE C H L px n ts/\¬ L ga/\H ha=some (.tup (NV homes))/\H sa=some (.tup (st.map oV))/\lz n homes st/\(∀l∈os,l∈oU st st.length)/\H la=some (.lst (NV os))/\la≠ga/\H ga=some (.lst (gs.map oV))/\gs.length=st.length/\
 ∀H',aO ga H H'->H' ga=some (.lst ((os.foldl (FE n ts st) (os.foldl (r_ n ts homes st) gs)).map oV))->Q .cI H'
theorem qa:∀ {ls:aQ} {gs:bA},(ls.foldl (r_ n ts homes st) gs).length=gs.length
 |[],gs=>rfl
 |l::ls,gs=>by rw[iM,qa];unfold r_;rw[ja]
theorem FK:∀ {ls:aQ} {gs:bA},(ls.foldl (FE n ts st) gs).length=gs.length
 |[],gs=>rfl
 |l::ls,gs=>by rw[iM,FK];unfold FE;split <;> simp
theorem Xh(F:iH K "hand_eagerly" "hand_eagerly" sHE f fd)(T:NT K mg C)(MG:jW P w K mg base bo 6 C "good" ["self","house","home"] (yQ C))(MO:jW P w K mg base bo 5 C "out" ["self","house"] (Du C))(FF:d9 P w K mg base bo 1 "first_free" ["others","stand","goes","letter"] Sy):
  bU P w K mg base bo 7 f fd ["net","homes","stand","letters","goes"] (SW C):=by
 obtain⟨fG,fdG,mG,bG,GG⟩:=MG.ex;obtain⟨fO,fdO,mO,bO,GO⟩:=MO.ex;refine F.ok SV (fun vs H Q E h=>?_) (fun fX A outer s H vs Q E hr h=>?_)
 .obtain⟨L,px,ha,sa,la,ga,n,ts,homes,os,st,gs,rfl,_⟩:=h;rfl
 .obtain⟨L,px,ha,sa,la,ga,n,ts,homes,os,st,gs,rfl,N,nLg,hH,hS,LO,ho,hL,nlg,hG,gl,q⟩:=h;have h1:df 1 _:=hr.mono (by decide);have h5:df 5 _:=hr.mono (by decide);refine⟨_,(ak (du eI rfl (bN (pv 3)) (aA (i:=5) SV.nd rfl aL)
    (av (d8 (aH FF h1 aM (aa (eZ (pv 0) T.cl mG GG hr bG .nil aM (aa (aX eN (pv 2) (pv 5) (fun _ _=>rfl)) (aa (aX eN (pv 1) (pv 5) (fun _ _=>rfl)) ag))) (aa (pv 2) (aa (pv 4) (aa (pv 5) ag))))) (gx (pv 4) (pv 5) dY))))
   (av (du eI rfl (bN (pv 3)) (aA (i:=5) SV.nd rfl aL)
    (av (dS (aY Cr (aX aG (pv 4) (pv 5) (fun _ _=>rfl)) ii (bp _)) (av (d8 (aH FF h1 aM (aa (eZ (pv 0) T.cl mO GO h5 bO .nil aM (aa (aX eN (pv 2) (pv 5) (fun _ _=>rfl)) ag)) (aa (pv 2) (aa (pv 4) (aa (pv 5) ag))))) (gx (pv 4) (pv 5) dY))) b8))))),?_⟩
  have n2:=N.lD.n2;have npg:px≠ga:=by obtain⟨dx,fs,a,_⟩:=N.N4;rintro rfl;rw[a] at hG;cases hG
  have nhg:ha≠ga:=by rintro rfl;rw[hH] at hG;cases hG
  have nsg:sa≠ga:=by rintro rfl;rw[hS] at hG;cases hG
  refine⟨_,rfl,la,rfl,⟨_,a8.of hL⟩,eM (K:=K) (xs:=NV os) (fun j σ Hc=>(∃x,σ=[some (.ref px),some (.ref ha),some (.ref sa),some (.ref la),some (.ref ga),x])/\aO ga H Hc/\Hc ga=some (.lst (((os.take j).foldl (r_ n ts homes st) gs).map oV))) ⟨⟨_,rfl⟩,aO.refl,hG⟩ (fun j σ Hc _ z=>a8.of (z.2.1 _ _ hL nlg)) ?_ ?_⟩
  .rintro j x σ Hc hx ⟨⟨x5,rfl⟩,sc,qb⟩;obtain⟨l,hv,rfl⟩:=pW hx;obtain⟨hl,y,ey,hy,HJ⟩:=LO.at (ho l (dz hv));have tk:os.take (j+1)=os.take j++[l]:=by rw[gW,hv];rfl
   rw[tk,xx,iM,uB];have Im:((os.take j).foldl (r_ n ts homes st) gs).length=st.length:=by rw[qa,gl]
   generalize (os.take j).foldl (r_ n ts homes st) gs=g at *;have Nc:=N.keep (fun b o l e=>sc b o e (by rintro rfl;exact nLg l)) (fun o e=>sc _ _ e npg);have NY:=sc _ _ hH nhg;have vL:=sc _ _ hS nsg;obtain⟨dx,fs,i1,i2,i3⟩:=Nc.N4;refine⟨_,rfl,px,dx,fs,rfl,i1,i2,_,rfl,_,rfl,sa,_,_,_,rfl,rfl,cu.of vL,aD (kI hl),?_⟩;rw[ey];have lg:(iT n ts y (homes.getD l 0)).length<=n:=aZ (iK _ _) p9;refine⟨_,rfl,_,rfl,ha,_,_,_,rfl,rfl,cu.of NY,aD (iS (by rw[LO.len];exact hl)),L,px,n,ts,y,homes.getD l 0,rfl,Nc,hy,HJ,fun r1 H1 s1 Dz g1=>?_⟩;refine⟨_,rfl,_,rfl,_,rfl,r1,sa,ga,iT n ts y (homes.getD l 0),st,g,l,rfl,g1,s1 _ _ vL,s1 _ _ qb,Im,LO.le,hl,fun H4 s4=>?_⟩;have Xi:=s1.trans s4;refine⟨_,rfl,_,rfl,ga,_,(l:Int),l,rfl,rfl,Xi _ _ qb,eJ (by rw[aT,Im];exact hl),⟨_,rfl⟩,fun b o e m=>by rw[aq m];exact Xi _ _ (sc _ _ e m),?_⟩;rw[ae];unfold r_;rw[ey,xI];rfl
  .rintro σ Hc ⟨⟨x5,rfl⟩,sc,qb⟩;rw[be,i_] at qb;have Im:(os.foldl (r_ n ts homes st) gs).length=st.length:=by rw[qa,gl]
   generalize os.foldl (r_ n ts homes st) gs=g0 at *;refine⟨_,rfl,la,rfl,⟨_,a8.of (sc _ _ hL nlg)⟩,eM (K:=K) (xs:=NV os) (fun j σ Hc=>(∃x,σ=[some (.ref px),some (.ref ha),some (.ref sa),some (.ref la),some (.ref ga),x])/\aO ga H Hc/\Hc ga=some (.lst (((os.take j).foldl (FE n ts st) g0).map oV))) ⟨⟨_,rfl⟩,sc,qb⟩ (fun j σ Hc _ z=>a8.of (z.2.1 _ _ hL nlg)) ?_ ?_⟩
   .clear sc qb;rintro j x σ Hc hx ⟨⟨x5,rfl⟩,sc,qb⟩;obtain⟨l,hv,rfl⟩:=pW hx;obtain⟨hl,y,ey,hy,HJ⟩:=LO.at (ho l (dz hv));have tk:os.take (j+1)=os.take j++[l]:=by rw[gW,hv];rfl
    rw[tk,xx,iM,uB];have gl2:((os.take j).foldl (FE n ts st) g0).length=st.length:=by rw[FK,Im]
    generalize (os.take j).foldl (FE n ts st) g0=g at *;have Nc:=N.keep (fun b o l e=>sc b o e (by rintro rfl;exact nLg l)) (fun o e=>sc _ _ e npg);have vL:=sc _ _ hS nsg;obtain⟨dx,fs,i1,i2,i3⟩:=Nc.N4;refine⟨_,rfl,_,rfl,ga,_,_,_,rfl,rfl,a8.of qb,aD (kI (by rw[gl2];exact hl)),rfl,_,rfl,?_⟩;unfold FE;cases eg:g.getD l none with
    |some z=>refine r6 rfl ⟨⟨_,rfl⟩,sc,?_⟩;rw[ao (fun z=>by cases z)];exact qb
    |none=>
    rw[ap rfl];refine wZ rfl ⟨_,rfl,px,dx,fs,rfl,i1,i3,_,rfl,_,rfl,sa,_,_,_,rfl,rfl,cu.of vL,aD (kI hl),?_⟩;rw[ey];refine⟨L,px,n,ts,y,rfl,Nc,hy,fun r1 H1 s1 Dz g1=>?_⟩;have lo:=p9 (n:=n) (ts:=ts) (h:=y);refine⟨_,rfl,_,rfl,_,rfl,r1,sa,ga,bX n ts y,st,g,l,rfl,g1,s1 _ _ vL,s1 _ _ qb,gl2,LO.le,hl,fun H4 s4=>?_⟩;have Xi:=s1.trans s4;refine⟨_,rfl,_,rfl,ga,_,(l:Int),l,rfl,rfl,Xi _ _ qb,eJ (by rw[aT,gl2];exact hl),⟨_,rfl⟩,fun b o e m=>by rw[aq m];exact Xi _ _ (sc _ _ e m),?_⟩;rw[ae,xI];rfl
   .rintro σ Hc ⟨⟨x5,rfl⟩,sc,qb⟩;rw[be,i_] at qb;exact q Hc sc qb
theorem D8:aN ["rule","net","homes","stand","beat","letters","goes"] ["rule","net","homes","stand","beat"] (aw Li):=dW (by decide +kernel)
def SX:Sp:=fun vs _ _ _=>vs.length=5/\False
theorem Xj:bU P w K mg base bo k f fd ["net","homes","stand","letters","goes"] SX:=⟨fun _ _ _ _ h=>h.2.elim,fun _ _ _ _ _ _ _ _ _ _ _ _ _ h=>h.2.elim⟩
def D9(C CE CN CF CT CI CR PN PF PT PR:Addr):Sp:=fun vs H Q _=>∃ (L:iP) (a px ha sa:Addr) (bt:Int) (jY n:Nat) (ts:Ts) (homes:aQ) (st:bA) (ranks:dG),vs=[.ref a,.ref px,.ref ha,.ref sa,.int bt]/\jY<6/\jY≠4/\Rl CE CN CF CT CI CR ranks H jY a/\dE C H L px n ts/\H ha=some (.tup (NV homes))/\H sa=some (.tup (st.map oV))/\lz n homes st/\0<=bt/\ranks.length=homes.length/\jr PN PF PT PR H/\
 ∀ (t:Addr) (H':Hp) (mZ:aQ),jr PN PF PT PR H'->KQ PN PF PT PR H H'->mZ.Perm (oU st st.length)->mZ.Pairwise (zn (D6 ts homes st bt ranks jY))->H' t=some (.tup ((Lq n ts homes st mZ).map oV))->Q (.ref t) H'
theorem Oe{f C CE CN CF CT CI CR PN PF PT PR:Addr}{fd:eA}(F:iH K "hand" "hand" Li f fd)(B:Bl mg)(R:Xg P w K mg base C CE CN CF CT CI CR PN PF PT PR)(HT:d9 P w K mg base bo 1 "hand_in_turn" ["net","homes","stand","letters","goes"] SX)(HE:d9 P w K mg base bo 7 "hand_eagerly" ["net","homes","stand","letters","goes"] (SW C)):
  bU P w K mg base bo 10 f fd ["rule","net","homes","stand","beat"] (D9 C CE CN CF CT CI CR PN PF PT PR):=by
 obtain⟨f1,d1,m1,b1,G1⟩:=R.oE.ex;obtain⟨f2,d2,m2,b2,G2⟩:=R.oN.ex;obtain⟨f3,d3,m3,b3,G3⟩:=R.oF.ex;obtain⟨f4,d4,m4,b4,G4⟩:=R.oT.ex;obtain⟨f5,d5,m5,b5,G5⟩:=R.oI.ex;obtain⟨f6,d6,m6,b6,G6⟩:=R.oR.ex;refine F.ok D8 (fun vs H Q E h=>?_) (fun fX A outer s H vs Q E hr h=>?_)
 .obtain⟨L,a,px,ha,sa,bt,jY,n,ts,homes,st,ranks,rfl,_⟩:=h;rfl
 .obtain⟨L,a,px,ha,sa,bt,jY,n,ts,homes,st,ranks,rfl,w6,w4,hR,N,hH,hS,LO,b0,SY,tb,q⟩:=h;have h1:df 1 _:=hr.mono (by decide);have h2:df 2 _:=hr.mono (by decide);have h7:df 7 _:=hr.mono (by decide);refine'⟨_,(ak (aW (i:=5) D8.nd rfl aL (A7 (eZ (pv 0) R.e.cl m1 G1 h2 b1 .nil aM (aa (pv 1) (aa (pv 2) (aa (pv 3) (aa (pv 4) ag))))) (A7 (eZ (pv 0) R.n.cl m2 G2 hr b2 .nil aM (aa (pv 1) (aa (pv 2) (aa (pv 3) (aa (pv 4) ag))))) (A7 (eZ (pv 0) R.f.cl m3 G3 hr b3 .nil aM (aa (pv 1) (aa (pv 2) (aa (pv 3) (aa (pv 4) ag))))) (A7 (eZ (pv 0) R.t.cl m4 G4 hr b4 .nil aM (aa (pv 1) (aa (pv 2) (aa (pv 3) (aa (pv 4) ag))))) (A7 (eZ (pv 0) R.i.cl m5 G5 h2 b5 .nil aM (aa (pv 1) (aa (pv 2) (aa (pv 3) (aa (pv 4) ag))))) (eZ (pv 0) R.r.cl m6 G6 hr b6 .nil aM (aa (pv 1) (aa (pv 2) (aa (pv 3) (aa (pv 4) ag)))))))))))
   (ak (fE (i:=6) (g:=(bH 0)) (te:=(tC .cI)) (NB:=["home"]) (src:=[none]) (bz (by kernel_rfl)) rfl (Co (pv 2)) ?g1 ?t1 ?e1 D8.nd rfl rfl rfl)
   (ak (dS (jQ (aJ Gk (by rfl) B.Pw rH (aa (pv 0) (aa (tD (v:=.ref CI) rfl R.i.Ng rfl) ag)))) (av (cG (aH HT h1 aM (aa (pv 1) (aa (pv 2) (aa (pv 3) (aa (pv 5) (aa (pv 6) ag)))))))) (av (cG (aH HE h7 aM (aa (pv 1) (aa (pv 2) (aa (pv 3) (aa (pv 5) (aa (pv 6) ag)))))))))
   (av (bh (cU fh (by rfl) B.tup oX (aa (pv 6) ag))))))),?_⟩
  case g1=>exact fun cl C s₃ H₃ fp=>(aA (i:=0) NZ rfl aL cW)
  case t1=>exact fun cl C s₃ H₃ fp=>dC
  case e1=>exact fun cl C s₃ H₃ fp=>ii
  refine Xf (CE:=CE) (CN:=CN) (CF:=CF) (CT:=CT) (CI:=CI) (CR:=CR) (L:=L) R.nd tb N hH hS LO b0 SY w6 hR fun la H1 mZ t1 k1 la0 op pw tX=>?_;have kn:=k1.kn tb;have hH1:=kn _ _ hH nofun;have ins:∃dx fs,H px=some (.ins C dx fs):=let ⟨dx,fs,a,_⟩:=N.N4;⟨dx,fs,a⟩;have N1:dE C H1 (fun b=>H1 b≠none) px n ts:=by
   obtain⟨dx,fs,a⟩:=ins;exact(N.W9.keep (fun b o l e=>by obtain⟨_,o',e',n⟩:=l;rw[e] at e';cases e';exact kn b o e n) fun o e=>kn _ _ e (by rw[a] at e;cases e;exact fun ps z=>by cases z)).own
  refine⟨_,rfl,ha,rfl,⟨_,cu.of hH1⟩,fun ga hg=>?_⟩;refine vB (K:=K) (a:=ha) (xs:=NV homes) (fun i ys σ H2=>(∃x,σ=[x])/\aI H1 H2/\H2 ga=some (.lst ys)/\ys=List.replicate i V.cI) ⟨⟨_,rfl⟩,aj hg,ae,rfl⟩ (fun i ys σ H2 _ z=>cu.of (z.2.1 _ _ hH1)) ?_ ?_
  .rintro i x ys σ H2 Kt Kf hx ⟨⟨x',rfl⟩,sm,L3,rfl⟩ kt kf;have hi:i<homes.length:=by have:=(eR.mp hx).1;rwa [be] at this
   have:=LO.len;have:=LO.le;exact kt _ _ _ L3 (by rw[i9];exact bv (show i<17 by lia) (by decide)) ⟨⟨_,rfl⟩,bj sm hg,ae,by rw[ud]⟩
  rintro ys σ H2 ⟨_,sm,L3,rfl⟩;rw[be,LO.len,show V.cI=oV none from rfl,<-List.map_replicate] at L3;have v9:=(hR.kn kn).kn (fun b o e _=>sm b o e);obtain⟨tt,kt,ty⟩:=R.ty w6 v9;rw[gY w4] at kt;have Il:=sm _ _ (kn _ _ hS nofun);refine⟨_,rfl,.ref a,CI,tt,false,rfl,kt,ty,_,rfl,?_⟩;refine jS ⟨_,rfl,_,rfl,_,rfl,_,rfl,_,rfl,fun b=>H1 b≠none,px,ha,sa,la,ga,n,ts,homes,mZ,st,_,rfl,N1.same sm,fun z=>z hg,sm _ _ hH1,Il,LO,fun l hl=>op.mem_iff.mp hl,sm _ _ tX,am tX hg,L3,by rw[i9],fun H3 s3 hg3=>?_⟩;refine⟨_,rfl,ga,_,rfl,.inl ⟨a8.of hg3,fun t ht=>?_⟩⟩;have k3:∀b o,H1 b=some o->(upd H3 t (.tup ((Lq n ts homes st mZ).map oV))) b=some o:=fun b o e=>aj ht _ _ (s3 _ _ (sm _ _ e) (am e hg));exact q t _ mZ (t1.same k3) (fun b o e n1 n2 n3 n4=>k3 _ _ (k1 b o e n1 n2 n3 n4)) op pw ae
end
end rY
namespace L2
open PySem PySem.Spec PyProof.Rows
section
variable {X:Cx} {pos:Pos}
def Xk(i j k:Nat)(ta:TA):TS:=fun D σ H=>ta σ H fun vs H1=>∃u v w,vs=[u,v,w]/\D.nx (((σ.set i (some u)).set j (some v)).set k (some w)) H1
theorem Of{kt k2 Em}(hc:X.calm=true)(hN:X.N.Nodup)(hi:X.N[i]?=some x)(hj:X.N[j]?=some y)(hk:X.N[k]?=some z)(zG:i≠j)(hik:i≠k)(hjk:j≠k)(hx:X.env.scope.names.lookup x=some .local)(hy:X.env.scope.names.lookup y=some .local)(hz:X.env.scope.names.lookup z=some .local)(ha:PA X [a,b,c] ta)(hw:swappedStores [.Tuple [.Name x px,.Name y py,.Name z pz] kt pt] (.Tuple [a,b,c] k2 Em) X.env=pure (some [x,y,z]))(hs:swapsWithSole [.Tuple [.Name x px,.Name y py,.Name z pz] kt pt] (.Tuple [a,b,c] k2 Em) pos.line X.env=pure false:=by rfl):
  PS X (.Assign [.Tuple [.Name x px,.Name y py,.Name z pz] kt pt] (.Tuple [a,b,c] k2 Em) pos) (Xk i j k ta):=by
 intro af s σ H D I h;rw[exec_Assign_arm];refine au (n9 ?_);rw[hs];refine au (wpAny_pure ?_);rw[ao (by decide)];refine au (Tuple_ (eD (ha _ af s σ H _ I h) fun us s1 ⟨vs,H1,I1,r1,q1⟩=>?_));obtain⟨u,v,w,e1,q1⟩:=q1;subst e1;obtain⟨u1,u2,u3,rfl,ru,rv,vO⟩:∃u1 u2 u3,us=[u1,u2,u3]/\bW u u1/\bW v u2/\bW w u3:=by
  cases r1 with
  |cons p q=>
   cases q with
   |cons p' q'=>
    cases q' with
    |cons p'' q''=>
     cases q'';exact⟨_,_,_,rfl,p,p',p''⟩
 refine kJ ?_ (by show 3<=sizeLine;decide);have I2:aU X af σ H1 { s1 with heap:=s1.heap.push { cls:=.type "tuple",data:=.seq [u1,u2,u3].toArray } }:=I1.kept (t':=s1.toks) fun b o e=>bP _ e;rw[hw];refine au (wpAny_pure ?_);show wpAny (model X.prog X.w) X.A (do rule "assign.swapped-stores";let items <- unpackItems (.ref s1.heap.objs.size) 3 none;assignInOrder [fun v=>bindName X.env z v,fun v=>bindName X.env y v,fun v=>bindName X.env x v] items.reverse;pure Flow.next) _ _ _;refine au (fv (au (unpackItems_tuple (items:=#[u1,u2,u3]) (I.ok.hd hc) (IsTup.new s1.heap _) fun h' qQ=>?_)));have I3:=I2.kept (h':=h') (t':=s1.toks) fun b o e=>qQ b o (bf (aS e)) e;show wpAny _ _ (assignInOrder [fun v=>bindName X.env z v,fun v=>bindName X.env y v,fun v=>bindName X.env x v] [u3,u2,u1] >>= fun _=>pure Flow.next) _ _ _;refine au (qC (uE (iq I3 hN hk (.inl hz) vO (fun s2 I4=>?_) (.inr hz))));refine qC (uE (iq I4 hN hj (.inl hy) rv (fun s3 I5=>?_) (.inr hy)));refine qC (uE (iq I5 hN hi (.inl hx) ru (fun s4 I6=>assignInOrder_nil (wpAny_pure ?_)) (.inr hx)));rw[xG _ _ (dI hjk),xG _ _ (dI hik),xG _ _ (dI zG)] at I6;exact⟨_,H1,I6,q1⟩
end
end L2
namespace rY
open PySem L2 lj
abbrev Lv:Stmt:=top 55
abbrev D_:Stmt:=top 56
abbrev Lw:Stmt:=top 57
abbrev sIH:Stmt:=top 58
theorem mH:(["_law_other","_law_house","_law_taken"]:bQ).Nodup:=by decide +kernel
theorem iJ:(["_law_other","_law_far_here","_law_home","_law_house"]:bQ).Nodup:=by decide +kernel
theorem SZ:(["_law_one"]:bQ).Nodup:=by decide +kernel
theorem S4:Wx X H 0 (oV o) (oV o):=by
 cases o with
 |none=>exact fun af s σ A u v I hu rx ry=>xV (A:=A) (s:=s) (y:=.cI) (x:=.cI) rx ry rfl rfl
 |some y=>exact Ny
theorem Og{X:Cx}{H:Hp}{os:bA}:∀i,i<(os.map oV).length->i<(os.map oV).length->Wx X H 0 ((os.map oV).getD i .cI) ((os.map oV).getD i .cI):=fun i h _=>by
 rw[cw,cz h,qy,uw];exact S4
theorem Oh(hu:X.A.units+2<cLine):nh X (compareOp .Eq) (Wy X false 0):=Nz (d:=0) (by lia)
theorem zd:W.kitOne K (.type "NoneType") (.type "bool")=some false:=by kernel_rfl
section
variable {P:bL} {w:World} {K:a_} {mg:cr} {base:Heap}
theorem S5:aN ["_law_house","_law_some","_law_taken"] ["_law_house","_law_some","_law_taken"] (aw Lv):=dW (by decide +kernel)
def Ea:Sp:=fun vs H Q _=>∃ (y:Nat) (l z:Addr) (os:aQ) (zs:Zs),vs=[.int (y:Nat),.ref l,.ref z]/\H l=some (.lst (NV os))/\os.length<=1000/\H z=some (.lst (zr zs))/\PO H zs/\∀ (r:Addr) (H':Hp),aI H H'->H r=none->H' r=some (.lst (NV (os.filter fun h=>!decide ((ci y,ci h)∈zp zs))))->Q (.ref r) H'
theorem Oi(F:iH K "_law_free" "_law_free" Lv f fd):bU P w K mg base bo 1 f fd ["_law_house","_law_some","_law_taken"] Ea:=by
 refine F.ok S5 (fun vs H Q E h=>?_) (fun fX A outer s H vs Q E hr h=>?_)
 .obtain⟨y,l,z,os,zs,rfl,_⟩:=h;rfl
 .obtain⟨y,l,z,os,zs,rfl,hl,ol,hz,po,q⟩:=h;refine'⟨_,(av (bh ?c1)),?_⟩;case c1=>
   refine' cQ (g:=(bH 0)) (tt:=(pf (jR (Rb K true) (sn (bJ (bb 1) (bJ (bb 0) h_))) (bb 2)))) (te:=(bb 0)) (NB:=["_law_other","_law_house","_law_taken"]) (src:=[none,some 0,some 2]) (bz (by kernel_rfl)) rfl (bN (pv 1)) ?g ?t ?e;case g=>exact fun cl C s₃ H₃ fp=>(aA (i:=0) mH rfl aL cW)
   case t=>exact fun cl C s₃ H₃ fp=>g8 (aY (mP hr.u) (bT (aa (pv 1) (aa (pv 0) ag))) (pv 2) rfl)
   case e=>exact fun cl C s₃ H₃ fp=>(pv 0)
  refine⟨_,rfl,l,rfl,⟨_,a8.of hl⟩,fun D hD=>?_⟩;refine yM os (fun (x:Nat)=>V.int (x:Int)) (fun h=>!decide ((ci y,ci h)∈zp zs)) (fun σ=>∃a,σ=[a,some (.int (y:Nat)),some (.ref z)]) hl hD ol ⟨_,rfl⟩ ?_ ?_
  .rintro x σ H2 Kt Kf hx ⟨a,rfl⟩ sm kt kf;refine⟨_,rfl,_,rfl,by show 2<=sizeLine;decide,fun t ht=>?_⟩;have st:=aj (o:=.tup [.int (y:Nat),.int (x:Nat)]) ht;obtain⟨l1,l2⟩:=Fg (K:=K) ((po.same sm).same st);refine⟨_,rfl,t,z,(ci y,ci x),zs.map (·.1),zp zs,rfl,rfl,cu.of ae,?_,?_,l2,_,rfl,?_⟩
   .rw[<-iX];exact a8.of (st _ _ (sm _ _ hz))
   .rw[aT];exact l1
   rw[ap rfl];refine gU (fun e=>?_) (fun e=>?_)
   .exact⟨_,rfl,kt _ _ ⟨_,rfl⟩ st e⟩
   .exact kf _ _ ⟨_,rfl⟩ st (by simpa using e)
  .intro H2 sm h2;exact q D H2 sm hD h2
theorem Oj:aN ["_law_outs_here","_law_far_here","_law_house","_law_home"] ["_law_outs_here","_law_far_here","_law_house","_law_home"] (aw D_):=dW (by decide +kernel)
def ze:Sp:=fun vs H Q _=>∃ (oa fa:Addr) (n i j:Nat) (ts:Ts) (L L':iP),vs=[.ref oa,.ref fa,.int (i:Nat),.int (j:Nat)]/\cJ n ts/\bK H L oa n (bX n ts)/\bK H L' fa n (fun h=>(List.range n).map (far ts h))/\i<n/\j<n/\∀ (r:Addr) (H':Hp),aI H H'->H' r=some (.lst (NV (iT n ts i j)))->Q (.ref r) H'
theorem Lx(F:iH K "_law_good" "_law_good" D_ f fd):bU P w K mg base bo 1 f fd ["_law_outs_here","_law_far_here","_law_house","_law_home"] ze:=by
 refine F.ok Oj (fun vs H Q E h=>?_) (fun fX A outer s H vs Q E hr h=>?_)
 .obtain⟨oa,fa,n,i,j,ts,L,L',rfl,_⟩:=h;rfl
 .obtain⟨oa,fa,n,i,j,ts,L,L',rfl,fi,RO,RF,hi,hj,q⟩:=h;have n2:=fi.n2;refine'⟨_,(av (bh ?c1)),?_⟩;case c1=>
   refine' cQ (g:=(bH 0)) (tt:=(pf (jR (zM fun i j=>.bl (decide (i<j))) (jR (sr K) (jR (sr K) (bb 1) (bb 0)) (bb 2)) (jR (sr K) (jR (sr K) (bb 1) (bb 3)) (bb 2))))) (te:=(bb 0)) (NB:=["_law_other","_law_far_here","_law_home","_law_house"]) (src:=[none,some 1,some 3,some 2]) (bz (by kernel_rfl)) rfl (bN (aX aG (pv 0) (pv 2) (fun _ _=>rfl))) ?g ?t ?e;case g=>exact fun cl C s₃ H₃ fp=>(aA (i:=0) iJ rfl aL cW)
   case t=>exact fun cl C s₃ H₃ fp=>g8 (aY ni (aX aG (aX aG (pv 1) (pv 0) (fun _ _=>rfl)) (pv 2) (fun _ _=>rfl)) (aX aG (aX aG (pv 1) (pv 3) (fun _ _=>rfl)) (pv 2) (fun _ _=>rfl)) (bp _))
   case e=>exact fun cl C s₃ H₃ fp=>(pv 0)
  obtain⟨bs,b,r1,r2,r3,_⟩:=RO.row hi;have hg:∀v,(NV ((List.range n).map (far ts v)))[j]?=some (.int (far ts v j:Nat)):=fun v=>by
   rw[cA,cA,f_ hj];rfl
  obtain⟨bi,b0,i1,i2,i3,_⟩:=RF.row hi;refine⟨_,rfl,_,rfl,oa,_,_,_,rfl,rfl,a8.of r1,aD r2,b,rfl,⟨_,a8.of r3⟩,fun D hD=>?_⟩;refine yM (bX n ts i) (fun (x:Nat)=>V.int (x:Int)) (fun o=>decide (far ts o j<far ts i j)) (fun σ=>∃a,σ=[a,some (.ref fa),some (.int (j:Nat)),some (.int (i:Nat))]) r3 hD (aZ p9 (by lia)) ⟨_,rfl⟩ ?_ ?_
  .rintro x σ H2 Kt Kf hx ⟨a,rfl⟩ sm kt kf;obtain⟨bs2,b2,q1,q2,q3,_⟩:=RF.row (tR fi hi hx);refine⟨_,rfl,_,rfl,fa,_,_,_,rfl,rfl,a8.of (sm _ _ q1),aD q2,_,rfl,b2,_,_,_,rfl,rfl,a8.of (sm _ _ q3),aD (hg x),_,rfl,_,rfl,fa,_,_,_,rfl,rfl,a8.of (sm _ _ i1),aD i2,_,rfl,b0,_,_,_,rfl,rfl,a8.of (sm _ _ i3),aD (hg i),_,_,rfl,rfl,_,rfl,?_⟩;refine gU (fun e=>?_) (fun e=>?_)
   .exact⟨_,rfl,kt _ _ ⟨_,rfl⟩ (aI.refl _) (by simp at e |-;lia)⟩
   .exact kf _ _ ⟨_,rfl⟩ (aI.refl _) (by simp at e |-;lia)
  .intro H2 sm h2;exact q D H2 sm h2
theorem aaD:aN ["_law_told","_law_due"] ["_law_told","_law_due"] (aw sIH):=dW (by decide +kernel)
def S6:Sp:=fun vs H Q _=>∃ (a b:Addr) (os:bA),vs=[.ref a,.ref b]/\H a=some (.tup (os.map oV))/\H b=some (.tup (os.map oV))/\os.length<=16/\∀H',aI H H'->Q (.bl true) H'
theorem Xl{f:Addr}{fd:eA}(F:iH K "_law_is_handing" "_law_is_handing" sIH f fd)(B:Bl mg):bU P w K mg base bo 1 f fd ["_law_told","_law_due"] S6:=by
 refine F.ok aaD (fun vs H Q E h=>?_) (fun fX A outer s H vs Q E hr h=>?_)
 .obtain⟨a,b,os,rfl,_⟩:=h;rfl
 .obtain⟨a,b,os,rfl,ha,hb,ol,q⟩:=h;refine'⟨_,(av (bh (l4 (aJ jf (by rfl) B.Pw rH (aa (pv 0) (aa (kZ (v:=.ty "tuple") rfl B.tup oX rfl) ag))) (l4 (pe (Oh hr.u) (pv 0) (pv 1) (bp _)) (qP (IP (aJ (wK rfl) (by rfl) B.any PyProof.Rows.boot_any (aa ?c1 ag)))))))),?_⟩;case c1=>
   refine' cQ (g:=(bH 0)) (te:=Vi (Vw K) (bJ (bb 0) (bJ (tC (.ty "bool")) h_))) (NB:=["_law_one"]) (src:=[none]) (bz (by kernel_rfl)) rfl (Co (pv 0)) ?g ?t ?e;case g=>exact fun cl C s₃ H₃ fp=>(aA (i:=0) SZ rfl aL cW)
   case t=>exact fun cl C s₃ H₃ fp=>dC
   case e=>exact fun cl C s₃ H₃ fp=>(aJ jf (by rfl) B.Pw rH (aa (pv 0) (aa (kZ (v:=.ty "bool") rfl B.bool PyProof.Rows.boot_bool rfl) ag)))
  refine⟨_,rfl,_,_,_,.type "tuple",true,rfl,⟨rfl,yx⟩,.of (.tup ha),true,rfl,?_⟩;refine vT ⟨_,rfl,_,rfl,a,b,_,_,rfl,rfl,cu.of ha,cu.of hb,rfl,Og,_,rfl,vT ?_⟩;refine⟨_,rfl,a,rfl,⟨_,cu.of ha⟩,fun D hD=>?_⟩;refine vB (K:=K) (a:=a) (xs:=os.map oV) (fun i ys σ H2=>(∃x,σ=[x])/\aI H H2/\H2 D=some (.lst ys)/\ys=(List.replicate i false).map V.bl) ⟨⟨_,rfl⟩,aj hD,ae,rfl⟩ (fun i ys σ H2 _ z=>cu.of (z.2.1 _ _ ha)) ?_ ?_
  .rintro i x ys σ H2 Kt Kf hx ⟨⟨x',rfl⟩,sm,jy,rfl⟩ kt kf;obtain⟨hi,rfl⟩:=DR hx;have d_:=kt (.bl false) [some (oV (os.getD i none))] H2 jy (by rw[aT,i9];exact bv (show i<17 by lia) (by decide)) ⟨⟨_,rfl⟩,bj sm hD,ae,by rw[ud,dt];rfl⟩;cases e:os.getD i none with
   |none=>rw[e] at d_;exact⟨_,rfl,_,_,_,.type "NoneType",false,rfl,⟨rfl,zd⟩,.of .cI,d_⟩
   |some y=>rw[e] at d_;exact⟨_,rfl,_,_,_,.type "int",false,rfl,⟨rfl,pQ⟩,.of (.int _),d_⟩
  .rintro ys σ H2 ⟨_,sm,jy,rfl⟩;refine⟨D,_,rfl,a8.of jy,_,rfl,?_⟩;have e:(List.replicate (os.map oV).length false).any id=false:=by
    rw[ur];intro x qQ;rw[(BS.mp qQ).2];decide
   rw[e];exact q _ sm
theorem Ly{g:bA}{l:Nat}(h:g.getD l none=none):g.set l ([]:aQ).head?=g:=by
 show g.set l none=g;apply lK;intro i;rw[um];by_cases c:l=i
 .subst c;rw[ap rfl];split
  .rename_i d;rw[yP (d:=none) d,h]
  .rename_i d;rw[f9 (by lia)]
 .rw[ao c]
theorem mI:aN ["_law_order_here","_law_outs_here","_law_far_here","_law_homes","_law_stand","_law_at_once","_law_goals","_law_taken","_law_late","_law_letter","_law_house","_law_free_here"] ["_law_order_here","_law_outs_here","_law_far_here","_law_homes","_law_stand","_law_at_once"] (aw Lw):=dW (by decide +kernel)
def Eb:Sp:=fun vs H Q _=>∃ (la oa fa ha sa:Addr) (n:Nat) (ts:Ts) (L L':iP) (homes os:aQ) (st:bA),vs=[.ref la,.ref oa,.ref fa,.ref ha,.ref sa,.bl false]/\H la=some (.lst (NV os))/\os.Perm (oU st st.length)/\cJ n ts/\bK H L oa n (bX n ts)/\L oa/\bK H L' fa n (fun h=>(List.range n).map (far ts h))/\L' fa/\H ha=some (.tup (NV homes))/\H sa=some (.tup (st.map oV))/\lz n homes st/\kH n ts homes st/\
 ∀ (t:Addr) (H':Hp),aI H H'->H' t=some (.tup ((Lq n ts homes st os).map oV))->Q (.ref t) H'
theorem Ol{f:Addr}{fd:eA}(F:iH K "_law_walk" "_law_walk" Lw f fd)(B:Bl mg)(FR:d9 P w K mg base bo 1 "_law_free" ["_law_house","_law_some","_law_taken"] Ea)(GD:d9 P w K mg base bo 1 "_law_good" ["_law_outs_here","_law_far_here","_law_house","_law_home"] ze):bU P w K mg base bo 2 f fd ["_law_order_here","_law_outs_here","_law_far_here","_law_homes","_law_stand","_law_at_once"] Eb:=by
 refine F.ok mI (fun vs H Q E h=>?_) (fun fX A outer s H vs Q E hr h=>?_)
 .obtain⟨la,oa,fa,ha,sa,n,ts,L,L',homes,os,st,rfl,_⟩:=h;rfl
 .obtain⟨la,oa,fa,ha,sa,n,ts,L,L',homes,os,st,rfl,hL,pm,fi,RO,hLo,RF,hLf,hH,hS,LO,SD,q⟩:=h;have n2:=fi.n2;have al:=FH SD pm;have ndo:=Lr pm;have ol:os.length<=16:=by rw[pm.length_eq];exact aZ jB LO.le
  refine⟨_,(ak (Of (i:=6) (j:=7) (k:=8) rfl mI.nd rfl rfl rfl (by decide) (by decide) (by decide) rfl rfl rfl (aa (a9 ya (cH (aa ii ag)) (aJ aV (by rfl) B.len fc (aa (pv 4) ag))) (aa (cH ag) (aa (cH ag) ag))) (by rfl))
   (ak (du eI rfl (bN (pv 0)) (aA (i:=9) mI.nd rfl aL)
    (ak (aW (i:=10) mI.nd rfl aL (aX eN (pv 4) (pv 9) (fun _ _=>rfl)))
    (ak (aW (i:=11) mI.nd rfl aL (aH FR hr aM (aa (pv 10) (aa (aH GD hr aM (aa (pv 1) (aa (pv 2) (aa (pv 10) (aa (aX eN (pv 3) (pv 9) (fun _ _=>rfl)) ag))))) (aa (pv 7) ag)))))
    (ak (dS (PW.pt (xP (aY (Jy (e:=uT) hr.u) (pv 11) (cH ag) (bp _)) (tE (jQ (pv 5))))) (av (aW (i:=11) mI.nd rfl aL (aH FR hr aM (aa (pv 10) (aa (aX aG (pv 1) (pv 10) (fun _ _=>rfl)) (aa (pv 7) ag)))))) b8)
    (av (dS (aY (Jy (e:=uT) hr.u) (pv 11) (cH ag) (bp _)) (av (cG (gQ gy i8 i7 cV (pv 8) (aa (pv 9) ag)))) (ak (d8 (aX aG (pv 11) az (fun _ _=>rfl)) (gx (pv 6) (pv 9) dY))
     (av (cG (gQ gy i8 i7 cV (pv 7) (aa (bT (aa (pv 10) (aa (aX aG (pv 11) az (fun _ _=>rfl)) ag))) ag)))))))))))
   (ak (du eI rfl (bN (pv 8)) (aA (i:=9) mI.nd rfl aL)
    (ak (aW (i:=11) mI.nd rfl aL (aH FR hr aM (aa (aX eN (pv 4) (pv 9) (fun _ _=>rfl)) (aa (aX aG (pv 1) (aX eN (pv 4) (pv 9) (fun _ _=>rfl)) (fun _ _=>rfl)) (aa (pv 7) ag)))))
    (ak (d8 (aX aG (pv 11) az (fun _ _=>rfl)) (gx (pv 6) (pv 9) dY))
    (av (cG (gQ gy i8 i7 cV (pv 7) (aa (bT (aa (aX eN (pv 4) (pv 9) (fun _ _=>rfl)) (aa (aX aG (pv 11) az (fun _ _=>rfl)) ag))) ag)))))))
   (av (bh (cU fh (by rfl) B.tup oX (aa (pv 6) ag))))))),?_⟩
  refine⟨by show 1<=sizeLine;decide,fun L1 tX=>⟨_,rfl,sa,_,rfl,.inr (cu.of (aj tX _ _ hS)),L1,_,_,rfl,rfl,ae,by lia,by rw[aT];have:=LO.le;lia,by rw[aT,lN,gE];exact aZ (show _<=16 by have:=LO.le;lia) (by decide),fun G hG=>?_⟩⟩;rw[gE,aT,mr,show V.cI=oV none from rfl,<-List.map_replicate];refine⟨by show 0<=sizeLine;decide,fun Tn UA=>⟨by show 0<=sizeLine;decide,fun Lt Xm=>⟨_,_,_,rfl,?_⟩⟩⟩;have s1:=aj (o:=.lst [oV none]) tX;have s2:=aj (o:=.lst ((List.replicate st.length none).map oV)) hG;have s3:=aj (o:=.lst []) UA;have s4:=aj (o:=.lst []) Xm;have sA:=((s1.trans s2).trans s3).trans s4;have gG:=s4 _ _ (s3 _ _ ae);have gT:=s4 _ _ ae;have gL:=(ae:(upd (upd (upd (upd H L1 (.lst [oV none])) G (.lst ((List.replicate st.length none).map oV))) Tn (.lst [])) Lt (.lst [])) Lt=_)
  have Y_:G≠Tn:=am ae UA;have nGL:G≠Lt:=am (s3 _ _ ae) Xm;have nTL:Tn≠Lt:=am ae Xm;have fG:H G=none:=s1.free hG;have fT:H Tn=none:=(s1.trans s2).free UA;have fL:H Lt=none:=((s1.trans s2).trans s3).free Xm;generalize upd (upd (upd (upd H L1 (.lst [oV none])) G (.lst ((List.replicate st.length none).map oV))) Tn (.lst [])) Lt (.lst [])=H0 at *;clear Xm UA hG s1 s2 s3 s4;refine⟨_,rfl,la,rfl,⟨_,a8.of (sA _ _ hL)⟩,eM (K:=K) (xs:=NV os) (fun j σ Hc=>∃zs:Zs,(∃x9 Fs HL,σ=[some (.ref la),some (.ref oa),some (.ref fa),some (.ref ha),some (.ref sa),some (.bl false),some (.ref G),some (.ref Tn),some (.ref Lt),x9,Fs,HL])/\aI H Hc/\Hc G=some (.lst (((os.take j).foldl (r_ n ts homes st) (List.replicate st.length none)).map oV))/\Hc Tn=some (.lst (zr zs))/\PO Hc zs/\zs.length<=j/\Hc Lt=some (.lst (NV ((os.take j).filter fun l=>decide (((os.take j).foldl (r_ n ts homes st) (List.replicate st.length none)).getD l none=none))))/\SN st ((os.take j).foldl (r_ n ts homes st) (List.replicate st.length none)) (zp zs)) ⟨[],⟨_,_,_,rfl⟩,sA,gG,gT,PO.nil,cp _,gL,fun y h=>?_⟩ (fun j σ Hc _ ⟨zs,z⟩=>a8.of (z.2.1 _ _ hL)) ?_ ?_⟩
  .constructor
   .intro z;cases z
   .rintro⟨a,_,_,e⟩;rw[List.take_zero,uB,y_] at e;cases e
  .clear sA gG gT gL;rintro j x σ Hc hx ⟨zs,⟨x9,Fs,HL,rfl⟩,sc,qb,Ft,po,zl,HF,tk⟩;obtain⟨l,hv,rfl⟩:=pW hx;have hj:j<16:=by have:=(eR.mp hv).1;lia
   obtain⟨hl,y,ey,hy,HJ⟩:=LO.at (pm.mem_iff.mp (dz hv));have tj:os.take (j+1)=os.take j++[l]:=by rw[gW,hv];rfl
   have nd:(os.take (j+1)).Nodup:=ndo.sublist (xw _ _);rw[tj] at nd;have nj:l∉os.take j:=fun z=>(j6.mp nd).2.2 l z l cK rfl;have lt:∀x∈os.take j,x<st.length:=fun x hx=>let ⟨_,a,_⟩:=al x (oZ hx);a;have en:((os.take j).foldl (r_ n ts homes st) (List.replicate st.length none)).getD l none=none:=(fold_at (f:=fun g l=>m9 st g l (iT n ts ((st.getD l none).getD 0) (homes.getD l 0))) (fun x hx=>by rw[i9];exact lt x hx) nj).trans y_;have Im:((os.take j).foldl (r_ n ts homes st) (List.replicate st.length none)).length=st.length:=by rw[qa,i9]
   rw[tj,xx,iM,uB,ic];generalize (os.take j).foldl (r_ n ts homes st) (List.replicate st.length none)=g at *;have Io:r_ n ts homes st g l=g.set l (m9 st g l (iT n ts y (homes.getD l 0))):=by unfold r_;rw[ey];rfl
   rw[ffT tk ey] at Io;have efl:(os.take j).filter (fun a=>decide ((r_ n ts homes st g l).getD a none=none))=(os.take j).filter fun a=>decide (g.getD a none=none):=BZ fun a ha=>by rw[Io,jX (by rw[Im];exact hl),ao (by rintro rfl;exact nj ha)]
   rw[efl];have lg:(iT n ts y (homes.getD l 0)).length<=n:=aZ (iK _ _) p9;have NY:=sc _ _ hH;have vL:=sc _ _ hS;have lfl:((os.take j).filter fun a=>decide (g.getD a none=none)).length<=j:=aZ (iK _ _) (xt _ _);refine⟨_,rfl,_,rfl,sa,_,_,_,rfl,rfl,cu.of vL,aD (kI hl),?_⟩;rw[ey];refine⟨_,rfl,_,rfl,_,rfl,_,rfl,_,rfl,_,rfl,ha,_,_,_,rfl,rfl,cu.of NY,aD (iS (by rw[LO.len];exact hl)),oa,fa,n,y,homes.getD l 0,ts,L,L',rfl,fi,RO.keep hLo (fun b o _ e=>sc b o e),RF.keep hLf (fun b o _ e=>sc b o e),hy,HJ,fun r1 H1 s1 Dz=>?_⟩;refine⟨_,rfl,y,r1,Tn,_,zs,rfl,Dz,by lia,s1 _ _ Ft,po.same s1,fun r2 H2 s2 O_ Bp=>?_⟩;have Uq:=s1.trans s2;have Wu:=s1.free O_;refine⟨_,rfl,by show 0<=sizeLine;decide,fun e hE=>?_⟩;have sE:=aj (o:=.lst []) hE;refine⟨r2,e,_,[],rfl,rfl,a8.of (sE _ _ Bp),a8.of ae,fun i h1 h2=>absurd h2 (nX _),_,rfl,?_⟩;rw[ao di,Ht];have sF:=Uq.trans sE;cases hF:(iT n ts y (homes.getD l 0)).filter fun h=>!decide ((ci y,ci h)∈zp zs) with
   |nil=>
    rw[hF] at Bp Io;rw[show r_ n ts homes st g l=g by rw[Io];exact Ly en] at *;refine wZ rfl ⟨_,rfl,_,rfl,jS ⟨_,rfl,by show 0<=sizeLine;decide,fun e2 Za=>?_⟩⟩;have S7:=aj (o:=.lst []) Za;refine⟨r2,e2,[],[],rfl,rfl,a8.of (S7 _ _ (sE _ _ Bp)),a8.of ae,fun i h1 h2=>absurd h2 (nX _),_,rfl,wZ rfl ?_⟩;have s4:=sF.trans S7;refine⟨_,rfl,.inl ⟨rfl,_,a8.of (s4 _ _ HF)⟩,_,rfl,Lt,_,_,rfl,rfl,s4 _ _ HF,by rw[be];exact eK lfl (bv (show j<16 by lia) (by decide)),?_⟩;refine⟨zs,⟨_,_,_,rfl⟩,bj (sc.trans s4) fL,by rw[aq nGL];exact s4 _ _ qb,by rw[aq nTL];exact s4 _ _ Ft,PO.putL (po.same s4) (s4 _ _ HF),by lia,?_,tk⟩;rw[ae,List.filter_cons_of_pos (p:=fun a=>decide (g.getD a none=none)) (iN en),B9];unfold NV;rw[dt];rfl
   |cons x Vf=>
    rw[hF] at Bp Io;rw[List.head?_cons] at Io;refine r6 rfl (r6 rfl ⟨_,rfl,by show 0<=sizeLine;decide,fun e2 Za=>?_⟩);have S7:=aj (o:=.lst []) Za;refine⟨r2,e2,_,[],rfl,rfl,a8.of (S7 _ _ (sE _ _ Bp)),a8.of ae,fun i h1 h2=>absurd h2 (nX _),_,rfl,r6 rfl ?_⟩;have s4:=sF.trans S7;have h4:=S7 _ _ (sE _ _ Bp);have n3:r2≠G:=fun z=>by rw[z,qb] at Wu;cases Wu
    clear sE hE S7 Za Dz s1 Bp s2 Uq O_ Wu sF;generalize upd (upd H2 e _) e2 _=H4 at *;rw[Io];refine⟨_,rfl,r2,_,0,oV (some x),rfl,rfl,a8.of h4,aD (j:=0) rfl,?_⟩;refine⟨_,rfl,_,rfl,G,_,(l:Int),l,rfl,rfl,s4 _ _ qb,eJ (by rw[aT,Im];exact hl),?_⟩;rw[<-xI];have s5:aI H (upd H4 G (.lst ((g.set l (some x)).map oV))):=bj (sc.trans s4) fG;have g5:(upd H4 G (.lst ((g.set l (some x)).map oV))) G=_:=ae;have t5:(upd H4 G (.lst ((g.set l (some x)).map oV))) Tn=some (.lst (zr zs)):=by rw[aq Y_.symm];exact s4 _ _ Ft
    have l5:(upd H4 G (.lst ((g.set l (some x)).map oV))) Lt=some (.lst (NV ((os.take j).filter fun a=>decide (g.getD a none=none)))):=by rw[aq nGL.symm];exact s4 _ _ HF
    have h5:(upd H4 G (.lst ((g.set l (some x)).map oV))) r2=some (.lst (NV (x::Vf))):=by rw[aq n3];exact h4
    have Ik:PO (upd H4 G (.lst ((g.set l (some x)).map oV))) zs:=PO.putL (po.same s4) (s4 _ _ qb);generalize upd H4 G _=H5 at *;refine⟨_,rfl,.inl ⟨rfl,_,a8.of t5⟩,_,rfl,_,rfl,r2,_,0,V.int (x:Nat),rfl,rfl,a8.of h5,aD (j:=0) rfl,by show 2<=sizeLine;decide,fun t ht=>?_⟩;have aF:=aj (o:=oQ (ci y,ci x)) ht;refine⟨Tn,_,_,rfl,rfl,aF _ _ t5,by rw[dZ];exact eK zl (bv (show j<16 by lia) (by decide)),?_⟩;refine⟨zs++[(t,(ci y,ci x))],⟨_,_,_,rfl⟩,bj (s5.trans aF) fT,by rw[aq Y_];exact aF _ _ g5,by rw[ae,eO];rfl,PO.putL (xs:=zr zs) ((Ik.same aF).append (PO.one ae)) (aF _ _ t5),by rw[dh];exact xy zl,?_,?_⟩
    .rw[aq nTL.symm,List.filter_cons_of_neg (p:=fun a=>decide ((g.set l (some x)).getD a none=none)) (by rw[jX (by rw[Im];exact hl),ap rfl];simp),B9,jH];exact aF _ _ l5
    .rw[eQ];exact tk.put Im hl ey en
  .rintro σ Hc ⟨zs,⟨x9,Fs,HL,rfl⟩,sc,qb,Ft,po,zl,HF,tk⟩;rw[be,i_] at *;have gl1:(os.foldl (r_ n ts homes st) (List.replicate st.length none)).length=st.length:=by rw[qa,i9]
   have d_:Lq n ts homes st os=_:=rE (n:=n) (ts:=ts) (st:=st) (g:=os.foldl (r_ n ts homes st) (List.replicate st.length none)) ndo (fun l hl=>by rw[gl1];obtain⟨_,a,_⟩:=al l hl;exact a);rw[d_] at q;clear d_;generalize os.foldl (r_ n ts homes st) (List.replicate st.length none)=g1 at *;have lm:∀l∈os.filter (fun l=>decide (g1.getD l none=none)),l∈os/\g1.getD l none=none:=fun l hl=>let ⟨a,b⟩:=gb.mp hl;⟨a,fu b⟩;have ndl:(os.filter fun l=>decide (g1.getD l none=none)).Nodup:=ndo.filter _;have ll:(os.filter fun l=>decide (g1.getD l none=none)).length<=16:=aZ (iK _ _) ol;generalize os.filter (fun l=>decide (g1.getD l none=none))=lt at *;refine⟨_,rfl,Lt,rfl,⟨_,a8.of HF⟩,eM (K:=K) (xs:=NV lt) (fun j σ H2=>∃zs:Zs,(∃x9 HL,σ=[some (.ref la),some (.ref oa),some (.ref fa),some (.ref ha),some (.ref sa),some (.bl false),some (.ref G),some (.ref Tn),some (.ref Lt),x9,Fs,HL])/\aI H H2/\H2 G=some (.lst (((lt.take j).foldl (HK n ts st) g1).map oV))/\H2 Tn=some (.lst (zr zs))/\PO H2 zs/\zs.length<=16+j/\H2 Lt=some (.lst (NV lt))/\SN st ((lt.take j).foldl (HK n ts st) g1) (zp zs)) ⟨zs,⟨_,_,rfl⟩,sc,qb,Ft,po,by lia,HF,tk⟩ (fun j σ H2 _ ⟨zs,z⟩=>a8.of z.2.2.2.2.2.2.1) ?_ ?_⟩
   .clear sc qb Ft po zl HF tk;rintro j x σ Hc hx ⟨zs,⟨x9,HL,rfl⟩,sc,qb,Ft,po,zl,HF,tk⟩;obtain⟨l,hv,rfl⟩:=pW hx;have hj:j<16:=by have:=(eR.mp hv).1;lia
    obtain⟨lo,en1⟩:=lm l (dz hv);obtain⟨hl,y,ey,hy,HJ⟩:=LO.at (pm.mem_iff.mp lo);have tj:lt.take (j+1)=lt.take j++[l]:=by rw[gW,hv];rfl
    have nd:(lt.take (j+1)).Nodup:=ndl.sublist (xw _ _);rw[tj] at nd;have nj:l∉lt.take j:=fun z=>(j6.mp nd).2.2 l z l cK rfl;have en:((lt.take j).foldl (HK n ts st) g1).getD l none=none:=(fold_at (f:=fun g l=>m9 st g l (bX n ts ((st.getD l none).getD 0))) (fun x hx=>by rw[gl1];obtain⟨_,a,_⟩:=al x (lm x (oZ hx)).1;exact a) nj).trans en1;have Im:((lt.take j).foldl (HK n ts st) g1).length=st.length:=by
     have:∀ {ls:aQ} {g:bA},(ls.foldl (HK n ts st) g).length=g.length:=fun {ls}=>by
      induction ls with
      |nil=>intro g;rfl
      |cons j ls ih=>intro g;rw[iM,ih];unfold HK;rw[ja]
     rw[this,gl1]
    rw[tj,xx,iM,uB];generalize (lt.take j).foldl (HK n ts st) g1=g at *;have Io:HK n ts st g l=g.set l (m9 st g l (bX n ts y)):=by unfold HK;rw[ey];rfl
    rw[ffT tk ey] at Io;have ne:=Oa SD tk hl ey en hy;have lo':=p9 (n:=n) (ts:=ts) (h:=y);have vL:=sc _ _ hS;obtain⟨bs,b,r1,r2',r3,_⟩:=(RO.keep hLo (fun b o _ e=>sc b o e)).row hy;refine⟨_,rfl,_,rfl,sa,_,_,_,rfl,rfl,cu.of vL,aD (kI hl),?_⟩;rw[ey];refine⟨_,rfl,_,rfl,_,rfl,sa,_,_,_,rfl,rfl,cu.of vL,aD (kI hl),?_⟩;rw[ey];refine⟨oa,_,_,_,rfl,rfl,a8.of r1,aD r2',_,rfl,y,b,Tn,_,zs,rfl,r3,by lia,Ft,po,fun r2 H2 s2 O_ Bp=>?_⟩;cases hF:(bX n ts y).filter fun h=>!decide ((ci y,ci h)∈zp zs) with
    |nil=>exact absurd hF ne
    |cons x Vf=>
    rw[hF] at Bp Io;rw[List.head?_cons] at Io;rw[Io];have n3:r2≠G:=fun z=>by rw[z,qb] at O_;cases O_
    refine⟨_,rfl,r2,_,0,oV (some x),rfl,rfl,a8.of Bp,aD (j:=0) rfl,?_⟩;refine⟨_,rfl,_,rfl,G,_,(l:Int),l,rfl,rfl,s2 _ _ qb,eJ (by rw[aT,Im];exact hl),?_⟩;rw[<-xI];have s5:aI H (upd H2 G (.lst ((g.set l (some x)).map oV))):=bj (sc.trans s2) fG;have g5:(upd H2 G (.lst ((g.set l (some x)).map oV))) G=_:=ae;have t5:(upd H2 G (.lst ((g.set l (some x)).map oV))) Tn=some (.lst (zr zs)):=by rw[aq Y_.symm];exact s2 _ _ Ft
    have l5:(upd H2 G (.lst ((g.set l (some x)).map oV))) Lt=some (.lst (NV lt)):=by rw[aq nGL.symm];exact s2 _ _ HF
    have h5:(upd H2 G (.lst ((g.set l (some x)).map oV))) r2=some (.lst (NV (x::Vf))):=by rw[aq n3];exact Bp
    have Ik:PO (upd H2 G (.lst ((g.set l (some x)).map oV))) zs:=PO.putL (po.same s2) (s2 _ _ qb);generalize upd H2 G _=H5 at *;refine⟨_,rfl,.inl ⟨rfl,_,a8.of t5⟩,_,rfl,_,rfl,sa,_,_,_,rfl,rfl,cu.of (s5 _ _ hS),aD (kI hl),?_⟩;rw[ey];refine⟨_,rfl,r2,_,0,V.int (x:Nat),rfl,rfl,a8.of h5,aD (j:=0) rfl,by show 2<=sizeLine;decide,fun t ht=>?_⟩;have aF:=aj (o:=oQ (ci y,ci x)) ht;refine⟨Tn,_,_,rfl,rfl,aF _ _ t5,by rw[dZ];exact eK zl (bv (show 16+j<32 by lia) (by decide)),?_⟩;refine⟨zs++[(t,(ci y,ci x))],⟨_,_,rfl⟩,bj (s5.trans aF) fT,by rw[aq Y_];exact aF _ _ g5,by rw[ae,eO];rfl,PO.putL (xs:=zr zs) ((Ik.same aF).append (PO.one ae)) (aF _ _ t5),by rw[dh];exact xy zl,by rw[aq nTL.symm];exact aF _ _ l5,?_⟩;rw[eQ];exact tk.put Im hl ey en
   .rintro σ H2 ⟨zs,⟨x9',acp,rfl⟩,sc,qb,_⟩;rw[be,i_] at qb;exact⟨_,rfl,G,_,rfl,.inl ⟨a8.of qb,fun t ht=>q t _ (sc.trans (aj ht)) ae⟩⟩
abbrev Ec:Stmt:=top 59
theorem nE:(["_law_house","_law_home"]:bQ).Nodup:=by decide +kernel
abbrev vH(A:Addr)(H H':Hp):Prop:=∀b o,H b=some o->N7 o->b≠A->H' b=some o
theorem dE.FL(N:dE C H (·≠A) p n ts)(hp:p≠A)(k:vH A H H'):dE C H' (·≠A) p n ts:=by
 obtain⟨dx,tl,ol,ds,a,_⟩:=N.ob;exact(N.W9.keep (fun b o l e=>by obtain⟨l1,o',e',n⟩:=l;rw[e] at e';cases e';exact k b o e n l1) fun o e=>k _ _ e (by rw[a] at e;cases e;exact fun ps z=>by cases z) hp).weak fun b h=>h.1
theorem bK.FL(R:bK H (·≠A) l n r)(hl:l≠A)(k:vH A H H'):bK H' (·≠A) l n r:=by
 obtain⟨bs,a,b,c⟩:=R;refine⟨bs,k _ _ a nofun hl,b,c.mono fun j hj e=>k _ _ e nofun (b _ ?_)⟩;rw[cw,cz (by rw[c.1];exact hj)];exact ie _
structure vI(C A:Addr)(H:Hp)(t px oa fa ha sa:Addr)(n:Nat)(ts:Ts)(homes:aQ)(st:bA):Prop where
 tu:H t=some (.tup [.ref px,.ref oa,.ref fa,.ref ha,.ref sa])
 tA:t≠A
 net:dE C H (·≠A) px n ts
 px:px≠A
 out:bK H (·≠A) oa n (bX n ts)
 oa:oa≠A
 far:bK H (·≠A) fa n (fun h=>(List.range n).map (far ts h))
 fa:fa≠A
 hA:ha≠A
 sA:sa≠A
 he:H ha=some (.tup (NV homes))
 se:H sa=some (.tup (st.map oV))
 le:st.length<=16
 sd:kH n ts homes st
theorem vI.keep{C A:Addr}{H H':Hp}{t px oa fa ha sa:Addr}{n:Nat}{ts:Ts}{homes:aQ}{st:bA}(c:vI C A H t px oa fa ha sa n ts homes st)(k:vH A H H'):vI C A H' t px oa fa ha sa n ts homes st:=
 ⟨k _ _ c.tu nofun c.tA,c.tA,c.net.FL c.px k,c.px,c.out.FL c.oa k,c.oa,c.far.FL c.fa k,c.fa,c.hA,c.sA,k _ _ c.he nofun c.hA,k _ _ c.se nofun c.sA,c.le,c.sd⟩
theorem rC.toK{C A:Addr}{H0 H:Hp}{t px oa fa ha sa:Addr}{n:Nat}{ts:Ts}{homes:aQ}{st:bA}{xs:bg}(c:rC C H0 H t px oa fa ha sa n ts homes st)(e0:H0 A≠none)(e:H A=some (.lst xs)):vI C A H t px oa fa ha sa n ts homes st:=by
 have f:∀b,H0 b=none->b≠A:=fun b h z=>e0 (z ▸ h);have g:∀ {b ys},H b=some (.tup ys)->b≠A:=fun h z=>by rw[z,e] at h;cases h
 exact⟨c.tu,g c.tu,c.net.weak f,f _ c.px,c.out.weak f,f _ c.oa,c.far.weak f,f _ c.fa,g c.ha,g c.sa,c.ha,c.sa,c.le,c.sd⟩
theorem mY.putL(t:mY Pt H)(e:H D=some (.lst xs)):mY Pt (upd H D o):=by
 have f:∀ {b u},H b=some u->(∀ys,u≠.lst ys)->(upd H D o) b=some u:=fun h n=>by rw[aq (by rintro rfl;rw[e] at h;cases h;exact n _ rfl)];exact h
 rcases t with z|⟨c,z,y⟩
 .exact .inl (f z (fun ys z=>by cases z))
 .exact .inr ⟨c,f z (fun ys z=>by cases z),f y (fun ys z=>by cases z)⟩
theorem rC.r0{C p:Addr}{H0 H H':Hp}{t px oa fa ha sa:Addr}{n:Nat}{ts:Ts}{homes:aQ}{st:bA}(c:rC C H0 H t px oa fa ha sa n ts homes st)(s:aO p H H')(f:H0 p≠none)(hp:bn H p):rC C H0 H' t px oa fa ha sa n ts homes st:=by
 have ne:∀b,H0 b=none->b≠p:=fun b e z=>f (z ▸ e);exact⟨s _ _ c.tu (hp.neT c.tu),c.net.keep (fun b o l e=>s b o e (ne b l)) (fun o e=>s _ _ e (ne _ c.px)),c.px,c.out.keep c.oa (fun b o l e=>s b o e (ne b l)),c.oa,c.far.keep c.fa (fun b o l e=>s b o e (ne b l)),c.fa,s _ _ c.ha (hp.neT c.ha),s _ _ c.sa (hp.neT c.sa),c.le,c.sd⟩
theorem _root_.L2.dU.mD(t:dU lp q Pt H)(s:aO p H H')(hp:bn H p):dU lp q Pt H':=by
 obtain⟨a,b,e,_⟩:=hp;rcases t with z|⟨c,z,y⟩
 .exact .inl (s _ _ z (by rintro rfl;rw[z] at e;cases e))
 .exact .inr ⟨c,s _ _ z (by rintro rfl;rw[z] at e;cases e),s _ _ y (by rintro rfl;rw[y] at e;cases e)⟩
theorem _root_.L2.dU.xh(t:dU lp q Pzz H)(k:Fx Pt p H H')(hp:bn H p)(tb:mY Pt H)(n:Pzz≠Pt):dU lp q Pzz H':=by
 obtain⟨a,b,e,_⟩:=hp;obtain⟨ps,hP⟩:=dU.jo tb;rcases t with z|⟨c,z,y⟩
 .exact .inl (k _ _ z n (by rintro rfl;rw[z] at e;cases e))
 .exact .inr ⟨c,k _ _ z n (by rintro rfl;rw[z] at e;cases e),k _ _ y (by rintro rfl;rw[hP] at y;cases y) (by rintro rfl;rw[y] at e;cases e)⟩
theorem jr.mD{PN PF PT PR p:Addr}{H H':Hp}(t:jr PN PF PT PR H)(s:aO p H H')(hp:bn H p):jr PN PF PT PR H':=⟨t.n.mD s hp,t.f.mD s hp,t.t.mD s hp,t.r.mD s hp⟩
theorem jr.xh{PN PF PT PR p Pt:Addr}{H H':Hp}(t:jr PN PF PT PR H)(k:Fx Pt p H H')(hp:bn H p)(tb:mY Pt H)(n:Pt∉[PN,PF,PT,PR]):jr PN PF PT PR H':=by
 simp only[bq,jF,not_or,jL] at n;obtain⟨n1,n2,n3,n4⟩:=n;exact⟨t.n.xh k hp tb (dI n1),t.f.xh k hp tb (dI n2),t.t.xh k hp tb (dI n3),t.r.xh k hp tb (dI n4)⟩
def A8(C A:Addr)(H:Hp)(q:Addr):Prop:=∃ (t ra:Addr) (bt:Nat) (px oa fa ha sa:Addr) (n:Nat) (ts:Ts) (homes:aQ) (st:bA) (ranks:dG),H q=some (.tup [.ref t,.int bt,.ref ra])/\q≠A/\H ra=some (.tup (ranks.map V.int))/\ra≠A/\ranks.length=homes.length/\vI C A H t px oa fa ha sa n ts homes st
theorem A8.keep(c:A8 C A H q)(k:vH A H H'):A8 C A H' q:=by
 obtain⟨t,ra,bt,px,oa,fa,ha,sa,n,ts,homes,st,ranks,e,m,e2,m2,l,d⟩:=c;exact⟨t,ra,bt,px,oa,fa,ha,sa,n,ts,homes,st,ranks,k _ _ e nofun m,m,k _ _ e2 nofun m2,m2,l,d.keep k⟩
theorem mJ(nx:H x=none)(nd:H d=none)(ne:x≠d):aI H (upd (upd H d (.own x)) x (.ins C d [])):=(aj (o:=.own x) nd).trans (aj (D:=x) (o:=.ins C d []) (by rw[aq ne];exact nx))
structure FM(C:Addr)(H:Hp)(t px oa fa ha sa:Addr)(n:Nat)(ts:Ts)(homes:aQ)(st:bA):Prop where
 tu:H t=some (.tup [.ref px,.ref oa,.ref fa,.ref ha,.ref sa])
 net:dE C H (fun _=>True) px n ts
 out:bK H (fun _=>True) oa n (bX n ts)
 far:bK H (fun _=>True) fa n (fun h=>(List.range n).map (far ts h))
 he:H ha=some (.tup (NV homes))
 se:H sa=some (.tup (st.map oV))
 le:st.length<=16
 sd:kH n ts homes st
theorem bK.kn(R:bK H (fun _=>True) l n r)(k:KN H H'):bK H' (fun _=>True) l n r:=by
 obtain⟨bs,b1,b2,b3⟩:=R;exact⟨bs,k _ _ b1 nofun,b2,b3.mono fun j hj e=>k _ _ e nofun⟩
theorem FM.kn(c:FM C H t px oa fa ha sa n ts homes st)(k:KN H H'):FM C H' t px oa fa ha sa n ts homes st:=by
 obtain⟨dx,tl,ol,ds,a,_⟩:=c.net.ob;exact⟨k _ _ c.tu nofun,(c.net.W9.keep (fun b o l e=>by obtain⟨_,o',e',n⟩:=l;rw[e] at e';cases e';exact k b o e n) fun o e=>k _ _ e (by rw[a] at e;cases e;exact fun ps z=>by cases z)).weak fun _ _=>trivial,
  c.out.kn k,c.far.kn k,k _ _ c.he nofun,k _ _ c.se nofun,c.le,c.sd⟩
theorem Om(h:i<fs.length):((Bq homes fs).map oV)[i]?=some (if fs.getD i none=some (homes.getD i 0) then V.cI else oV (fs.getD i none)):=by
 unfold Bq;rw[cA,cA,f_ h];show some (oV (if _ then none else _))=_;split <;> rfl
theorem vI.toN{C A:Addr}{H:Hp}{t px oa fa ha sa:Addr}{n:Nat}{ts:Ts}{homes:aQ}{st:bA}(c:vI C A H t px oa fa ha sa n ts homes st):FM C H t px oa fa ha sa n ts homes st:=⟨c.tu,c.net.weak fun _ _=>trivial,c.out.weak fun _ _=>trivial,c.far.weak fun _ _=>trivial,c.he,c.se,c.le,c.sd⟩
structure P9(CE CN CF CT:Addr)(H:Hp)(rl q0 q1 q2 q3 a0 a1 a2 a3:Addr):Prop where
 l:H rl=some (.lst [.ref q0,.ref q1,.ref q2,.ref q3])
 e:H q0=some (.tup [.int 0,.ref a0])/\∃d,H a0=some (.ins CE d [])
 n:H q1=some (.tup [.int 1,.ref a1])/\∃d,H a1=some (.ins CN d [])
 f:H q2=some (.tup [.int 2,.ref a2])/\∃d,H a2=some (.ins CF d [])
 t:H q3=some (.tup [.int 3,.ref a3])/\∃d,H a3=some (.ins CT d [])
theorem P9.keep{CE CN CF CT A rl q0 q1 q2 q3 a0 a1 a2 a3:Addr}{H H':Hp}{xs:bg}(r:P9 CE CN CF CT H rl q0 q1 q2 q3 a0 a1 a2 a3)(n:rl≠A)(hA:H A=some (.lst xs))(k:vH A H H'):P9 CE CN CF CT H' rl q0 q1 q2 q3 a0 a1 a2 a3:=by
 have g:∀ {b C q x},(H q=some (.tup x)/\∃d,H b=some (.ins C d []))->(H' q=some (.tup x)/\∃d,H' b=some (.ins C d [])):=fun {b C q x} h=>⟨k _ _ h.1 nofun (by rintro rfl;have:=h.1;rw[hA] at this;cases this),let ⟨d,e⟩:=h.2;⟨d,k _ _ e nofun (by rintro rfl;rw[hA] at e;cases e)⟩⟩
 exact⟨k _ _ r.l nofun n,g r.e,g r.n,g r.f,g r.t⟩
theorem P9.kn{CE CN CF CT rl q0 q1 q2 q3 a0 a1 a2 a3:Addr}{H H':Hp}(r:P9 CE CN CF CT H rl q0 q1 q2 q3 a0 a1 a2 a3)(k:KN H H'):P9 CE CN CF CT H' rl q0 q1 q2 q3 a0 a1 a2 a3:=by
 have g:∀ {b C q x},(H q=some (.tup x)/\∃d,H b=some (.ins C d []))->(H' q=some (.tup x)/\∃d,H' b=some (.ins C d [])):=fun {b C q x} h=>⟨k _ _ h.1 nofun,let ⟨d,e⟩:=h.2;⟨d,k _ _ e nofun⟩⟩
 exact⟨k _ _ r.l nofun,g r.e,g r.n,g r.f,g r.t⟩
def P_(K:a_)(H:Hp)(a:Addr)(xs:bg):Prop:=(∃o,H a=some (.zh o (.lst xs)))\/(∀H':Hp,a8 K H' a xs)
theorem P_.seq(h:P_ K H a xs):a8 K H a xs:=by
 rcases h with ⟨o,h⟩|h
 .exact .inl (.inr ⟨o,h⟩)
 .exact h H
theorem P_.mono(h:P_ K H a xs)(e:∀o u,H a=some (.zh o u)->H' a=some (.zh o u)):P_ K H' a xs:=by
 rcases h with ⟨o,h⟩|h
 .exact .inl ⟨o,e _ _ h⟩
 .exact .inr h
theorem fW:aN ["_law_script","_law_rules","_law_asked","_law_k","_law_pot_here","_law_beat_here","_law_case_here","_law_ranks_here","_law_net_here","_law_outs_here","_law_far_here","_law_homes","_law_stand","_law_turned","_law_left","_law_way","_law_rule","_law_ends","_law_here","_law_order_here","_law_due"] ["_law_script"] (aw Ec):=dW (by decide +kernel)
def FN(K:a_)(Pt PN PF PT PR:Addr):Sp:=fun vs H Q _=>∃ (a:Addr) (ns:dG),vs=[.ref a]/\P_ K H a (ns.map V.int)/\ns.length<=63/\mY Pt H/\jr PN PF PT PR H/\∀H',Q (.bl true) H'
theorem S8{f fRI C CE CN CF CT CI CR Pt PN PF PT PR:Addr}{fd Xn:eA}(F:iH K "law" "law" Ec f fd)(B:Bl mg)(B2:Uu mg)(R:Xg P w K mg base C CE CN CF CT CI CR PN PF PT PR)(nP:Pt∉[PN,PF,PT,PR])(kE:Wz K CE)(kN:Wz K CN)(kF:Wz K CF)(kT:Wz K CT)(M:Mk K CR fRI)(bI:lw K Xn ["self","ranks"] [])(GI:bU P w K mg base bo 2 fRI Xn ["self","ranks"] (yY CR))(PT':d9 P w K mg base bo 1 "_law_pot" ["_law_script","_law_k"] (KG K))(BE:d9 P w K mg base bo 2 "_law_beat" ["_law_pot_here"] DG)(CA:d9 P w K mg base bo 9 "_law_case" ["_law_pot_here"] (DT C Pt))(RA:d9 P w K mg base bo 2 "_law_ranks" ["_law_pot_here","_law_many"] zc)(OD:d9 P w K mg base bo 1 "_law_order" ["_law_way","_law_far_here","_law_homes","_law_stand","_law_beat_here","_law_ranks_here"] D7)(HA:d9 P w K mg base bo 10 "hand" ["rule","net","homes","stand","beat"] (D9 C CE CN CF CT CI CR PN PF PT PR))(WK:d9 P w K mg base bo 2 "_law_walk" ["_law_order_here","_law_outs_here","_law_far_here","_law_homes","_law_stand","_law_at_once"] Eb)(IH:d9 P w K mg base bo 1 "_law_is_handing" ["_law_told","_law_due"] S6):bU P w K mg base bo 11 f fd ["_law_script"] (FN K Pt PN PF PT PR):=by
 refine F.ok fW (fun vs H Q E h=>?_) (fun fX A outer s H vs Q E hr h=>?_)
 .obtain⟨a,ns,rfl,_⟩:=h;rfl
 .obtain⟨a,ns,rfl,hS,Ai,tp,tb,q⟩:=h;have h1:df 1 _:=hr.mono (by decide);have h2:df 2 _:=hr.mono (by decide);have h3:df 3 _:=hr.mono (by decide);have h9:df 9 _:=hr.mono (by decide);refine'⟨_,(ak (aW (i:=1) fW.nd rfl aL (cH (aa (bT (aa az (aa (yE kE rfl R.e.Ng) ag))) (aa (bT (aa az (aa (yE kN rfl R.n.Ng) ag))) (aa (bT (aa az (aa (yE kF rfl R.f.Ng) ag))) (aa (bT (aa az (aa (yE kT rfl R.t.Ng) ag))) ag))))))
   (ak (aW (i:=2) fW.nd rfl aL (cH ag))
   (ak (du eI rfl (b9 rfl B.range (aa az ag)) (aA (i:=3) fW.nd rfl aL)
    (ak (aW (i:=4) fW.nd rfl aL (aH PT' h1 aM (aa (pv 0) (aa (pv 3) ag))))
    (ak (aW (i:=5) fW.nd rfl aL (aH BE h2 aM (aa (pv 4) ag)))
    (ak (aW (i:=6) fW.nd rfl aL (aH CA h9 aM (aa (pv 4) ag)))
    (av (cG (gQ gy i8 i7 cV (pv 2) (aa (bT (aa (pv 6) (aa (pv 5) (aa (aH RA h2 aM (aa (pv 4) (aa (aJ aV (by rfl) B.len fc (aa (aX eN (pv 6) az (fun _ _=>rfl)) ag)) ag))) ag)))) ag))))))))
   (ak (du eI rfl (bN (a9 uU (pv 2) (l9 xU (pv 2) pA (pB az)))) (dX (n:=3) rfl (aE (aA (i:=6) fW.nd rfl aL) (aE (aA (i:=5) fW.nd rfl aL) (aE (aA (i:=7) fW.nd rfl aL) cM))))
    (ak (d8 (pv 6) (dX (n:=5) rfl (aE (aA (i:=8) fW.nd rfl aL) (aE (aA (i:=9) fW.nd rfl aL) (aE (aA (i:=10) fW.nd rfl aL) (aE (aA (i:=11) fW.nd rfl aL) (aE (aA (i:=12) fW.nd rfl aL) cM)))))))
    (ak (aW (i:=13) fW.nd rfl aL (a9 NA (l9 Fd (pv 11) (pB az) pA) (l9 Fd (pv 11) pA (pB az))))
    (ak (aW (i:=14) fW.nd rfl aL (cU fh (by rfl) B.tup oX (aa ?c1 ag)))
    (av (du eI rfl (bN (a9 uU (pv 1) (cH (aa (bT (aa az (aa (Eu M GI h3 rfl R.r.Ng bI .nil aM (aa (pv 7) ag)) ag))) ag)))) (dX (n:=2) rfl (aE (aA (i:=15) fW.nd rfl aL) (aE (aA (i:=16) fW.nd rfl aL) cM)))
     (av (du eI rfl (bN (cH (aa (bT (aa (pv 11) (aa (pv 12) ag))) (aa (bT (aa (pv 13) (aa (pv 14) ag))) (aa (bT (aa (pv 11) (aa (pv 12) ag))) ag))))) (dX (n:=2) rfl (aE (aA (i:=17) fW.nd rfl aL) (aE (aA (i:=18) fW.nd rfl aL) cM)))
      (ak (aW (i:=19) fW.nd rfl aL (aH OD h1 aM (aa (pv 15) (aa (pv 10) (aa (pv 17) (aa (pv 18) (aa (pv 5) (aa (pv 7) ag))))))))
      (ak (aW (i:=20) fW.nd rfl aL (aH WK h2 aM (aa (pv 19) (aa (pv 9) (aa (pv 10) (aa (pv 17) (aa (pv 18) (aa Ek ag))))))))
      (av (dS (oj (jQ (aH IH h1 aM (aa (aH HA hr aM (aa (pv 16) (aa (pv 8) (aa (pv 17) (aa (pv 18) (aa (pv 5) ag)))))) (aa (pv 20) ag))))) (av (bh Ek)) b8))))))))))))
   (av (bh Ek)))))),?_⟩
  case c1=>
   refine' cQ (g:=(uN K 2 (gn (bH 0) (gn (bH 1) uM)))) (te:=(tIf (pf (jR (ZC) (bb 0) (bb 1))) (tC .cI) (bb 0))) (NB:=["_law_house","_law_home"]) (src:=[none,none]) (bz (by kernel_rfl)) rfl (M3 rfl B2.zip (aa (pv 12) (aa (pv 13) ag))) ?g ?t ?e;case g=>exact fun cl C s₃ H₃ fp=>(dX (n:=2) rfl (aE (aA (i:=0) nE rfl aL cW) (aE (aA (i:=1) nE rfl aL cW) cM)))
   case t=>exact fun cl C s₃ H₃ fp=>dC
   case e=>exact fun cl C s₃ H₃ fp=>(zF (aY iQ (pv 0) (pv 1) (bp _)) ii (pv 0))
  refine fun a0 d0 x0 y0 z0=>⟨by show 2<=sizeLine;decide,fun q0 hq0=>?_⟩
  have w0:=(mJ (C:=CE) x0 y0 (dI z0)).trans (aj (o:=.tup [.int 0,.ref a0]) hq0);have g0:(upd (upd (upd H d0 (.own a0)) a0 (.ins CE d0 [])) q0 (.tup [.int 0,.ref a0])) q0=some (.tup [.int 0,.ref a0])/\∃d,(upd (upd (upd H d0 (.own a0)) a0 (.ins CE d0 [])) q0 (.tup [.int 0,.ref a0])) a0=some (.ins CE d []):=⟨ae,d0,aj hq0 _ _ ae⟩
  generalize upd (upd (upd H d0 _) a0 _) q0 _=H0 at *;refine fun a1 d1 x1 y1 z1=>⟨by show 2<=sizeLine;decide,fun q1 Ib=>?_⟩
  have w1:=(mJ (C:=CN) x1 y1 (dI z1)).trans (aj (o:=.tup [.int 1,.ref a1]) Ib);have g1:(upd (upd (upd H0 d1 (.own a1)) a1 (.ins CN d1 [])) q1 (.tup [.int 1,.ref a1])) q1=some (.tup [.int 1,.ref a1])/\∃d,(upd (upd (upd H0 d1 (.own a1)) a1 (.ins CN d1 [])) q1 (.tup [.int 1,.ref a1])) a1=some (.ins CN d []):=⟨ae,d1,aj Ib _ _ ae⟩
  generalize upd (upd (upd H0 d1 _) a1 _) q1 _=H1 at *;refine fun a2 d2 x2 y2 z2=>⟨by show 2<=sizeLine;decide,fun q2 Ic=>?_⟩
  have w2:=(mJ (C:=CF) x2 y2 (dI z2)).trans (aj (o:=.tup [.int 2,.ref a2]) Ic);have g2:(upd (upd (upd H1 d2 (.own a2)) a2 (.ins CF d2 [])) q2 (.tup [.int 2,.ref a2])) q2=some (.tup [.int 2,.ref a2])/\∃d,(upd (upd (upd H1 d2 (.own a2)) a2 (.ins CF d2 [])) q2 (.tup [.int 2,.ref a2])) a2=some (.ins CF d []):=⟨ae,d2,aj Ic _ _ ae⟩
  generalize upd (upd (upd H1 d2 _) a2 _) q2 _=H2 at *;refine fun a3 d3 x3 y3 z3=>⟨by show 2<=sizeLine;decide,fun q3 Ui=>?_⟩
  have w3:=(mJ (C:=CT) x3 y3 (dI z3)).trans (aj (o:=.tup [.int 3,.ref a3]) Ui);have g3:(upd (upd (upd H2 d3 (.own a3)) a3 (.ins CT d3 [])) q3 (.tup [.int 3,.ref a3])) q3=some (.tup [.int 3,.ref a3])/\∃d,(upd (upd (upd H2 d3 (.own a3)) a3 (.ins CT d3 [])) q3 (.tup [.int 3,.ref a3])) a3=some (.ins CT d []):=⟨ae,d3,aj Ui _ _ ae⟩
  generalize upd (upd (upd H2 d3 _) a3 _) q3 _=H4 at *;refine⟨by show 4<=sizeLine;decide,fun rl Uk=>?_⟩;have w5:=aj (o:=.lst [V.ref q0,.ref q1,.ref q2,.ref q3]) Uk;have mv:∀ {b C q x} {Hx Hy:Hp},aI Hx Hy->(Hx q=some (.tup x)/\∃d,Hx b=some (.ins C d []))->(Hy q=some (.tup x)/\∃d,Hy b=some (.ins C d [])):=fun s h=>⟨s _ _ h.1,let ⟨d,e⟩:=h.2;⟨d,s _ _ e⟩⟩
  have rs:P9 CE CN CF CT (upd H4 rl (.lst [V.ref q0,.ref q1,.ref q2,.ref q3])) rl q0 q1 q2 q3 a0 a1 a2 a3:=⟨ae,mv (((w1.trans w2).trans w3).trans w5) g0,mv ((w2.trans w3).trans w5) g1,mv (w3.trans w5) g2,mv w5 g3⟩
  have w:=(((w0.trans w1).trans w2).trans w3).trans w5;generalize upd H4 rl _=H5 at *;clear g0 g1 g2 g3 w0 w1 w2 w3 w5 x0 x1 x2 x3 y0 y1 y2 y3 z0 z1 z2 z3 Uk mv hq0 Ib Ic Ui;refine⟨by show 0<=sizeLine;decide,fun Ak hA=>?_⟩;have sA:=aj (o:=.lst []) hA;have gA:=ae (H:=H5) (a:=Ak) (o:=.lst []);have nRA:rl≠Ak:=am rs.l hA;have S0:=hS.mono fun o u e=>sA _ _ (w _ _ e);have tp0:=(tp.same w).same sA;have tb0:=(tb.same w).same sA;have rs0:=rs.kn (fun b o e _=>sA b o e);generalize upd H5 Ak _=H6 at *;clear sA hA hS tp tb rs w;refine⟨2,rfl,by decide,by decide,eh (n:=2) (lo:=0) (fun k σ Hc=>(∃x3 x4 x5 x6 x7 x8 x9 Fs HL UI UJ UK Mb Mc FO FP FQ FS,σ=[some (.ref a),some (.ref rl),some (.ref Ak),x3,x4,x5,x6,x7,x8,x9,Fs,HL,UI,UJ,UK,Mb,Mc,FO,FP,FQ,FS])/\P_ K Hc a (ns.map V.int)/\mY Pt Hc/\jr PN PF PT PR Hc/\P9 CE CN CF CT Hc rl q0 q1 q2 q3 a0 a1 a2 a3/\∃qs:List Addr,qs.length=k/\Hc Ak=some (.lst (qs.map V.ref))/\∀q∈qs,A8 C Ak Hc q) ⟨⟨_,_,_,_,_,_,_,_,_,_,_,_,_,_,_,_,_,_,rfl⟩,S0,tp0,tb0,rs0,[],rfl,gA,fun q hq=>(nomatch hq)⟩ ?_ ?_⟩
  .rintro k σ Hc hk ⟨⟨x3,x4,x5,x6,x7,x8,x9,Fs,HL,UI,UJ,UK,Mb,Mc,FO,FP,FQ,FS,rfl⟩,Sc,tp,tb,rs,qs,ql,Ac,Qc⟩;rw[iF];refine⟨_,rfl,_,rfl,a,ns,k,rfl,Sc.seq,by lia,fun p H3 s3 Px nB=>?_⟩;refine⟨_,rfl,p,rfl,nB,fun bt H4 hbt s4 r9=>?_⟩;have t4:=(tp.same s3).mD s4 nB;have u4:=(tb.same s3).mD s4 nB;have A4:=s4 _ _ (s3 _ _ Ac) (am Ac Px);refine⟨_,rfl,p,rfl,r9,t4,fun t px oa fa ha sa n ts homes st H5 k5 w9 t5 ca=>?_⟩;have u5:=u4.xh k5 r9 t4 nP;have kc5:∀b o,Hc b=some o->N7 o->H5 b=some o:=fun b o e n=>k5 b o (s4 _ _ (s3 _ _ e) (am e Px)) (t4.not (s4 _ _ (s3 _ _ e) (am e Px)) n) (am e Px);have A5:=kc5 _ _ Ac nofun;have LO:=ca.sd.let ca.le;refine⟨_,rfl,.inl ⟨rfl,_,a8.of A5⟩,_,rfl,_,rfl,_,rfl,_,rfl,t,_,_,_,rfl,rfl,cu.of ca.tu,aD (j:=3) rfl,ha,_,rfl,.inr (cu.of ca.ha),p,homes.length,by rw[be];rfl,w9,by rw[LO.len];exact LO.le,fun ra ranks H6 s6 zm Ma SY=>?_⟩;have nAp:Ak≠p:=am Ac Px;have A6:=s6 _ _ A5 nAp;have kc6:∀b o,Hc b=some o->N7 o->H6 b=some o:=fun b o e n=>s6 b o (kc5 b o e n) (am e Px);have ck6:=(ca.r0 s6 r9.full w9).toK (A:=Ak) (fun z=>by rw[A4] at z;cases z) A6;have t6:=t5.mD s6 w9;have u6:=u5.mD s6 w9;refine⟨by show 3<=sizeLine;decide,fun q hq=>?_⟩;have sq:=aj (o:=.tup [.ref t,.int (bt:Nat),.ref ra]) hq;have k7:vH Ak H6 (upd (upd H6 q (.tup [.ref t,.int (bt:Nat),.ref ra])) Ak (.lst (qs.map V.ref++[.ref q]))):=fun b o e n m=>by rw[aq m];exact sq _ _ e
   have nq:q≠Ak:=(am A6 hq).symm;have kc7:vH Ak Hc (upd (upd H6 q (.tup [.ref t,.int (bt:Nat),.ref ra])) Ak (.lst (qs.map V.ref++[.ref q]))):=fun b o e n m=>k7 b o (kc6 b o e n) n m;have nra:ra≠Ak:=by rintro rfl;rw[A6] at Ma;cases Ma
   refine⟨Ak,_,_,rfl,rfl,sq _ _ A6,by rw[aT,ql];exact bv hk (by decide),⟨_,_,_,_,_,_,_,_,_,_,_,_,_,_,_,_,_,_,rfl⟩,Sc.mono fun o u e=>kc7 _ _ e nofun (by rintro rfl;rw[Ac] at e;cases e),(t6.same sq).putL (sq _ _ A6),(u6.same sq).putL (sq _ _ A6),rs.keep nRA Ac kc7,qs++[q],by rw[dh,ql];rfl,by rw[ae,dt];rfl,fun q' Jb=>?_⟩;rcases cL.mp Jb with z|z
   .exact(Qc _ z).keep kc7
   .rw[dA.mp z];exact⟨t,ra,bt,px,oa,fa,ha,sa,n,ts,homes,st,ranks,by rw[aq nq];exact ae,nq,k7 _ _ Ma nofun nra,nra,SY,ck6.keep k7⟩
  .rintro σ Hc ⟨⟨x3,x4,x5,x6,x7,x8,x9,Fs,HL,UI,UJ,UK,Mb,Mc,FO,FP,FQ,FS,rfl⟩,Sc,tp,tb,rs,qs,ql,Ac,Qc⟩;clear Sc tp S0 tp0 tb0 rs0 gA
   match qs,ql with
   |[k0,k1],_=>
   have Q0:=Qc k0 cK;have Q1:=Qc k1 (dq _ cK);refine⟨_,rfl,_,rfl,_,rfl,Ak,_,rfl,a8.of Ac,fun c hc=>?_⟩;have ec:iu ([k0,k1].map V.ref) none (some 1)=[.ref k0]:=rfl;rw[ec];have sC:=aj (o:=.lst [.ref k0]) hc;refine⟨Ak,c,_,_,rfl,rfl,sC _ _ Ac,ae,by show 3<=sizeLine;decide,fun r CQ=>?_⟩;have sR:=aj (o:=.lst ([k0,k1].map V.ref++[.ref k0])) CQ;have s1:=sC.trans sR;have gr:=ae (H:=upd Hc c (.lst [.ref k0])) (a:=r) (o:=.lst ([k0,k1].map V.ref++[.ref k0]));generalize upd (upd Hc c _) r _=H3 at *;have Q0:=Q0.keep (fun b o e _ _=>s1 b o e);have Q1:=Q1.keep (fun b o e _ _=>s1 b o e);have tb:=tb.same s1;have rs:=rs.kn (fun b o e _=>s1 b o e);clear sC sR s1 hc CQ Qc Ac ec;refine⟨r,rfl,⟨_,a8.of gr⟩,eM (K:=K) (xs:=[.ref k0,.ref k1,.ref k0]) (fun j σ Hd=>(∃x3 x4 x5 x6 x7 x8 x9 Fs HL UI UJ UK Mb Mc FO FP FQ FS,σ=[some (.ref a),some (.ref rl),some (.ref Ak),x3,x4,x5,x6,x7,x8,x9,Fs,HL,UI,UJ,UK,Mb,Mc,FO,FP,FQ,FS])/\jr PN PF PT PR Hd/\KQ PN PF PT PR H3 Hd) ⟨⟨_,_,_,_,_,_,_,_,_,_,_,_,_,_,_,_,_,_,rfl⟩,tb,KQ.of (aI.refl _)⟩ (fun j σ Hd _ z=>a8.of (z.2.2.kn tb _ _ gr nofun)) ?_ (fun σ Hd _=>q Hd)⟩;rintro j x σ Hd hx ⟨⟨x3,x4,x5,x6,x7,x8,x9,Fs,HL,UI,UJ,UK,Mb,Mc,FO,FP,FQ,FS,rfl⟩,td,kd⟩;obtain⟨qq,rfl,QQ⟩:∃q,x=.ref q/\A8 C Ak H3 q:=by
    match j,hx with
    |0,hx=>cases hx;exact⟨k0,rfl,Q0⟩
    |1,hx=>cases hx;exact⟨k1,rfl,Q1⟩
    |2,hx=>cases hx;exact⟨k0,rfl,Q0⟩
    |j+3,hx=>cases hx
   have kn:=kd.kn tb;obtain⟨t,ra,bt,px,oa,fa,ha,sa,n,ts,homes,st,ranks,eq,_,Zb,_,SY,ca⟩:=QQ.keep (H':=Hd) (fun b o e n _=>kn b o e n);have rd':=rs.kn kn;refine⟨qq,_,rfl,cu.of eq,rfl,_,_,rfl,_,_,rfl,_,_,rfl,rfl,?_⟩;have cn:=ca.toN;clear ca;have LO:=cn.sd.let cn.le;have fi:=cn.net.lD;refine⟨_,rfl,t,_,rfl,cu.of cn.tu,rfl,_,_,rfl,_,_,rfl,_,_,rfl,_,_,rfl,_,_,rfl,rfl,?_⟩;refine⟨_,rfl,_,rfl,ha,NV homes,rfl,cn.he,fun r1 I1 s1 Dz=>⟨_,rfl,_,rfl,ha,NV homes,rfl,s1 _ _ cn.he,fun r2 I2 s2 Bp=>⟨r1,r2,_,_,rfl,rfl,s2 _ _ Dz,Bp,?_,fun tu I3 s3 UL=>?_⟩⟩⟩
   .exact aZ (Nat.add_le_add (jt _ _ _) (jt _ _ _)) (by rw[be,LO.len];exact aZ (show _<=32 by have:=LO.le;lia) (by decide))
   have UL:I3 tu=some (.tup (NV (gv homes))):=by
    rw[UL];show some (HO.tup (iu (NV homes) (some ((1:Nat):Int)) none++iu (NV homes) none (some ((1:Nat):Int))))=_;rw[vC,DI];unfold gv NV;rw[dt,List.map_drop,List.map_take]
   have L_:=(s1.trans s2).trans s3;clear Dz Bp s1 s2 s3;have QI:=L_ _ _ cn.se;have fl:st.length=(gv homes).length:=by rw[rF,cn.sd.len]
   refine⟨_,rfl,_,rfl,sa,tu,_,_,rfl,cu.of QI,cu.of UL,by rw[aT,be];exact fl,fun D4 Bo=>?_⟩;refine JW (K:=K) (xs:=st.map oV) (ys:=NV (gv homes)) (by rw[aT,be];exact fl) (fun i zz σ H2=>(∃u v,σ=[u,v])/\aI I3 H2/\H2 D4=some (.lst zz)/\zz=((Bq (gv homes) st).map oV).take i) ⟨⟨_,_,rfl⟩,aj Bo,ae,rfl⟩ (fun i zz σ H _ z=>⟨cu.of (z.2.1 _ _ QI),cu.of (z.2.1 _ _ UL)⟩) ?_ ?_
   .rintro i x y pp zz σ J5 Kt Kf hx hy ⟨⟨u,v,rfl⟩,Sv,L9,rfl⟩ hpp kt kf;have hil:i<st.length:=by have:=(eR.mp hx).1;rwa [aT] at this
    rw[kI hil] at hx;obtain rfl:=cB hx;rw[iS (by lia)] at hy;obtain rfl:=cB hy;have sp:=aj (o:=.tup [oV (st.getD i none),.int (((gv homes).getD i 0:Nat):Int)]) hpp;have one:=Om (homes:=gv homes) (fs:=st) hil;have lt:(((Bq (gv homes) st).map oV).take i).length<sizeLine:=eK (BJ _ _) (by rw[aT,mV];exact eK cn.le (by decide));refine⟨pp,_,rfl,cu.of ae,rfl,_,_,rfl,_,_,rfl,rfl,?_⟩;refine⟨_,rfl,_,rfl,Sz,_,rfl,?_⟩;rw[W7];have go:∀v,((Bq (gv homes) st).map oV)[i]?=some v->∀σ2,(∃u v,σ2=[u,v])->Kt v σ2 (upd J5 pp (.tup [oV (st.getD i none),.int (((gv homes).getD i 0:Nat):Int)])):=fun v hv σ2 sh=>kt v σ2 _ (sp _ _ L9) lt ⟨sh,bj (Sv.trans sp) Bo,ae,by rw[gW,hv];rfl⟩;by_cases c:st.getD i none=some ((gv homes).getD i 0)
    .rw[ap c] at one;rw[iN c];exact vT (go _ one _ ⟨_,_,rfl⟩)
    .rw[ao c] at one;rw[gY c];exact jS ⟨_,rfl,go _ one _ ⟨_,_,rfl⟩⟩
   rintro zz σ J5 ⟨_,Sv,L9,rfl⟩;rw[aT,show st.length=((Bq (gv homes) st).map oV).length by rw[aT,mV],i_] at L9;refine⟨D4,_,rfl,.inl ⟨a8.of L9,fun lf hlf=>?_⟩⟩;have sB:=(L_.trans Sv).trans (aj (o:=.tup ((Bq (gv homes) st).map oV)) hlf);have glf:=ae (H:=J5) (a:=lf) (o:=.tup ((Bq (gv homes) st).map oV));have gtu:=aj (o:=.tup ((Bq (gv homes) st).map oV)) hlf _ _ (Sv _ _ UL);generalize upd J5 lf _=J6 at *;refine⟨_,rfl,_,rfl,fun rx rd nx nrd Y5=>?_⟩;have sN:=mJ (C:=CR) nx nrd (dI Y5);refine⟨rx,rd,ra,ranks,rfl,ae,sN _ _ (sB _ _ Zb),by rw[SY,LO.len];exact aZ LO.le (by decide),fun J7 rk7 se7=>⟨rfl,by show 2<=sizeLine;decide,fun q5 hq5=>⟨by show 1<=sizeLine;decide,fun l1 Bi=>?_⟩⟩⟩;have La:aI J6 J7:=fun b o e=>se7 _ _ (sN _ _ e) (am e nx);have sQ:=aj (o:=.tup [.int 5,.ref rx]) hq5;have Zc:=aj (o:=.lst [V.ref q5]) Bi;have rd8:=((rd'.kn (fun b o e _=>sB b o e)).kn (fun b o e _=>La b o e)).kn (fun b o e _=>(sQ.trans Zc) b o e);refine⟨rl,l1,_,_,rfl,rfl,rd8.l,ae,by show 5<=sizeLine;decide,fun RL hRL=>?_⟩;have sR:=aj (o:=.lst ([V.ref q0,.ref q1,.ref q2,.ref q3]++[.ref q5])) hRL;have gR:(upd (upd (upd J7 q5 (.tup [.int 5,.ref rx])) l1 (.lst [V.ref q5])) RL (.lst ([V.ref q0,.ref q1,.ref q2,.ref q3]++[.ref q5]))) RL=some (.lst [V.ref q0,.ref q1,.ref q2,.ref q3,.ref q5]):=ae;have s78:=(sQ.trans Zc).trans sR;have Qa:=rd8.kn (fun b o e _=>sR b o e);have g5:=sR _ _ (Zc _ _ (ae (H:=J7) (a:=q5) (o:=.tup [.int 5,.ref rx])));have Zd:=La.trans s78;have Lz:=sB.trans Zd;have r5:=rk7.same s78;have td:=td.same Lz;have cn:=cn.kn (fun b o e _=>Lz b o e);have Zb:=Lz _ _ Zb;have gtu:=Zd _ _ gtu;have glf:=Zd _ _ glf;have kd:=kd.trans (KQ.of Lz);generalize upd (upd (upd J7 q5 _) l1 _) RL _=J8 at *;clear Lz Zd s78 sR Zc sQ La sN sB Sv L9 L_ QI UL hlf hRL Bi hq5 se7 rk7 nx nrd Y5 rd8 rd' Bo eq;refine⟨RL,rfl,⟨_,a8.of gR⟩,eM (K:=K) (xs:=[.ref q0,.ref q1,.ref q2,.ref q3,.ref q5]) (fun i σ He=>(∃Mb Mc FO FP FQ FS,σ=[some (.ref a),some (.ref rl),some (.ref Ak),x3,x4,some (.int (bt:Nat)),some (.ref t),some (.ref ra),some (.ref px),some (.ref oa),some (.ref fa),some (.ref ha),some (.ref sa),some (.ref tu),some (.ref lf),Mb,Mc,FO,FP,FQ,FS])/\jr PN PF PT PR He/\KQ PN PF PT PR J8 He) ⟨⟨_,_,_,_,_,_,rfl⟩,td,KQ.of (aI.refl _)⟩ (fun i σ He _ z=>a8.of (z.2.2.kn td _ _ gR nofun)) ?_ ?_⟩
   rotate_left
   .rintro σ He ⟨⟨Mb,Mc,FO,FP,FQ,FS,rfl⟩,te,ke⟩;exact⟨⟨_,_,_,_,_,_,_,_,_,_,_,_,_,_,_,_,_,_,rfl⟩,te,kd.trans ke⟩
   rintro i x σ He hx ⟨⟨Mb,Mc,FO,FP,FQ,FS,rfl⟩,te,ke⟩;obtain⟨qi,ai,jY,rfl,w6,w4,eqi,rai⟩:∃ (qi ai jY:Nat),x=.ref qi/\jY<6/\jY≠4/\J8 qi=some (.tup [.int (jY:Nat),.ref ai])/\Rl CE CN CF CT CI CR ranks J8 jY ai:=by
    match i,hx with
    |0,hx=>cases hx;exact⟨q0,a0,0,rfl,by decide,by decide,Qa.e.1,Qa.e.2⟩
    |1,hx=>cases hx;exact⟨q1,a1,1,rfl,by decide,by decide,Qa.n.1,Qa.n.2⟩
    |2,hx=>cases hx;exact⟨q2,a2,2,rfl,by decide,by decide,Qa.f.1,Qa.f.2⟩
    |3,hx=>cases hx;exact⟨q3,a3,3,rfl,by decide,by decide,Qa.t.1,Qa.t.2⟩
    |4,hx=>cases hx;exact⟨q5,rx,5,rfl,by decide,by decide,g5,r5⟩
    |i+5,hx=>cases hx
   have kne:=ke.kn td;refine⟨qi,_,rfl,cu.of (kne _ _ eqi nofun),rfl,_,_,rfl,_,_,rfl,rfl,?_⟩;refine⟨_,rfl,_,rfl,by show 2<=sizeLine;decide,fun p1 mW=>⟨_,rfl,_,rfl,by show 2<=sizeLine;decide,fun p2 vK=>⟨_,rfl,_,rfl,by show 2<=sizeLine;decide,fun p3 nB=>⟨by show 3<=sizeLine;decide,fun LL hLL=>?_⟩⟩⟩⟩;have v1:=aj (o:=.tup [.ref ha,.ref sa]) mW;have v2:=aj (o:=.tup [.ref tu,.ref lf]) vK;have v3:=aj (o:=.tup [.ref ha,.ref sa]) nB;have v4:=aj (o:=.lst [V.ref p1,.ref p2,.ref p3]) hLL;have e1:=v4 _ _ (v3 _ _ (v2 _ _ (ae (H:=He) (a:=p1) (o:=.tup [.ref ha,.ref sa]))));have e2:=v4 _ _ (v3 _ _ (ae (H:=upd He p1 (.tup [.ref ha,.ref sa])) (a:=p2) (o:=.tup [.ref tu,.ref lf])));have e3:=v4 _ _ (ae (H:=upd (upd He p1 (.tup [.ref ha,.ref sa])) p2 (.tup [.ref tu,.ref lf])) (a:=p3) (o:=.tup [.ref ha,.ref sa]));have gLL:=ae (H:=upd (upd (upd He p1 (.tup [.ref ha,.ref sa])) p2 (.tup [.ref tu,.ref lf])) p3 (.tup [.ref ha,.ref sa])) (a:=LL) (o:=.lst [V.ref p1,.ref p2,.ref p3]);have v:=((v1.trans v2).trans v3).trans v4;generalize upd (upd (upd (upd He p1 _) p2 _) p3 _) LL _=Hf at *;have tf:=te.same v;have kf:=ke.trans (KQ.of v);have Xo:=kf.kn td;clear v v1 v2 v3 v4 mW vK nB hLL hx;have cf:=cn.kn Xo;have raf:=rai.kn Xo;have aaE:=Xo _ _ Zb nofun;have gtf:=Xo _ _ gtu nofun;have aaF:=Xo _ _ glf nofun;refine⟨LL,rfl,⟨_,a8.of gLL⟩,eM (K:=K) (xs:=[.ref p1,.ref p2,.ref p3]) (fun j σ Hg=>(∃FO FP FQ FS,σ=[some (.ref a),some (.ref rl),some (.ref Ak),x3,x4,some (.int (bt:Nat)),some (.ref t),some (.ref ra),some (.ref px),some (.ref oa),some (.ref fa),some (.ref ha),some (.ref sa),some (.ref tu),some (.ref lf),some (.int (jY:Nat)),some (.ref ai),FO,FP,FQ,FS])/\jr PN PF PT PR Hg/\KQ PN PF PT PR Hf Hg) ⟨⟨_,_,_,_,rfl⟩,tf,KQ.of (aI.refl _)⟩ (fun j σ Hg _ z=>a8.of (z.2.2.kn tf _ _ gLL nofun)) ?_ ?_⟩
   rotate_left
   .rintro σ Hg ⟨⟨FO,FP,FQ,FS,rfl⟩,tg,kg⟩;exact⟨⟨_,_,_,_,_,_,rfl⟩,tg,kf.trans kg⟩
   rintro j x σ Hg hx ⟨⟨FO,FP,FQ,FS,rfl⟩,tg,kg⟩;obtain⟨pj,ea,eb,hm,sj,rfl,ej,Xp,Xq,lej,sdj,hml⟩:∃ (pj ea eb:Nat) (hm:aQ) (sj:bA),x=.ref pj/\Hf pj=some (.tup [.ref ea,.ref eb])/\Hf ea=some (.tup (NV hm))/\Hf eb=some (.tup (sj.map oV))/\sj.length<=16/\kH n ts hm sj/\hm.length=homes.length:=by
    match j,hx with
    |0,hx=>cases hx;exact⟨p1,ha,sa,homes,st,rfl,e1,cf.he,cf.se,cf.le,cf.sd,rfl⟩
    |1,hx=>cases hx;exact⟨p2,tu,lf,gv homes,_,rfl,e2,gtf,aaF,by rw[mV];exact cf.le,Ob cf.sd,rF⟩
    |2,hx=>cases hx;exact⟨p3,ha,sa,homes,st,rfl,e3,cf.he,cf.se,cf.le,cf.sd,rfl⟩
    |j+3,hx=>cases hx
   have UM:=kg.kn tf;have cg:=cf.kn UM;have LOj:=sdj.let lej;have Xp:=UM _ _ Xp nofun;have Xq:=UM _ _ Xq nofun;refine⟨pj,_,rfl,cu.of (UM _ _ ej nofun),rfl,_,_,rfl,_,_,rfl,rfl,?_⟩;refine⟨_,rfl,_,rfl,_,rfl,_,rfl,_,rfl,_,rfl,jY,fa,ea,eb,ra,(bt:Nat),n,ts,_,hm,sj,ranks,rfl,w6,cg.far,trivial,Xp,Xq,LOj,UM _ _ aaE nofun,by rw[SY,hml],fun d Hh out sh hd0 hdh op pw=>?_⟩;have ch:=cg.kn (fun b o e _=>sh b o e);refine⟨_,rfl,_,rfl,_,rfl,_,rfl,_,rfl,d,oa,fa,ea,eb,n,ts,_,_,hm,out,sj,rfl,hdh,op,fi,ch.out,trivial,ch.far,trivial,sh _ _ Xp,sh _ _ Xq,LOj,sdj,fun wk Hi si hwk=>?_⟩;have Xr:=sh.trans si;have ci':=ch.kn (fun b o e _=>si b o e);have ti:=tg.same Xr;refine⟨_,rfl,_,rfl,_,rfl,_,rfl,_,rfl,_,ai,px,ea,eb,_,jY,n,ts,hm,sj,ranks,rfl,w6,w4,(raf.kn UM).kn (fun b o e _=>Xr b o e),ci'.net,Xr _ _ Xp,Xr _ _ Xq,LOj,by lia,by rw[SY,hml],ti,fun tt Hj mZ tj kj Va pw' htj=>?_⟩;have M8:∀m∈oU sj sj.length,m<64:=fun m hm=>by have:=(jC hm).1;lia
   obtain rfl:mZ=out:=SS M8 Va op pw' pw;refine⟨_,rfl,tt,wk,_,rfl,htj,kj.kn ti _ _ hwk nofun,by rw[(SL sdj Va).hd.len];exact lej,fun Hk sk=>⟨_,rfl,jS ⟨⟨_,_,_,_,rfl⟩,tj.same sk,((kg.trans (KQ.of Xr)).trans kj).trans (KQ.of sk)⟩⟩⟩
def FD(K:a_)(n:Str)(st:Stmt):Prop:=∃ (f:Addr) (oc:Value) (od an:js) (sl:m_) (kV dc pm cd ct:Value),W.nsIn K mainGlobals n=some (some (.ref f))/\K.lookup f=some ⟨oc,od,.func (W.fnOf n n (eE st) (cP st) (aw st) .none kV dc pm an cd ct),sl⟩/\W.codeIn K cd n=true/\W.keepIn K (.ref f)=true
def FC(K:a_)(n:Str)(st:Stmt)(c:Addr):Prop:=∃ (f:Addr) (oc:Value) (od an:js) (sl:m_) (kV dc pm ct:Value),W.nsIn K mainGlobals n=some (some (.ref f))/\K.lookup f=some ⟨oc,od,.func (W.fnOf n n (eE st) (cP st) (aw st) .none kV dc pm an (.ref c) ct),sl⟩/\W.codeIn K (.ref c) n=true/\W.keepIn K (.ref f)=true
def MD(K:a_)(C:Addr)(n q:Str)(st:Stmt):Prop:=∃ (f:Addr) (oc:Value) (od an:js) (sl:m_) (kV dc pm cd ct:Value),W.findIn K (.ref C) n=some (some (.ref f))/\W.isFn K (.ref f)=true/\K.lookup f=some ⟨oc,od,.func (W.fnOf n q (eE st) (cP st) (aw st) .none kV dc pm an cd ct),sl⟩/\W.codeIn K cd q=true/\W.keepIn K (.ref f)=true
def MC(K:a_)(C:Addr)(n q:Str)(st:Stmt)(c:Addr):Prop:=∃ (f:Addr) (oc:Value) (od an:js) (sl:m_) (kV dc pm ct:Value),W.findIn K (.ref C) n=some (some (.ref f))/\W.isFn K (.ref f)=true/\K.lookup f=some ⟨oc,od,.func (W.fnOf n q (eE st) (cP st) (aw st) .none kV dc pm an (.ref c) ct),sl⟩/\W.codeIn K (.ref c) q=true/\W.keepIn K (.ref f)=true
section
variable {P:bL} {w:World} {K:a_} {mg:cr} {base h:Heap} {n q:Str} {st:Stmt} {f c C:Addr} {oc kV dc pm cd ct:Value} {od an:js} {sl:m_} {CX:Be} {k:Nat} {ps:bQ} {sp:Sp}
theorem FD.mk(a:W.nsIn K mainGlobals n=some (some (.ref f)))(l:K.lookup f=some ⟨oc,od,.func (W.fnOf n n (eE st) (cP st) (aw st) .none kV dc pm an cd ct),sl⟩)(d:W.codeIn K cd n=true)(k:W.keepIn K (.ref f)=true):FD K n st:=⟨f,oc,od,an,sl,kV,dc,pm,cd,ct,a,l,d,k⟩
theorem FC.mk(a:W.nsIn K mainGlobals n=some (some (.ref f)))(l:K.lookup f=some ⟨oc,od,.func (W.fnOf n n (eE st) (cP st) (aw st) .none kV dc pm an (.ref c) ct),sl⟩)(d:W.codeIn K (.ref c) n=true)(k:W.keepIn K (.ref f)=true):FC K n st c:=⟨f,oc,od,an,sl,kV,dc,pm,ct,a,l,d,k⟩
theorem MD.mk(a:W.findIn K (.ref C) n=some (some (.ref f)))(i:W.isFn K (.ref f)=true)(l:K.lookup f=some ⟨oc,od,.func (W.fnOf n q (eE st) (cP st) (aw st) .none kV dc pm an cd ct),sl⟩)(d:W.codeIn K cd q=true)(k:W.keepIn K (.ref f)=true):MD K C n q st:=⟨f,oc,od,an,sl,kV,dc,pm,cd,ct,a,i,l,d,k⟩
theorem MC.mk(a:W.findIn K (.ref C) n=some (some (.ref f)))(i:W.isFn K (.ref f)=true)(l:K.lookup f=some ⟨oc,od,.func (W.fnOf n q (eE st) (cP st) (aw st) .none kV dc pm an (.ref c) ct),sl⟩)(d:W.codeIn K (.ref c) q=true)(k:W.keepIn K (.ref f)=true):MC K C n q st c:=⟨f,oc,od,an,sl,kV,dc,pm,ct,a,i,l,d,k⟩
def BD(n q:Str)(st:Stmt)(ps:bQ):Prop:=∀ (kV pi pm:Value) (an:js) (fX ct:Value) (us:bw),us.length=ps.length->bindArgs (W.fnOf n q (eE st) (cP st) (aw st) .none kV pi pm an fX ct) ⟨us,[]⟩=pure (ps.zip us)
theorem FD.iU(X:K.In h)(G:h.Ns mainGlobals mg)(D:FD K n st)(b:BD n n st ps)(o:∀ {f fd},iH K n n st f fd->bU Pzz w K mg base CX k f fd ps sp):d9 Pzz w K mg base CX k n ps sp:=by
 obtain⟨f,_,_,_,_,_,_,_,_,_,a,l,d,kp⟩:=D;have F:=uW (x:=n) (qual:=n) (st:=st) l d kp;exact⟨⟨f,_,W.mg_of X G a,kp,F.binds b,o F⟩⟩
theorem FC.iU(X:K.In h)(G:h.Ns mainGlobals mg)(D:FC K n st c)(b:BD n n st ps)(o:∀ {f fd},sI K n n st f fd c->bU Pzz w K mg base CX k f fd ps sp):d9 Pzz w K mg base CX k n ps sp:=by
 obtain⟨f,_,_,_,_,_,_,_,_,a,l,d,kp⟩:=D;have F:=EL (x:=n) (qual:=n) (st:=st) l d kp;exact⟨⟨f,_,W.mg_of X G a,kp,F.fun.binds b,o F⟩⟩
theorem MD.iU(D:MD K C n q st)(b:BD n q st ps)(o:∀ {f fd},iH K n q st f fd->bU Pzz w K mg base CX k f fd ps sp):jW Pzz w K mg base CX k C n ps sp:=by
 obtain⟨f,_,_,_,_,_,_,_,_,_,a,i,l,d,kp⟩:=D;have F:=uW (x:=n) (qual:=q) (st:=st) l d kp;exact⟨⟨f,_,⟨a,i,kp⟩,F.binds b,o F⟩⟩
theorem MC.iU(D:MC K C n q st c)(b:BD n q st ps)(o:∀ {f fd},sI K n q st f fd c->bU Pzz w K mg base CX k f fd ps sp):jW Pzz w K mg base CX k C n ps sp:=by
 obtain⟨f,_,_,_,_,_,_,_,_,a,i,l,d,kp⟩:=D;have F:=EL (x:=n) (qual:=q) (st:=st) l d kp;exact⟨⟨f,_,⟨a,i,kp⟩,F.fun.binds b,o F⟩⟩
end
theorem S9{l:W.OpenLaw}{w:World}{K:a_}{h:Heap}{mg:cr}{fa:Addr}(X:K.In h)(G:h.Ns mainGlobals mg)(Y6:mg "law"=some (.ref fa)){C cO Pt cN PN cF PF cT PT cR PR fq dF cS ft dw cD:Addr}{sY wc sZ:Tok}(aC:W.nsIn K mainGlobals "Net"=some (some (.ref C)))(On:W.nsIn K mainGlobals "Elder"=some (some (.ref fq)))(HM:W.nsIn K mainGlobals "Nearest"=some (some (.ref dF)))(Ed:W.nsIn K mainGlobals "Farthest"=some (some (.ref cS)))(Oo:W.nsIn K mainGlobals "Turns"=some (some (.ref ft)))(LA:W.nsIn K mainGlobals "InTurn"=some (some (.ref dw)))(A9:W.nsIn K mainGlobals "Ranked"=some (some (.ref cD)))(Op:FD K "is_whole" Dp)(LB:FD K "is_whole_within" yw)(Oq:FD K "is_house" Dq)(Xs:FD K "is_row" Ri)(Xt:FD K "are_unlike_houses" Ru)(Xu:FD K "is_tie" Rq)(Os:FD K "check_ties" Dv)(Xv:FD K "check_balance" Rt)(S_:FC K "houses_out" AL cO)(Ta:FD K "distances_from" Ku)(Ot:FD K "check_reached" Dw)(aaG:FD K "under_way" sUW)(aaH:FD K "first_free" sFF)(Xw:FD K "_law_pot" RY)(Tb:FD K "_law_take" KC)(Tc:FD K "_law_beat" KD)(Td:FD K "_law_ring" KU)(Te:FD K "_law_some_pairs" KW)(Xx:FD K "_law_box" Sa)(Ou:FD K "_law_words" vD)(Xy:FD K "_law_one_way" Sf)(Xz:FD K "_law_renamed" Sg)(XA:FD K "_law_net" Sq)(Ov:FD K "_law_outs" DP)(Tf:FD K "_law_far" Lb)(Ow:FD K "_law_start" DQ)(Tg:FD K "_law_case" Ll)(Ox:FD K "_law_ranks" D5)(aaI:FD K "hand_in_turn" sHT)(aaJ:FD K "hand_eagerly" sHE)(Th:FD K "hand" Li)(Ti:FD K "_law_order" Ls)(Tj:FD K "_law_free" Lv)(Oy:FD K "_law_good" D_)(aaK:FD K "_law_is_handing" sIH)(Tk:FD K "_law_walk" Lw)(XB:FD K "law" Ec)(Tl:MD K C "__init__" "Net.__init__" E9)(Oz:MD K C "check_house" "Net.check_house" Dt)(XC:MD K C "far" "Net.far" Rn)(XD:MD K C "out" "Net.out" Rm)(To:MD K C "good" "Net.good" Km)(pg:W.plainGet K C Str.empty=true)(aaL:W.hasDictIn K C=true)(po:W.plainOver K C=true)(sa:W.findIn K (.ref C) "__setattr__"=some (some (.builtin "object.__setattr__")))(mk:W.makesIn K C=true)(kc:W.keepIn K (.ref C)=true)(nH:W.findIn K (.ref C) "house_count"=some none)(nT:W.findIn K (.ref C) "tie_list"=some none)(nO:W.findIn K (.ref C) "out_lists"=some none)(nD:W.findIn K (.ref C) "distances"=some none)(zf:W.nsIn K mainGlobals "isinstance"=some none)(XE:W.nsIn K mainGlobals "int"=some none)(Tp:W.nsIn K mainGlobals "bool"=some none)(OA:W.nsIn K mainGlobals "tuple"=some none)(Tq:W.nsIn K mainGlobals "list"=some none)(XF:W.nsIn K mainGlobals "str"=some none)(XG:W.nsIn K mainGlobals "set"=some none)(XH:W.nsIn K mainGlobals "len"=some none)(OB:W.nsIn K mainGlobals "range"=some none)(LC:W.nsIn K mainGlobals "sorted"=some none)(XI:W.nsIn K mainGlobals "any"=some none)(XJ:W.nsIn K mainGlobals "max"=some none)(XM:W.nsIn K mainGlobals "min"=some none)(zg:W.nsIn K mainGlobals "ValueError"=some none)(XN:W.nsIn K mainGlobals "all"=some none)(XO:W.nsIn K mainGlobals "abs"=some none)(LD:W.nsIn K mainGlobals "divmod"=some none)(Tt:W.nsIn K mainGlobals "dict"=some none)(XQ:W.nsIn K mainGlobals "zip"=some none)(Tu:W.nsIn K mainGlobals "repr"=some none)(sf:W.nsIn K mainGlobals "enumerate"=some none)(s_:W.nsIn K mainGlobals "FEWEST_HOUSES"=some (some (.int 2 sY)))(wd:W.nsIn K mainGlobals "MOST_HOUSES"=some (some (.int 32 wc)))(tm:W.nsIn K mainGlobals "MOST_TIES_OUT"=some (some (.int 8 sZ)))(HN:W.specialIn K (.builtin "object.__class__") "__get__"=some (some (.builtin "getset_descriptor.__get__")))(HP:W.takesIn K (.builtin "object.__class__")=some true)(aaM:W.plainGet K fq Str.empty=true)(aaN:W.hasDictIn K fq=true)(aaO:W.plainOver K fq=true)(aaP:W.findIn K (.ref fq) "__setattr__"=some (some (.builtin "object.__setattr__")))(aaQ:W.findIn K (.ref fq) "__class__"=some (some (.builtin "object.__class__")))(aaR:W.mroIn K fq (.type "object")=some true)(aaS:W.kitOne K (.ref fq) (.ref dw)=some false)(aaT:W.makesIn K fq=true)(aaU:W.keepIn K (.ref fq)=true)(aaV:W.findIn K (.ref fq) "__init__"=some (some (.builtin "object.__init__")))(aaW:MD K fq "order" "Rule.order" Fu)(aaX:W.plainGet K dF Str.empty=true)(aaY:W.hasDictIn K dF=true)(aaZ:W.plainOver K dF=true)(aa0:W.findIn K (.ref dF) "__setattr__"=some (some (.builtin "object.__setattr__")))(aa1:W.findIn K (.ref dF) "__class__"=some (some (.builtin "object.__class__")))(aa2:W.mroIn K dF (.type "object")=some true)(aa3:W.kitOne K (.ref dF) (.ref dw)=some false)(aa4:W.makesIn K dF=true)(aa5:W.keepIn K (.ref dF)=true)(aa6:W.findIn K (.ref dF) "__init__"=some (some (.builtin "object.__init__")))(aa7:MC K dF "order" "Nearest.order" xb cN)(aa8:W.plainGet K cS Str.empty=true)(aa9:W.hasDictIn K cS=true)(aba:W.plainOver K cS=true)(abb:W.findIn K (.ref cS) "__setattr__"=some (some (.builtin "object.__setattr__")))(abc:W.findIn K (.ref cS) "__class__"=some (some (.builtin "object.__class__")))(abd:W.mroIn K cS (.type "object")=some true)(abe:W.kitOne K (.ref cS) (.ref dw)=some false)(abf:W.makesIn K cS=true)(abg:W.keepIn K (.ref cS)=true)(abh:W.findIn K (.ref cS) "__init__"=some (some (.builtin "object.__init__")))(abi:MC K cS "order" "Farthest.order" xc cF)(abj:W.plainGet K ft Str.empty=true)(abk:W.hasDictIn K ft=true)(abl:W.plainOver K ft=true)(abm:W.findIn K (.ref ft) "__setattr__"=some (some (.builtin "object.__setattr__")))(abn:W.findIn K (.ref ft) "__class__"=some (some (.builtin "object.__class__")))(abo:W.mroIn K ft (.type "object")=some true)(abp:W.kitOne K (.ref ft) (.ref dw)=some false)(abq:W.makesIn K ft=true)(abr:W.keepIn K (.ref ft)=true)(abt:W.findIn K (.ref ft) "__init__"=some (some (.builtin "object.__init__")))(abu:MC K ft "order" "Turns.order" xf cT)(abv:W.plainGet K dw Str.empty=true)(abw:W.hasDictIn K dw=true)(abx:W.plainOver K dw=true)(aby:W.findIn K (.ref dw) "__setattr__"=some (some (.builtin "object.__setattr__")))(abz:W.findIn K (.ref dw) "__class__"=some (some (.builtin "object.__class__")))(abA:W.mroIn K dw (.type "object")=some true)(abB:W.kitOne K (.ref dw) (.ref dw)=some true)(abC:MD K dw "order" "Rule.order" Fu)(XR:W.plainGet K cD Str.empty=true)(XS:W.hasDictIn K cD=true)(XT:W.plainOver K cD=true)(XU:W.findIn K (.ref cD) "__setattr__"=some (some (.builtin "object.__setattr__")))(abD:W.findIn K (.ref cD) "__class__"=some (some (.builtin "object.__class__")))(abE:W.mroIn K cD (.type "object")=some true)(abF:W.kitOne K (.ref cD) (.ref dw)=some false)(abG:W.makesIn K cD=true)(abH:W.keepIn K (.ref cD)=true)(abI:MC K cD "order" "Ranked.order" xg cR)(abJ:MD K cD "check_letters" "Ranked.check_letters" Lm)(Tv:MD K cD "__init__" "Ranked.__init__" yT)(abK:W.findIn K (.ref cD) "ranks"=some none)(q_n:W.codeHdIn K cN PN=true)(q_f:W.codeHdIn K cF PF=true)(q_t:W.codeHdIn K cT PT=true)(q_r:W.codeHdIn K cR PR=true)(ndT:[PN,PF,PT,PR].Nodup)(nPt:Pt∉[PN,PF,PT,PR])(Tw:W.codeHdIn K cO Pt=true):
  ∃fd:FuncData,(∀ (s:aR) (v:Value),BindsTo s fd ⟨[v],[]⟩ [("_law_script",v)])/\∀base:Heap,K.In base->base.Ns mainGlobals mg->q9 mg base->bU l.prog w K mg base bo 11 fa fd ["_law_script"] (FN K Pt PN PF PT PR):=by
 obtain⟨ace,oc,od,an,sl,kV,dc,pm,cd,ct,XV,XW,XX,XY⟩:=XB;have e:=Y6.symm.trans (W.mg_of X G XV);cases e;have XZ:=uW (x:="law") (qual:="law") (st:=Ec) XW XX XY;obtain⟨f_i,oci,odi,ani,sli,kVi,dci,pmi,cdi,cti,a_i,i_i,l_i,d_i,k_i⟩:=Tl;have A_:=uW (x:="__init__") (qual:="Net.__init__") (st:=E9) l_i d_i k_i;have LG:=A_.binds (ps:=["self","many","ties"]) fun _ _ _ _ _ _ us hl=>match us,hl with|[_,_,_],_=>rfl
 have MK:Mk K C f_i:=⟨mk,a_i,i_i,kc⟩
 have B:Bl mg:=⟨W.mg_none_of X G zf,W.mg_none_of X G XE,W.mg_none_of X G Tp,W.mg_none_of X G OA,W.mg_none_of X G Tq,W.mg_none_of X G XF,W.mg_none_of X G XG,W.mg_none_of X G XH,W.mg_none_of X G OB,W.mg_none_of X G LC,W.mg_none_of X G XI,W.mg_none_of X G XJ,W.mg_none_of X G XM,W.mg_none_of X G zg,W.mg_none_of X G XN⟩
 have T:NT K mg C:=⟨⟨pg,aaL,po,sa⟩,nH,nT,nO,nD,W.mg_of X G aC⟩
 have B2:Uu mg:=⟨W.mg_none_of X G XO,W.mg_none_of X G LD,W.mg_none_of X G Tt,W.mg_none_of X G XQ,W.mg_none_of X G Tu⟩
 have hE:mg "enumerate"=none:=W.mg_none_of X G sf;have RKT:Y9 K mg cD:=⟨⟨XR,XS,XT,XU⟩,abK,W.mg_of X G A9⟩
 obtain⟨X0,oc9,od9,an9,sl9,kV9,dc9,pm9,cd9,ct9,abL,abM,abN,abO,abP⟩:=Tv;have X1:=uW (x:="__init__") (qual:="Ranked.__init__") (st:=yT) abN abO abP;have abQ:=X1.binds (ps:=["self","ranks"]) fun _ _ _ _ _ _ us hl=>match us,hl with|[_,_],_=>rfl
 have RMK:Mk K cD X0:=⟨abG,abL,abM,abH⟩
 refine⟨W.fnOf "law" "law" (eE Ec) (cP Ec) (aw Ec) .none kV dc pm an cd ct,fun s v=>.of_eq rfl,fun base kb nb hb=>?_⟩;have FT:d9 l.prog w K mg base bo 1 "is_whole" ["thing"] (pR K):=FD.iU X G Op (fun _ _ _ _ _ _ us hl=>match us,hl with|[_],_=>rfl) fun OC=>Kh OC B;have Ba:d9 l.prog w K mg base bo 2 "is_whole_within" ["thing","least","most"] (pS K):=FD.iU X G LB (fun _ _ _ _ _ _ us hl=>match us,hl with|[_,_,_],_=>rfl) fun LH=>Hb LH FT;have FU:d9 l.prog w K mg base bo 3 "is_house" ["many","thing"] (tV K):=FD.iU X G Oq (fun _ _ _ _ _ _ us hl=>match us,hl with|[_,_],_=>rfl) fun OE=>Kj OE Ba;have X2:d9 l.prog w K mg base bo 1 "is_row" ["thing","length"] (Kk K):=FD.iU X G Xs (fun _ _ _ _ _ _ us hl=>match us,hl with|[_,_],_=>rfl) fun X3=>Rj X3 B;have X4:d9 l.prog w K mg base bo 4 "are_unlike_houses" ["many","one","other"] Ko:=FD.iU X G Xt (fun _ _ _ _ _ _ us hl=>match us,hl with|[_,_,_],_=>rfl) fun X5=>Rv X5 FU;have X6:d9 l.prog w K mg base bo 5 "is_tie" ["many","thing"] Kp:=FD.iU X G Xu (fun _ _ _ _ _ _ us hl=>match us,hl with|[_,_],_=>rfl) fun X7=>Rx X7 X2 X4;have OF:d9 l.prog w K mg base bo 6 "check_ties" ["many","ties"] mR:=FD.iU X G Os (fun _ _ _ _ _ _ us hl=>match us,hl with|[_,_],_=>rfl) fun OG=>Kr OG B ⟨_,W.mg_of X G s_⟩ ⟨_,W.mg_of X G wd⟩ Ba X6;have X8:d9 l.prog w K mg base bo 1 "check_balance" ["many","ties"] mR:=FD.iU X G Xv (fun _ _ _ _ _ _ us hl=>match us,hl with|[_,_],_=>rfl) fun X9=>Ry X9 B ⟨_,W.mg_of X G tm⟩;have Tx:d9 l.prog w K mg base bo 1 "houses_out" ["many","ties","house"] (yz Pt):=FC.iU X G S_ (fun _ _ _ _ _ _ us hl=>match us,hl with|[_,_,_],_=>rfl) fun Tz=>No Tz B kb hb Tw;have TB:d9 l.prog w K mg base bo 1 "distances_from" ["out_lists","start"] yA:=FD.iU X G Ta (fun _ _ _ _ _ _ us hl=>match us,hl with|[_,_],_=>rfl) fun TC=>Np TC B;have OH:d9 l.prog w K mg base bo 1 "check_reached" ["distances"] yC:=FD.iU X G Ot (fun _ _ _ _ _ _ us hl=>match us,hl with|[_],_=>rfl) fun OI=>Ky OI B;have TD:bU l.prog w K mg base bo 7 f_i _ ["self","many","ties"] (Dy C Pt):=Nt A_ T B OF X8 Tx TB OH;have FV:jW l.prog w K mg base bo 4 C "check_house" ["self","thing"] (pT C):=MD.iU Oz (fun _ _ _ _ _ _ us hl=>match us,hl with|[_,_],_=>rfl) fun HQ=>Hn HQ T FU;have LI:jW l.prog w K mg base bo 5 C "far" ["self","one","other"] (oB C):=MD.iU XC (fun _ _ _ _ _ _ us hl=>match us,hl with|[_,_,_],_=>rfl) fun OJ=>Nj OJ T FV;have X_:jW l.prog w K mg base bo 5 C "out" ["self","house"] (Du C):=MD.iU XD (fun _ _ _ _ _ _ us hl=>match us,hl with|[_,_],_=>rfl) fun OK=>Ni OK T B FV;have TF:jW l.prog w K mg base bo 6 C "good" ["self","house","home"] (yQ C):=MD.iU To (fun _ _ _ _ _ _ us hl=>match us,hl with|[_,_,_],_=>rfl) fun LJ=>Lk LJ T LI;have HR:d9 l.prog w K mg base bo 1 "under_way" ["stand"] DS:=FD.iU X G aaG (fun _ _ _ _ _ _ us hl=>match us,hl with|[_],_=>rfl) fun abR=>W4 abR (W.mg_none_of X G sf);have abS:d9 l.prog w K mg base bo 1 "first_free" ["others","stand","goes","letter"] Sy:=FD.iU X G aaH (fun _ _ _ _ _ _ us hl=>match us,hl with|[_,_,_,_],_=>rfl) fun abT=>W5 abT B;have Ya:d9 l.prog w K mg base bo 1 "_law_pot" ["_law_script","_law_k"] (KG K):=FD.iU X G Xw (fun _ _ _ _ _ _ us hl=>match us,hl with|[_,_],_=>rfl) fun Yb=>RZ Yb B B2;have lq:d9 l.prog w K mg base bo 1 "_law_take" ["_law_pot_here","_law_many"] io:=FD.iU X G Tb (fun _ _ _ _ _ _ us hl=>match us,hl with|[_,_],_=>rfl) fun TH=>NG TH B2;have TJ:d9 l.prog w K mg base bo 2 "_law_beat" ["_law_pot_here"] DG:=FD.iU X G Tc (fun _ _ _ _ _ _ us hl=>match us,hl with|[_],_=>rfl) fun TL=>NH TL lq;have LK:d9 l.prog w K mg base bo 1 "_law_ring" ["_law_many"] yI:=FD.iU X G Td (fun _ _ _ _ _ _ us hl=>match us,hl with|[_],_=>rfl) fun TM=>NL TM B;have TN:d9 l.prog w K mg base bo 2 "_law_some_pairs" ["_law_pot_here","_law_many","_law_more"] DJ:=FD.iU X G Te (fun _ _ _ _ _ _ us hl=>match us,hl with|[_,_,_],_=>rfl) fun TQ=>NN TQ B lq;have Yc:d9 l.prog w K mg base bo 2 "_law_box" ["_law_pot_here"] w_:=FD.iU X G Xx (fun _ _ _ _ _ _ us hl=>match us,hl with|[_],_=>rfl) fun Yd=>Sb Yd B lq;have OL:d9 l.prog w K mg base bo 2 "_law_words" ["_law_pot_here"] w_:=FD.iU X G Ou (fun _ _ _ _ _ _ us hl=>match us,hl with|[_],_=>rfl) fun OM=>K2 OM B lq;have Ye:d9 l.prog w K mg base bo 2 "_law_one_way" ["_law_pot_here","_law_many"] K_:=FD.iU X G Xy (fun _ _ _ _ _ _ us hl=>match us,hl with|[_,_],_=>rfl) fun Yf=>Sj Yf B B2 lq LK;have Yg:d9 l.prog w K mg base bo 2 "_law_renamed" ["_law_pot_here","_law_many","_law_ties"] Fq:=FD.iU X G Xz (fun _ _ _ _ _ _ us hl=>match us,hl with|[_,_,_],_=>rfl) fun Yh=>Si Yh B lq;have Yi:d9 l.prog w K mg base bo 3 "_law_net" ["_law_pot_here"] Le:=FD.iU X G XA (fun _ _ _ _ _ _ us hl=>match us,hl with|[_],_=>rfl) fun Yj=>Sr Yj B lq LK Yc OL TN Ye Yg;have ON:d9 l.prog w K mg base bo 1 "_law_outs" ["_law_many","_law_ties"] yN:=FD.iU X G Ov (fun _ _ _ _ _ _ us hl=>match us,hl with|[_,_],_=>rfl) fun OO=>Lf OO B B2;have TR:d9 l.prog w K mg base bo 1 "_law_far" ["_law_outs_here"] DO:=FD.iU X G Tf (fun _ _ _ _ _ _ us hl=>match us,hl with|[_],_=>rfl) fun TU=>NS TU B;have OP:d9 l.prog w K mg base bo 2 "_law_start" ["_law_pot_here","_law_outs_here"] yO:=FD.iU X G Ow (fun _ _ _ _ _ _ us hl=>match us,hl with|[_,_],_=>rfl) fun OQ=>Lh OQ B lq;have TV:d9 l.prog w K mg base bo 9 "_law_case" ["_law_pot_here"] (DT C Pt):=FD.iU X G Tg (fun _ _ _ _ _ _ us hl=>match us,hl with|[_],_=>rfl) fun TW=>N6 TW T MK LG TD Yi ON OP TR;have OR:d9 l.prog w K mg base bo 2 "_law_ranks" ["_law_pot_here","_law_many"] zc:=FD.iU X G Ox (fun _ _ _ _ _ _ us hl=>match us,hl with|[_,_],_=>rfl) fun OS=>Lu OS B lq;have abU:bU l.prog w K mg base bo 2 X0 _ ["self","ranks"] (yY cD):=Ln X1 B RKT FT;have Yk:jW l.prog w K mg base bo 1 cD "check_letters" ["self","homes"] (DY cD):=MD.iU abJ (fun _ _ _ _ _ _ us hl=>match us,hl with|[_,_],_=>rfl) fun F=>N9 F B RKT;have RS:Xg l.prog w K mg base C fq dF cS ft dw cD PN PF PT PR:=⟨⟨⟨aaM,aaN,aaO,aaP⟩,W.mg_of X G On,aaQ,HN,HP,aaR,aaS⟩,⟨⟨aaX,aaY,aaZ,aa0⟩,W.mg_of X G HM,aa1,HN,HP,aa2,aa3⟩,⟨⟨aa8,aa9,aba,abb⟩,W.mg_of X G Ed,abc,HN,HP,abd,abe⟩,⟨⟨abj,abk,abl,abm⟩,W.mg_of X G Oo,abn,HN,HP,abo,abp⟩,⟨⟨abv,abw,abx,aby⟩,W.mg_of X G LA,abz,HN,HP,abA,abB⟩,⟨⟨XR,XS,XT,XU⟩,W.mg_of X G A9,abD,HN,HP,abE,abF⟩,ndT,(MD.iU aaW (fun _ _ _ _ _ _ us hl=>match us,hl with|[_,_,_,_,_],_=>rfl) fun F=>Fw F HR),(MC.iU aa7 (fun _ _ _ _ _ _ us hl=>match us,hl with|[_,_,_,_,_],_=>rfl) fun F=>Xa F B kb hb q_n T LI HR),(MC.iU abi (fun _ _ _ _ _ _ us hl=>match us,hl with|[_,_,_,_,_],_=>rfl) fun F=>Xb F B kb hb q_f T LI HR),(MC.iU abu (fun _ _ _ _ _ _ us hl=>match us,hl with|[_,_,_,_,_],_=>rfl) fun F=>Xc F B kb hb q_t HR),(MD.iU abC (fun _ _ _ _ _ _ us hl=>match us,hl with|[_,_,_,_,_],_=>rfl) fun F=>Fw F HR),(MC.iU abI (fun _ _ _ _ _ _ us hl=>match us,hl with|[_,_,_,_,_],_=>rfl) fun F=>Xd F B kb hb q_r RKT Yk HR)⟩
 have abV:d9 l.prog w K mg base bo 1 "hand_in_turn" ["net","homes","stand","letters","goes"] SX:=FD.iU X G aaI (fun _ _ _ _ _ _ us hl=>match us,hl with|[_,_,_,_,_],_=>rfl) fun acq=>Xj;have abW:d9 l.prog w K mg base bo 7 "hand_eagerly" ["net","homes","stand","letters","goes"] (SW C):=FD.iU X G aaJ (fun _ _ _ _ _ _ us hl=>match us,hl with|[_,_,_,_,_],_=>rfl) fun abX=>Xh abX T TF X_ abS;have TX:d9 l.prog w K mg base bo 10 "hand" ["rule","net","homes","stand","beat"] (D9 C fq dF cS ft dw cD PN PF PT PR):=FD.iU X G Th (fun _ _ _ _ _ _ us hl=>match us,hl with|[_,_,_,_,_],_=>rfl) fun TY=>Oe TY B RS abV abW;have TZ:d9 l.prog w K mg base bo 1 "_law_order" ["_law_way","_law_far_here","_law_homes","_law_stand","_law_beat_here","_law_ranks_here"] D7:=FD.iU X G Ti (fun _ _ _ _ _ _ us hl=>match us,hl with|[_,_,_,_,_,_],_=>rfl) fun T4=>Od T4 B hE;have T5:d9 l.prog w K mg base bo 1 "_law_free" ["_law_house","_law_some","_law_taken"] Ea:=FD.iU X G Tj (fun _ _ _ _ _ _ us hl=>match us,hl with|[_,_,_],_=>rfl) fun T6=>Oi T6;have OT:d9 l.prog w K mg base bo 1 "_law_good" ["_law_outs_here","_law_far_here","_law_house","_law_home"] ze:=FD.iU X G Oy (fun _ _ _ _ _ _ us hl=>match us,hl with|[_,_,_,_],_=>rfl) fun OV=>Lx OV;have abY:d9 l.prog w K mg base bo 1 "_law_is_handing" ["_law_told","_law_due"] S6:=FD.iU X G aaK (fun _ _ _ _ _ _ us hl=>match us,hl with|[_,_],_=>rfl) fun abZ=>Xl abZ B;have T7:d9 l.prog w K mg base bo 2 "_law_walk" ["_law_order_here","_law_outs_here","_law_far_here","_law_homes","_law_stand","_law_at_once"] Eb:=FD.iU X G Tk (fun _ _ _ _ _ _ us hl=>match us,hl with|[_,_,_,_,_,_],_=>rfl) fun T8=>Ol T8 B T5 OT;exact S8 XZ B B2 RS nPt ⟨aaT,aaV,aaU⟩ ⟨aa4,aa6,aa5⟩ ⟨abf,abh,abg⟩ ⟨abq,abt,abr⟩ RMK abQ abU Ya TJ TV OR TZ TX T7 abY
theorem Bb(h:((List.range 2000).any fun c=>W.codeHdIn K c Pzz)=true):∃c,W.codeHdIn K c Pzz=true:=
 let ⟨c,_,e⟩:=xA.mp h;⟨c,e⟩
theorem T9(hO:EK ts H)(h:a8 K H a xs):P_ K H a xs:=by
 rcases h with h|h
 .rcases h with h|⟨o,h⟩
  .rcases hO.2 a with z|⟨_,z⟩|⟨o,ys,z⟩ <;> · rw[h] at z;cases z
  .exact .inl ⟨o,h⟩
 .exact .inr fun H'=>.inr h
theorem walk{l:W.OpenLaw}{q:bL}{wD:bQ}{XP:(Str->Option Value)->Heap->Prop}{YP:ID}{d:DefRec}{K:Params->W.Frag}{Pt PR PT PF PN:Addr}(hn:l.most=some 63)(Vo:d.params.defaults=[])(hY:∀ (w:World) (h:Heap),YP w h->(K w.params).In h)(hT:∀ (w:World) (h:Heap),YP w h->∀Pzz∈[Pt,PR,PT,PF,PN],h.get? Pzz=some (W.tabObj #[]))(ab0:∀ (w:World),((List.range 2000).any fun c=>W.codeHdIn (K w.params) c Pt)=true)(ab1:∀ (w:World),(K w.params).lookup Pt=none)(ab2:∀ (w:World),((List.range 2000).any fun c=>W.codeHdIn (K w.params) c PR)=true)(ab3:∀ (w:World),(K w.params).lookup PR=none)(ab4:∀ (w:World),((List.range 2000).any fun c=>W.codeHdIn (K w.params) c PT)=true)(ab5:∀ (w:World),(K w.params).lookup PT=none)(ab6:∀ (w:World),((List.range 2000).any fun c=>W.codeHdIn (K w.params) c PF)=true)(ab7:∀ (w:World),(K w.params).lookup PF=none)(ab8:∀ (w:World),((List.range 2000).any fun c=>W.codeHdIn (K w.params) c PN)=true)(ab9:∀ (w:World),(K w.params).lookup PN=none)(F:∀ (w:World) (mg:cr) (fa:Addr) (h:Heap),(K w.params).In h->h.Ns mainGlobals mg->mg d.name=some (.ref fa)->
   ∃fd:FuncData,(∀ (s:aR) (u:Value),BindsTo s fd ⟨[u],[]⟩ [("_law_script",u)])/\∀base:Heap,(K w.params).In base->base.Ns mainGlobals mg->q9 mg base->bU l.prog w (K w.params) mg base bo 11 fa fd ["_law_script"] (FN (K w.params) Pt PN PF PT PR)):
  W.WalkO q wD XP YP l.row.toRowW d [] (fun f vs=>PySem.call f vs):=
 JB (n:=63) (k:=11) (x:="_law_script") (ts:=[Pt,PR,PT,PF,PN]) (K:=K) (CX:=fun _=>bo) (sp:=fun w=>(FN (K w.params) Pt PN PF PT PR)) hn (by decide) Vo ⟨rfl,by decide,by decide,rfl⟩ hY hT
  (fun w Pzz=>fun e=>(bq.mp e).elim (fun e=>by rw[e];exact Bb (ab0 w)) (fun e=>(bq.mp e).elim (fun e=>by rw[e];exact Bb (ab2 w)) (fun e=>(bq.mp e).elim (fun e=>by rw[e];exact Bb (ab4 w)) (fun e=>(bq.mp e).elim (fun e=>by rw[e];exact Bb (ab6 w)) (fun e=>by rw[dA.mp e];exact Bb (ab8 w)))))) (fun w Pzz=>fun e=>(bq.mp e).elim (fun e=>by rw[e];exact ab1 w) (fun e=>(bq.mp e).elim (fun e=>by rw[e];exact ab3 w) (fun e=>(bq.mp e).elim (fun e=>by rw[e];exact ab5 w) (fun e=>(bq.mp e).elim (fun e=>by rw[e];exact ab7 w) (fun e=>by rw[dA.mp e];exact ab9 w))))) F
  (fun w H a ns hl hO hS=>⟨a,ns,rfl,T9 hO hS,hl,.inl (hO.1 _ (by simp)),⟨.inl (hO.1 _ (by simp)),.inl (hO.1 _ (by simp)),.inl (hO.1 _ (by simp)),.inl (hO.1 _ (by simp))⟩,fun _=>rfl⟩) fun _ _ _ _ _ z=>z
end
end rY
open PySem PySem.W PyProof.Rows
namespace PySem.W.Fast
def tw10309746374030008851:=trivial
def tw15741424464168579829:=trivial
def tw1118746454675010356:=trivial
def tw11380569569403639325:=trivial
def tw8403759913422788779:=trivial
def tw9391981905700994197:=trivial
def tw12676850539372796822:=trivial
def tw13353348627122563740:=trivial
def tw6120739811559765576:=trivial
def tw14399901169445192790:=trivial
def tw205031894246784621:=trivial
def tw1461301911071198572:=trivial
def tw17675999323250862214:=trivial
def tw2820156063380199714:=trivial
def tw3620461910907917204:=trivial
def tw5795560593283971071:=trivial
def tw13057086984035548749:=trivial
def tw14102249028818421574:=trivial
def tw7663113712872153427:=trivial
def tw9069336261625958143:=trivial
def tw16992469194283669297:=trivial
def tw13984844944158317413:=trivial
def tw5681190994064042236:=trivial
def tw13559089441540677068:=trivial
def tw6299046712394519571:=trivial
def tw1454723322308901235:=trivial
def tw2103876720957960157:=trivial
def tw5941684228128699157:=trivial
def tw13599638550671712254:=trivial
def tw11933721309989168489:=trivial
def tw13095602388157384066:=trivial
def tw7379536252821708767:=trivial
def tw3858284210213157725:=trivial
def tw1930910457337546077:=trivial
def tw7961276058292618131:=trivial
def tw16120862208116076872:=trivial
def tw17470310870220634210:=trivial
def tw14659524080056388998:=trivial
def tw12982441851370482672:=trivial
def tw3100855028726491975:=trivial
def tw15551673490945153556:=trivial
def tw13871765973476402766:=trivial
def tw15886463962432904096:=trivial
def tw15925437650993264910:=trivial
def tw14502394384479813201:=trivial
def tw2654738652772297056:=trivial
def tw2223278543963173675:=trivial
def tw5485659302846357089:=trivial
def tw16543937980158838859:=trivial
def tw16277348588810107193:=trivial
def tw16885039068026373932:=trivial
def tw9429155974366087768:=trivial
def tw4994679032068856649:=trivial
def tw17635624230564419827:=trivial
def tw4115996093812411912:=trivial
def tw10484858546484397978:=trivial
def tw4287433518502118030:=trivial
def tw9030778514140983415:=trivial
def tw16057859251758668437:=trivial
def tw16452935473171464038:=trivial
def tw13713852622631709721:=trivial
def tw16851853705001084639:=trivial
def tw4988875679752035650:=trivial
def tw307481776522384537:=trivial
def tw6117917315311561951:=trivial
def tw15652078661257609809:=trivial
def tw10211932195265435934:=trivial
def tw8025929272927453259:=trivial
def tw7105759801478610441:=trivial
def tw14263410205035788513:=trivial
def tw10088559299770714776:=trivial
def tw16940823717614636468:=trivial
def tw4959203614087501898:=trivial
def tw18065891412787559593:=trivial
def tw17853187432814714771:=trivial
def tw8758633396043294915:=trivial
def tw12994961518776765973:=trivial
def tw13631125513360671427:=trivial
def tw8412140745270936309:=trivial
def tw948169748973377137:=trivial
def tw12486275916494270961:=trivial
def tw1222622743172244300:=trivial
def tw15383211349429854674:=trivial
def tw13777900241126207567:=trivial
def tw16867317117214694888:=trivial
def tw3990049193067412219:=trivial
def tw16360205602604855129:=trivial
def tw3643536822423062626:=trivial
def tw14213337286520670060:=trivial
def tw7946738761755180196:=trivial
def tw10839440487377661013:=trivial
def tw16762833304477095557:=trivial
def tw5981938763408826394:=trivial
def tw14100970217122432806:=trivial
def tw12311959576534576117:=trivial
def tw1978154568357369795:=trivial
def tw99039653714831489:=trivial
def tw3445121860959152511:=trivial
def tw5265657524456514191:=trivial
def tw3341486628869926097:=trivial
def tw2582172594454165579:=trivial
def tw530118706947906139:=trivial
def tw49171776238529024:=trivial
def tw5803970276413604352:=trivial
def tw506596671279708345:=trivial
def tw15156990296595646546:=trivial
def tw122357806464025996:=trivial
def tw16929841534008247401:=trivial
def tw5101919806733254421:=trivial
def tw536938586800589120:=trivial
def tw10581367612228366662:=trivial
def tw10511425715448005136:=trivial
def tw17799454247928384061:=trivial
def tw10615351580393073544:=trivial
def tw341431835050790841:=trivial
def tw8658655186904168043:=trivial
def tw8434007046738310606:=trivial
def tw12452432533139349938:=trivial
def tw15870579047868823953:=trivial
def tw15602929135138527617:=trivial
def tw9133769993918685919:=trivial
def tw14705087996850417731:=trivial
def tw16082824251525666934:=trivial
def tw5046517759279678930:=trivial
def tw9551567460187956805:=trivial
def tw5299928451412498867:=trivial
def tw1402624829159016718:=trivial
def tw4375318796878661342:=trivial
def tw3480713799795527941:=trivial
def tw13222618186218470167:=trivial
def tw1453801345048388207:=trivial
def tw3022549397699072117:=trivial
def tw65288678736274008:=trivial
def tw10007916668755888368:=trivial
def tw15379150732524366845:=trivial
def tw633044782528246747:=trivial
def tw7019017202962505162:=trivial
def tw8234394736527032797:=trivial
def tw7975359113783609705:=trivial
def tw1717240709828707288:=trivial
def tw12148763673611786998:=trivial
def tw9128978395416482694:=trivial
def tw6527312103215468846:=trivial
def tw16957968807760152034:=trivial
def tw12984352229625011964:=trivial
def tw12764137037997121979:=trivial
def tw2728681799660293356:=trivial
def tw4401152762129101060:=trivial
def tw3758890117490325710:=trivial
def tw5801061116908903447:=trivial
def tw2225945769011414677:=trivial
def tw14185514279578930485:=trivial
def tw7228592689244102853:=trivial
def tw10456755281372967639:=trivial
def tw460285493089532308:=trivial
def tw3498237769968005646:=trivial
def tw11414019011181394498:=trivial
def tw6431483713909423636:=trivial
def tw13745808202821601510:=trivial
def tw1633910236144558464:=trivial
def tw15088776938808511319:=trivial
def tw1408082687739015289:=trivial
def tw7998143595494228698:=trivial
def tw5971613658869153437:=trivial
def tw17767459493424956965:=trivial
def tw13905567235787902459:=trivial
def tw256712335210257263:=trivial
def tw12169849389681986419:=trivial
def tw7074340203726570388:=trivial
def tw6022409756923390721:=trivial
def tw14231356033395840869:=trivial
def tw9141240013610820529:=trivial
def tw956347198535004244:=trivial
def tw5605851915822372807:=trivial
def tw11125193575359149126:=trivial
def tw4649580761520963584:=trivial
def tw10089368598880653784:=trivial
def tw3256122746385776342:=trivial
def tw3009348045077593168:=trivial
def tw4647527406310323865:=trivial
def tw15168865674046764041:=trivial
def tw1498212412303758219:=trivial
def tw15756675932909212401:=trivial
def tw8715734521358445018:=trivial
def tw543358808856696309:=trivial
def tw13477392669661308859:=trivial
def tw9524318112256554839:=trivial
def tw18262285229120980485:=trivial
def tw3523684512443106468:=trivial
def tw9589357288888964473:=trivial
def tw14142728730955595171:=trivial
def tw15424346625388914465:=trivial
def tw5814392725558143321:=trivial
def tw14595182335446296585:=trivial
def tw15287705005894339340:=trivial
def tw872394750850692263:=trivial
def tw3891529644422385060:=trivial
def tw15370485526781303523:=trivial
def tw5406382391005673120:=trivial
def tw9649095967366204749:=trivial
def tw2320637265604335796:=trivial
def tw9118672224929551022:=trivial
def tw495667499716491996:=trivial
def tw402371840756558673:=trivial
def tw2101355369061262111:=trivial
def tw5069923619665919618:=trivial
def tw5218676968864818050:=trivial
def tw2669548512491293435:=trivial
def tw3948524099453145111:=trivial
def tw15262148929632917536:=trivial
def tw12419003687990261789:=trivial
def tw11095445611348816967:=trivial
def tw18376080923962334545:=trivial
def tw15019508393086172714:=trivial
def tw18096442577169999907:=trivial
def tw297922140282704557:=trivial
def tw17855678299126652128:=trivial
def tw15777687264595586942:=trivial
def tw904748368074333957:=trivial
def tw15105770241657446227:=trivial
def tw13049851308398835796:=trivial
def tw8409409265965250702:=trivial
def tw10719270887463473229:=trivial
def tw18043090201350237680:=trivial
def tw17952205105423343839:=trivial
def tw11494444289741725417:=trivial
def tw16573830387608428925:=trivial
def tw12343736167384878313:=trivial
def tw8941020286316450036:=trivial
def tw731798183315482815:=trivial
def tw3662719319274365326:=trivial
def tw18055715132643178780:=trivial
def tw13961613162932966191:=trivial
def tw10230153280157981067:=trivial
def tw18098297967980802562:=trivial
def tw4088286220739489181:=trivial
def tw15698044121403256463:=trivial
def tw11790793219069447434:=trivial
def tw17106887329342895734:=trivial
def tw8394669173529600901:=trivial
def tw2216067576542687225:=trivial
def tw2021592698839950241:=trivial
def tw16661379482266352952:=trivial
def tw12645120107536360299:=trivial
def tw7761691903941582803:=trivial
def tw17107519207334441559:=trivial
def tw16277371810908800115:=trivial
def tw1437374015617724731:=trivial
def tw5896588106920618703:=trivial
def tw18080948087860534974:=trivial
def tw12934224359946392889:=trivial
def tw1938473733013006560:=trivial
def tw18113254916088035293:=trivial
def tw2522738885089895480:=trivial
def tw13548581946248295017:=trivial
def tw2890894351833523761:=trivial
def tw8368521274409566782:=trivial
def tw16999627567668387192:=trivial
def tw8021456897447526827:=trivial
def tw14697939408004048719:=trivial
def tw11460727300592118785:=trivial
def tw18320023372678955714:=trivial
def tw3297210752854282726:=trivial
def tw7842567751051899768:=trivial
def tw8039018829479949226:=trivial
def tw10158230941757675591:=trivial
def tw9130628957986598670:=trivial
def tw6519160650384505505:=trivial
def tw17226418734103091604:=trivial
def tw18326252766800823518:=trivial
def tw15101897609883538785:=trivial
def tw4785522043814199163:=trivial
def tw17831757276717926848:=trivial
def tw2375174312353285326:=trivial
def tw3330747546182293534:=trivial
def tw16201473552748137528:=trivial
def tw7299228841406773853:=trivial
def tw15067763459337904420:=trivial
def tw1397764570549419142:=trivial
def tw6181353849652895825:=trivial
def tw8162861215372910442:=trivial
def tw11911078407743851297:=trivial
def tw1490606878118578618:=trivial
def tw8097744274548434549:=trivial
def tw9145669426049903105:=trivial
def tw16861737238861414113:=trivial
def tw12241262743080907189:=trivial
def tw7774740832857949513:=trivial
def tw7464626994986388595:=trivial
def tw10824206203162067796:=trivial
def tw2276600997621617998:=trivial
def tw60822858443507143:=trivial
def tw2719513434745027704:=trivial
def tw4434394170666205116:=trivial
def tw17668672773161251736:=trivial
def tw1367511091798020776:=trivial
def tw7532063148103734776:=trivial
def tw1974821848412743441:=trivial
def tw853354787092525527:=trivial
def tw6561452752236387584:=trivial
def tw10220045625096942694:=trivial
def tw6715550644897898973:=trivial
def tw3059090733373570496:=trivial
def tw7939673642466767976:=trivial
def tw15413412446427969142:=trivial
def tw6361822068746065409:=trivial
def tw7973585909775388257:=trivial
def tw17329031438338000788:=trivial
def tw3325690504675423490:=trivial
def tw11383953221734453955:=trivial
def tw3015549092020778514:=trivial
def tw3310879453973045005:=trivial
def tw4084698187207614333:=trivial
def tw3914230254229850970:=trivial
def tw15753997214390998734:=trivial
def tw16237534527934019600:=trivial
def tw6142358588925802441:=trivial
def tw1362991620022392411:=trivial
def tw11587162014958195036:=trivial
def tw13710390179612601914:=trivial
def tw1985746640658250859:=trivial
def tw7812008615301406763:=trivial
def tw7417788135631218097:=trivial
def tw14269659209708847656:=trivial
def tw7748046514573751206:=trivial
def tw5700434350724166632:=trivial
def tw12950334363727417328:=trivial
def tw12277754683760637312:=trivial
def tw14959307140634658827:=trivial
def tw2338337373443519484:=trivial
def tw5732541693967342861:=trivial
def tw9462691306349210580:=trivial
def tw1118210137546798686:=trivial
def tw5324631600974193316:=trivial
def tw16419900360561252587:=trivial
def tw1156718340267634429:=trivial
def tw17749758286969472861:=trivial
def tw368758301049163782:=trivial
def tw6320614062807752888:=trivial
def tw9669380209853936396:=trivial
def tw6804898167284922662:=trivial
def tw6565468319901394057:=trivial
def tw1486955274558741236:=trivial
def tw1219850262357761582:=trivial
def tw14084144333875016411:=trivial
def tw9485204836960422432:=trivial
def tw905478097625369301:=trivial
def tw17130424800011752879:=trivial
def tw12869933444102385971:=trivial
def tw5503761929336519584:=trivial
def tw1923938793066711362:=trivial
def tw13727734967864562073:=trivial
def tw5596707034866607400:=trivial
def tw14747154918386913302:=trivial
def tw3262917214153509490:=trivial
def tw612412573641184362:=trivial
def tw10023193878319272732:=trivial
def tw12433762137722753923:=trivial
def tw15502263768584941216:=trivial
def tw696095627129907530:=trivial
def tw2689485108638699988:=trivial
def tw7488995611522230728:=trivial
def tw12317271145215560365:=trivial
def tw9514151480873804375:=trivial
def tw5846615954291575134:=trivial
def tw15322113658111668221:=trivial
def tw12315434131433352043:=trivial
def tw47133536541873959:=trivial
def tw12833717746900597231:=trivial
def tw3962844100045987218:=trivial
def tw15554166261897420224:=trivial
def tw5403347700409330748:=trivial
def tw17350156276599089319:=trivial
def tw3461595682871393402:=trivial
def tw13598314399205326856:=trivial
def tw5148211459203825048:=trivial
def tw1564679860421346297:=trivial
def tw9355324936388703616:=trivial
def tw10860113311509988397:=trivial
def tw1004504703362862539:=trivial
def tw16178525527822867254:=trivial
def tw687618223203505726:=trivial
def tw14498347397028367631:=trivial
def tw925506916758081922:=trivial
def tw18311064427962474469:=trivial
def tw11267737704837225719:=trivial
def tw15340416203743960908:=trivial
def tw8790313107350044218:=trivial
def tw5106057129443141928:=trivial
def tw15163457923477431467:=trivial
def tw13449253638949519320:=trivial
def tw11653873673280183859:=trivial
def tw4721780250006508887:=trivial
def tw11843563064480752776:=trivial
def tw2852381505315040778:=trivial
def tw13954455886075545557:=trivial
def tw9509650215313078762:=trivial
def tw13867559507285745107:=trivial
def tw7282029260177231856:=trivial
def tw4263099764802656211:=trivial
def tw17297705087488696663:=trivial
def tw5092351835889471205:=trivial
def tw4354104187384500690:=trivial
def tw7533558445664512821:=trivial
def tw8059613061114447885:=trivial
def tw17236523400214926560:=trivial
def tw1698466914549399640:=trivial
def tw7532415656230643929:=trivial
def tw16141752274578155136:=trivial
def tw9197166475814379622:=trivial
def tw15540502487122144357:=trivial
def tw13395142803580251577:=trivial
def tw11540674844332198483:=trivial
def tw4365164510846013282:=trivial
def tw11246467006104478688:=trivial
def tw15240341715881232442:=trivial
def tw7744447246538984862:=trivial
def tw5751214353203825657:=trivial
def tw15221502973657197310:=trivial
def tw12600837927492481485:=trivial
def tw9424750656023109939:=trivial
def tw4333584632877499546:=trivial
def tw15205282871607590504:=trivial
def tw1869092556450376212:=trivial
def tw18029597365971204377:=trivial
def tw11891552738950910805:=trivial
def tw9702117590718791908:=trivial
def tw15429639608887685705:=trivial
def tw10160892815931497231:=trivial
def tw10104159596859525720:=trivial
def tw292401136500232004:=trivial
def tw17563088938330667029:=trivial
def tw275217915229619324:=trivial
def tw8576154880278438078:=trivial
def tw9880423961723673617:=trivial
def tw3345034371012818830:=trivial
def tw100694832548971600:=trivial
def tw6466415031469190222:=trivial
def tw7816394770071805172:=trivial
def tw300243057758344952:=trivial
def tw6456816258694981997:=trivial
def tw13887956502432331938:=trivial
def tw10306224267122295663:=trivial
def tw14561519494127116361:=trivial
def tw11743262131980359285:=trivial
def tw7888464312607860010:=trivial
def tw9747090061846062583:=trivial
def tw2010307446422873426:=trivial
def tw11397522355212397310:=trivial
def tw13120532119038852528:=trivial
def tw14721335875495288056:=trivial
def tw10380869345031970629:=trivial
def tw15146596759370923280:=trivial
def tw11314482229919514060:=trivial
def tw12631501288274545608:=trivial
def tw5294491437270281200:=trivial
def tw13436835760928363472:=trivial
def tw12276893919417858617:=trivial
def tw1542912600415592597:=trivial
def tw1282389824604865640:=trivial
def tw4526429885177803214:=trivial
def tw6326683384123602914:=trivial
def tw12508392280059576587:=trivial
def tw671859549850221206:=trivial
def tw11179522934938061703:=trivial
def tw5923104934874167702:=trivial
def tw13199902361908595410:=trivial
def tw933565388260505224:=trivial
def tw13738428533774623289:=trivial
def tw1595226219396557873:=trivial
def tw12520572754205388873:=trivial
def tw8395731893890608374:=trivial
def tw6111571576840000768:=trivial
def tw12549583557499284745:=trivial
def tw5403505551882074333:=trivial
def tw8693087581313057155:=trivial
def tw13990462684632044067:=trivial
def tw4288902883640128376:=trivial
def tw10495788010670396236:=trivial
def tw11830784208934323126:=trivial
def tw1748171846941263555:=trivial
def tw18039074071067182373:=trivial
def tw13537427104632311297:=trivial
def tw9873957874849474046:=trivial
def tw5025142510426844032:=trivial
def tw18070375841052665261:=trivial
def tw12901698922579047591:=trivial
def tw6555595027062812751:=trivial
def tw5563546384478087923:=trivial
def tw17285963892001198667:=trivial
def tw14098244925954855168:=trivial
def tw5060044425008972802:=trivial
def tw15670611652523819445:=trivial
def tw745238019553947556:=trivial
def tw16628484162911693136:=trivial
def tw924477175232567389:=trivial
def tw18185623080651606655:=trivial
def tw6113537397395014408:=trivial
def tw626495065571607264:=trivial
def tw7433051183580259911:=trivial
def tw8011940735471504927:=trivial
end PySem.W.Fast
set_option maxRecDepth 100000 in
set_option maxHeartbeats 0 in
theorem PySem.Challenge.cw_neverwait_k32_hands_by_rules_holds : PySem.Challenge.rw_neverwait_k32_hands_by_rules.Holds := by
 w_on; o_law; k_head; (case hw=>w_witness2)
 k_fill
 refine rY.walk (l:=PySem.Challenge.rw_neverwait_k32_hands_by_rules) (Pt:=_) (PR:=_) (PT:=_) (PF:=_) (PN:=_) rfl rfl (fun w h Y=>PySem.W.km_in_of Y) (fun w h Y=>PySem.W.km_tabs_of Y) ?cd0 ?kt0 ?cd1 ?kt1 ?cd2 ?kt2 ?cd3 ?kt3 ?cd4 ?kt4 ?F;case F =>
  intro w mg fa h KX G Vp;refine' rY.S9 (Pt:=_) (PR:=_) (PT:=_) (PF:=_) (PN:=_) KX G Vp ?_ ?_ ?_ ?_ ?_ ?_ ?_ ?_ ?_ ?_ ?_ ?_ ?_ ?_ ?_ ?_ ?_ ?_ ?_ ?_ ?_ ?_ ?_ ?_ ?_ ?_ ?_ ?_ ?_ ?_ ?_ ?_ ?_ ?_ ?_ ?_ ?_ ?_ ?_ ?_ ?_ ?_ ?_ ?_ ?_ ?_ ?_ ?_ ?_ ?_ ?_ ?_ ?_ ?_ ?_ ?_ ?_ ?_ ?_ ?_ ?_ ?_ ?_ ?_ ?_ ?_ ?_ ?_ ?_ ?_ ?_ ?_ ?_ ?_ ?_ ?_ ?_ ?_ ?_ ?_ ?_ ?_ ?_ ?_ ?_ ?_ ?_ ?_ ?_ ?_ ?_ ?_ ?_ ?_ ?_ ?_ ?_ ?_ ?_ ?_ ?_ ?_ ?_ ?_ ?_ ?_ ?_ ?_ ?_ ?_ ?_ ?_ ?_ ?_ ?_ ?_ ?_ ?_ ?_ ?_ ?_ ?_ ?_ ?_ ?_ ?_ ?_ ?_ ?_ ?_ ?_ ?_ ?_ ?_ ?_ ?_ ?_ ?_ ?_ ?_ ?_ ?_ ?_ ?_ ?_ ?_ ?_ ?_ ?_ ?_ ?_ ?_ ?_ ?_ ?_ ?_ ?_;all_goals first
   | (refine' rY.FD.mk ?a ?l ?d ?k; (case a=>k_is); (case l=>k_is); (case d=>k_is); (case k=>k_is))
   | (refine' rY.FC.mk ?a ?l ?d ?k; (case a=>k_is); (case l=>k_is); (case d=>k_is); (case k=>k_is))
   | (refine' rY.MD.mk ?a ?i ?l ?d ?k; (case a=>k_is); (case i=>k_is); (case l=>k_is); (case d=>k_is); (case k=>k_is))
   | (refine' rY.MC.mk ?a ?i ?l ?d ?k; (case a=>k_is); (case i=>k_is); (case l=>k_is); (case d=>k_is); (case k=>k_is))
   | k_is
   | kernel_rfl
   | decide
   | exact ⟨by kernel_rfl,by k_is,by k_is,by k_is,by k_is,by k_is,by k_is,by kernel_rfl⟩
   | skip
 case kt0=>intro w; kernel_rfl
 case cd0=>intro w; kernel_rfl
 case kt1=>intro w; kernel_rfl
 case cd1=>intro w; kernel_rfl
 case kt2=>intro w; kernel_rfl
 case cd2=>intro w; kernel_rfl
 case kt3=>intro w; kernel_rfl
 case cd3=>intro w; kernel_rfl
 case kt4=>intro w; kernel_rfl
 case cd4=>intro w; kernel_rfl
