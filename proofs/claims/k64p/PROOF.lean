import PyProof.Rows.All
import Wide.All
import OpenK.AllK
import Wide.FinOn
import Lean
import PyProof.EqAt
import PyProof.EqKinds
import PyProof.TupleCall
import PySem.Challenge.RW_neverwait_k64_whole_rings_by_nearest_fir
set_option Elab.async false
set_option linter.all false
set_option maxRecDepth 100000
set_option maxHeartbeats 8000000
def aN:=@List.length_map
def bP:=@List.getD_eq_getElem?_getD
def cm:=@List.getElem?_eq_getElem
def aI:=@PySem.wpAny_bind
def cq:=@PySem.Heap.get?_push_of_some
def bS:=@List.mem_singleton
def bU:=@Nat.lt_of_lt_of_le
def ao:=@if_pos
def ap:=@if_neg
def aZ:=@Nat.le_refl
def aY:=@Option.some.inj
def bo:=@List.getElem?_map
def cK:=@List.getElem?_eq_some_iff
def av:=@PyProof.Rows.wpS_bind
def aW:=@Nat.ne_of_lt
def bq:=@List.mem_append
def aX:=@PySem.Heap.lt_size
def cC:=@List.mem_cons_of_mem
def b9:=@List.mem_cons_self
def bV:=@of_decide_eq_true
def cj:=@Bool.false_ne_true
def cr:=@List.length_append
def aJ:=@PyProof.Rows.wpS_pure
def bK:=@decide_eq_true
def cW:=@PySem.Heap.get?_push_size
def cu:=@List.size_toArray
def cL:=@PySem.W.mg_none_of
def bO:=@List.mem_range
def br:=@Nat.le_trans
def bX:=@List.mem_filter
def cw:=@List.length_cons
def cM:=@Int.toNat_natCast
def bL:=@List.mem_cons
def dQ:=@List.mem_of_getElem?
def cD:=@List.map_append
def cE:=@decide_eq_false
def bQ:=@List.mem_map
def cG:=@PySem.boot_len
def dR:=@List.nodup_cons
def cX:=@List.map_cons
def e_:=@decide_eq_true_iff
def eM:=@Bool.and_eq_true
def fc:=@Nat.lt_succ_of_lt
def df:=@getElem?_pos
def eN:=@PySem.PassesOwn.never
def ja:=@List.getElem?_append_left
def dS:=@Int.ofNat.inj
def im:=@PySem.F.plainAttrs_list
def gX:=@List.getElem?_eq_none
def gh:=@Nat.lt_of_le_of_lt
def dI:=@Nat.le_of_lt
def fL:=@List.length_range
def fv:=@List.lookup_cons
def kI:=@PyProof.Rows.boot_isinstance
def dg:=@Nat.zero_le
def gY:=@List.mem_append_left
def io:=@List.mem_append_right
def kJ:=@Array.perm_iff_toList_perm
def ip:=@Array.length_toList
def kK:=@PySem.F.type_list_append
def kM:=@PySem.F.slot_list_append
def gA:=@List.take_length
def jb:=@List.map_congr_left
def iq:=@List.take_add_one
def ir:=@List.pairwise_map
def kN:=@Array.getElem?_toList
def jr:=@PySem.mem_of_lookup
def n8:=@List.getElem?_append_right
def jc:=@List.append_assoc
def jd:=@Array.toList_push
def fN:=@List.map_map
def jt:=@List.filter_append
def je:=@PySem.Heap.get?_push_ne
def jf:=@List.length_take
def jg:=@List.getElem_mem
def kO:=@beq_eq_false_iff_ne
def ju:=@List.nodup_append
def fO:=@PyProof.Rows.wpS_forRange
def jh:=@PySem.W.kia_one
def jv:=@List.filter_cons
def n9:=@List.length_filter_le
def ji:=@List.nodup_nil
def l5:=@of_decide_eq_false
def l6:=@Int.emod_lt_of_pos
def l7:=@Bool.false_eq_true
def kP:=@List.nodup_range
def jj:=@Nat.lt_irrefl
def pA:=@Option.map_eq_some_iff
def kQ:=@PySem.Heap.size_update
def n_:=@Array.toList_append
def rQ:=@List.pairwise_iff_getElem
def pB:=@List.perm_append_comm
def pC:=@List.length_replicate
def oa:=@PySem.F.called_set
def pD:=@List.Pairwise.filter
def jw:=@PySem.wpAny_holding
def gZ:=@beq_iff_eq
def l9:=@Int.emod_nonneg
def l_:=@Bool.eq_iff_iff
def pE:=@List.replicate_succ
def lc:=@List.getElem?_range
def lf:=@PySem.Heap.get?_none_of_le
def pF:=@PyProof.Rows.callWith_type1
def jx:=@Nat.mod_eq_of_lt
def jy:=@Nat.lt_succ_self
def iJ:=@Array.size_map
def dA:=@PyProof.Rows.wpS_mono
def jz:=@List.range_succ
def lj:=@PySem.wpAny_Call_Name_kw
def h_:=@Nat.add_zero
def mU:=@List.mem_of_mem_take
def mV:=@List.mem_iff_getElem
def iK:=@PySem.Heap.size_push
def pG:=@Option.isSome_iff_exists
def pH:=@PyProof.Rows.boot_tuple
def fz:=@PyProof.Rows.wpS_modify
def mW:=@List.mem_filterMap
def pI:=@List.getElem?_set_self
def lm:=@List.length_set
def lq:=@List.find?_cons
def jA:=@List.any_cons
def jB:=@Bool.true_and
def pJ:=@PyProof.Rows.boot_int
def pK:=@List.length_singleton
def pL:=@List.eq_nil_or_concat
def pM:=@List.concat_eq_append
def tq:=@Array.getD_eq_getD_getElem?
def lr:=@PySem.wpAny_passesOwn
def fA:=@if_false
def lu:=@PySem.codeAny_builtin
def tu:=@List.nodup_iff_pairwise_ne
def mX:=@decide_eq_decide
def jC:=@Nat.ne_of_gt
def mY:=@List.countP_cons
def mZ:=@List.all_eq_true
def m3:=@PySem.wpAny_truthy_bool
def tw:=@List.drop_eq_getElem_cons
def tD:=@Classical.byContradiction
def xx:=@PyProof.Rows.F.plain_set_update_loop
def pN:=@List.length_pos_iff
def ic:=@PySem.wpAny_mono
def iL:=@PySem.wpAny_field
def iM:=@PySem.sizeLine_eq
def lv:=@PySem.W.mg_of
def lw:=@List.all_cons
def pO:=@PySem.Around.under_plainId
def m4:=@List.of_mem_zip
def m5:=@List.append_nil
def jD:=@List.map_id
def pP:=@PySem.Heap.get?_update_ne
def pQ:=@decide_eq_true_eq
def tE:=@PyProof.Rows.boot_list
def lx:=@Nat.succ.inj
def tG:=@List.range_succ_eq_map
def lA:=@List.map_nil
def tH:=@List.length_pos_of_mem
def pR:=@List.flatten_cons
def lB:=@Int.zero_add
def m6:=@Bool.false_and
def tI:=@Array.toList_filterMap
def iN:=@PySem.wpAny_rule
def tJ:=@PySem.wpAny_callSpecial?_slot
def pS:=@Array.toList_map
def pT:=@PySem.wpAny_pyIter_list
def pU:=@PySem.wpAny_newObj_type
def lC:=@PySem.codeAny_mono
def tK:=@List.pairwise_append
def tL:=@List.mem_of_mem_drop
def tO:=@List.getElem?_set_ne
def lD:=@Int.le_refl
def tP:=@PySem.Heap.get?_update_other
def tQ:=@Array.toList_reverse
def xy:=@List.filter_map
def xz:=@List.countP_eq_length_filter
def tR:=@PySem.Heap.get?_update_self
def pV:=@PySem.wpAny_call_entry
def tS:=@PySem.W.callWith_K
def xA:=@List.perm_ext_iff_of_nodup
def xB:=@Array.toList_setIfInBounds
def xC:=@Array.getElem?_eq_getElem
def tT:=@List.take_sublist
def tU:=@Int.emod_eq_of_lt
def tV:=@Bool.eq_false_iff
def xD:=@PyProof.Rows.boot_sorted
def xE:=@List.length_erase_of_mem
def xF:=@List.getElem?_take_of_lt
def xG:=@List.Pairwise.imp_of_mem
def fX:=@PyProof.Rows.wpS_get
def lE:=@PySem.call_meets
def tW:=@Nat.lt_of_not_le
def xH:=@List.getElem?_replicate
def iO:=@if_true
def xI:=@PyProof.Rows.boot_bool
def pW:=@Nat.zero_add
def pX:=@Nat.lt_trans
def xJ:=@List.take_of_length_le
def xK:=@List.filter_eq_nil_iff
def tX:=@PySem.wpAny_setState_of
def tY:=@PySem.wpAny_pyIter_enum
def tZ:=@List.length_nil
def t9:=@List.foldl_cons
def t_:=@List.Perm.of_eq
def pY:=@PySem.wpAny_standAt
def xL:=@List.take_append_drop
def pZ:=@Sum.inl.inj
def xM:=@List.mem_erase_of_ne
def ua:=@Bool.and_false
def xN:=@Array.toList_extract
def xO:=@Array.getElem_toList
def lF:=@PyProof.Rows.size_push'
def xP:=@PySem.wpAny_pyNext_list_item
def m7:=@PySem.wpAny_call
def m8:=@PySem.wpAny_Name
def xQ:=@PySem.W.plainGet_of
def Cw:=@PyProof.Rows.F.entry_set_update_loop
def xR:=@List.length_take_le
def xS:=@List.getD_cons_succ
def xT:=@List.filterMap_cons
def ub:=@PySem.wpAny_execs_nil
def uc:=@Nat.add_assoc
def ud:=@Bool.not_true
def xU:=@PySem.wpAny_pyNext_list_end
def xV:=@Nat.pos_of_ne_zero
def ue:=@PySem.wpAny_seqItems
def xW:=@PySem.wpAny_loadName_local
def xX:=@PySem.codeAny_call_builtin
def uf:=@Nat.succ_pos
def ug:=@Nat.le_of_eq
def xY:=@List.filter_congr
def xZ:=@List.ext_getElem?
def x0:=@List.any_eq_false
def Cy:=@Array.toList_eraseIdxIfInBounds
def x_:=@PySem.wpAny_loadName_free
def yc:=@List.length_drop
def yd:=@List.getElem_map
def ye:=@Array.toList_zip
def uh:=@PySem.wpAny_attempt
def Cz:=@List.eq_nil_of_length_eq_zero
def CC:=@Int.mul_le_mul_of_nonneg_left
def yf:=@PySem.wpAny_pyIter_tuple
def yg:=@PySem.tupleKind_room_in1
def yh:=@PySem.Obj.data_mapFields
def CD:=@PySem.F.typeOf_object_class
def yi:=@PySem.wpAny_loadPart_at
def ui:=@Nat.mod_lt
def yj:=@List.drop_zero
def CF:=@Int.fmod_eq_emod_of_nonneg
def yk:=@Bool.not_false
def CG:=@Array.getElem?_eq_some_iff
def lG:=@PyProof.Rows.wpS_lift
def CI:=@List.mem_take_iff_getElem
def ym:=@PySem.wpAny_eqBool_int
def CJ:=@List.filterMap_cons_some
def yn:=@List.cons.inj
namespace L2
open PySem PySem.Spec PyProof.Rows
section
variable {M:Model} {A:Around} {E:Value->Shared->Prop} {s:Shared} {B:Heap} {l outer:List Env} {env:Env} {e L:Addr} {cls:Value}
end
theorem rq:plainId "proto.unchain"=true:=by decide +kernel
theorem rA:entryFor table "proto.unchain"=some Builtin.«proto.unchain»:=PySem.entryFor_of_fast (by kernel_rfl)
def zI(p:Addr)(h:Heap):Prop:=∃o vs,h.get? p=some o/\o.data=.fields vs/\vs[2]?=some .none
theorem CK{α:Type}{prog:Program}{w:World}{A:Around}{Q:α->Shared->Prop}{E:Value->Shared->Prop}{s:Shared}{a p:Addr}{o:Obj}{vs:Array Value}(hh:A.handled=some (.ref p))(hp:zI p s.heap)(ne:p≠a)(ha:s.heap.get? a=some o)(hd:o.data=.fields vs)(z2:2<vs.size)(q:E (.ref a) { s with heap:=s.heap.update a (Obj.mapFields (·.setIfInBounds 2 (.ref p))) }):wpAny (model prog w) A (raiseNew (.ref a):Sem α) Q E s:=by
 obtain⟨op,ws,h1,h2,h3⟩:=hp;unfold raiseNew;refine aI (wpAny_handled ?_);rw[hh];dsimp only;rw[ao (show (Value.ref p != Value.ref a)=true from by simp[ne])];refine aI (jw (wpAny_runValue (lu rA ?_)));rw[pO rq _];show wpAny _ _ (field (.ref p) 2 >>= _) _ _ s;refine aI (iL h1 h2 h3 ?_);rw[ao (by decide)];refine wpAny_pure ?_;show wpAny (model prog w) A (updateField a 2 (Value.ref p) >>= fun _=>throw (Value.ref a)) Q E s;unfold updateField;refine aI (aI (wpAny_load ha ?_));rw[hd];dsimp only;rw[ao z2];exact wpAny_update (by rw[ha]) (wpAny_throw q)
theorem yo{prog:Program}{w:World}{A:Around}{E:Value->Shared->Prop}{s:Shared}{it p:Addr}{x left step:Int}{Q:Option Value->Shared->Prop}(hh:A.handled=some (.ref p))(hp:zI p s.heap)(rh:IsRangeIter s.heap it x left step)(hl:left<=0)(hQ:∀h',(∀b o,s.heap.get? b=some o->h'.get? b=some o)->Q none { s with heap:=h' }):wpAny (model prog w) A (pyNext (.ref it)) Q E s:=by
 have hT:s.TypeIs (.ref it) "range_iterator":=⟨_,rh,rfl⟩
 unfold pyNext;refine aI (uh (tJ (name:=Str.ofString "__next__") hT F.slot_range_iterator_next
  (pV F.slot_range_iterator_next hT F.entry_range_iterator_next ?_ (F.args_range_iterator_next_1 _))))
 show wpAny _ _ (field (.ref it) 0 >>= _) _ _ s;refine aI (iL rh rfl (x:=rawInt x) rfl ?_);refine aI (iL rh rfl (x:=rawInt left) rfl ?_);refine aI (iL rh rfl (x:=rawInt step) rfl ?_);dsimp only[rawInt];rw[ao hl];refine aI (iN ?_);refine aI ?_;show wpAny _ _ (newExc (.type "StopIteration") [] >>= _) _ _ _;refine aI ?_;simp only[newExc,newTuple];refine aI (pU ?_ (by size_fits));refine aI (m:=firstArgMember _ _) (wpAny_of_eq (a:=Value.none) (by first|rfl|(simp only[firstArgMember];rfl)) ?_);refine pU ?_ (by size_fits);generalize hTu:({ cls:=.type "tuple",data:=.seq ([]:List Value).toArray }:Obj)=Tu;generalize Te:({ cls:=.type "StopIteration",data:=.fields (#[Value.ref s.heap.objs.size,Value.none,Value.none,Value.none,Value.bool false,Value.none]++ownMembersOf (Value.type "StopIteration") []) }:Obj)=Ex;have Xm:Ex.data=.fields (#[Value.ref s.heap.objs.size,Value.none,Value.none,Value.none,Value.bool false,Value.none]++ownMembersOf (Value.type "StopIteration") []):=by rw[<-Te]
 have Zl:Ex.cls=.type "StopIteration":=by rw[<-Te]
 have k1:∀b o,s.heap.get? b=some o->((s.heap.push Tu).push Ex).get? b=some o:=fun b o e=>cq _ (cq _ e);have gE:((s.heap.push Tu).push Ex).get? (s.heap.push Tu).objs.size=some Ex:=cW _ (by rw[<-Te];rfl);have old:∀b o,s.heap.get? b=some o->b≠(s.heap.push Tu).objs.size:=fun b o e=>aW (aX (cq Tu e));obtain⟨op,ws,n1,n2,n3⟩:=id hp;refine CK (A:=A.in1) (p:=p) hh ⟨op,ws,k1 _ _ n1,n2,n3⟩ (old _ _ n1) gE Xm (by simp;lia) ?_;refine aI (wpAny_isInstance (T:="StopIteration") (b:=true) ⟨_,tR _ gE (Obj.isFreed_of_fields (yh Xm _)),(Obj.cls_mapFields _ _).trans Zl⟩ isSubtype_stop ?_);exact wpAny_pure (hQ _ fun b o e=>(tP _ _ (Ne.symm (old b o e))).trans (k1 b o e))
abbrev dq:=Sum Int Str
def rR:dq->Value->Bool
 |.inl k,v=>Value.isInt k v
 |.inr x,v=>Value.isStrOf x v
def Tf(w:World):dq->Int
 |.inl k=>hashInt k
 |.inr x=>hashStr w x
theorem cN:∀ {k:dq} {v:Value},rR k v=true->(∃i t,k=Sum.inl i/\v=Value.int i t)\/(∃x t,k=Sum.inr x/\v=Value.str x t)
 |.inl i,v,h=>by
  obtain⟨t,e⟩:=Value.isInt_shape (k:=i) (v:=v) h;exact .inl ⟨i,t,rfl,e⟩
 |.inr x,v,h=>by
  obtain⟨t,e⟩:=Value.isStrOf_shape (x:=x) (v:=v) h;exact .inr ⟨x,t,rfl,e⟩
theorem A6(i:Int)(t:Tok):rR (.inl i) (.int i t)=true:=by simp[rR,Value.isInt]
theorem A7(x:Str)(t:Tok):rR (.inr x) (.str x t)=true:=by simp[rR,Value.isStrOf]
theorem J_(a b:Int):decide ((Sum.inl a:dq)=Sum.inl b)=(a==b):=by
 by_cases e:a=b
 .subst e;simp
 .have h:¬ (Sum.inl a:dq)=Sum.inl b:=fun q=>e (pZ q);rw[cE h];exact(kO.mpr e).symm
theorem Ka(a b:Str):decide ((Sum.inr a:dq)=Sum.inr b)=decide (a=b):=by
 by_cases e:a=b
 .subst e;simp
 .have h:¬ (Sum.inr a:dq)=Sum.inr b:=fun q=>e (Sum.inr.inj q);rw[cE h,cE e]
theorem Kb(a:Int)(b:Str):decide ((Sum.inl a:dq)=Sum.inr b)=false:=cE (fun q=>nomatch q)
theorem Kc(a:Str)(b:Int):decide ((Sum.inr a:dq)=Sum.inl b)=false:=cE (fun q=>nomatch q)
def bu(prog:Program)(w:World):PySem.KeyKind prog w dq where
 is:=rR
 hash:=Tf w
 inj:=fun v a b ha hb=>by
  rcases cN ha with ⟨i,t,rfl,rfl⟩|⟨x,t,rfl,rfl⟩
  .rcases cN hb with ⟨j,u,rfl,e⟩|⟨y,u,rfl,e⟩
   .injection e with e1 _;rw[e1]
   .exact nomatch e
  .rcases cN hb with ⟨j,u,rfl,e⟩|⟨y,u,rfl,e⟩
   .exact nomatch e
   .injection e with e1 _;rw[e1]
 byValue:=fun k v h=>by
  rcases cN h with ⟨i,t,rfl,rfl⟩|⟨x,t,rfl,rfl⟩ <;> rfl
 pyHash:=fun hv h=>by
  rcases cN hv with ⟨i,t,rfl,rfl⟩|⟨x,t,rfl,rfl⟩
  .exact wpAny_pyHash_int h
  .exact wpAny_pyHash_str h
 eqBool:=fun hu hv h=>by
  rcases cN hu with ⟨i,t,rfl,rfl⟩|⟨x,t,rfl,rfl⟩
  .rcases cN hv with ⟨j,u,rfl,rfl⟩|⟨y,u,rfl,rfl⟩
   .rw[J_] at h;exact ym h
   .rw[Kb] at h;exact SeqAt.EqAt.int_str i t y u _ _ _ _ h
  .rcases cN hv with ⟨j,u,rfl,rfl⟩|⟨y,u,rfl,rfl⟩
   .rw[Kc] at h;exact SeqAt.EqAt.str_int x t j u _ _ _ _ h
   .rw[Ka] at h;exact wpAny_eqBool_str h
 «strs»:=fun k x t v h=>by
  rcases cN h with ⟨i,u,rfl,e⟩|⟨y,u,rfl,e⟩
  .exact nomatch e
  .injection e with e1 _
   subst e1
   cases v <;> rfl
theorem vD(prog:Program)(w:World)(i:Int)(t:Tok):(bu prog w).is (.inl i) (.int i t)=true:=A6 i t
theorem vE(prog:Program)(w:World)(x:Str)(t:Tok):(bu prog w).is (.inr x) (.str x t)=true:=A7 x t
inductive V where
 |bJ|bl (b:Bool)|int (i:Int)|str (x:Str)|A8 (b:Array UInt8)|IY (b:UInt64)|ref (a:Addr)|ty (n:String)
 deriving DecidableEq
def bf:V->Value->Prop
 |.bJ,u=>u=Value.none
 |.bl b,u=>u=Value.bool b
 |.int i,u=>∃t,u=Value.int i t
 |.str x,u=>∃t,u=Value.str x t
 |.A8 b,u=>∃t,u=Value.bytes b t
 |.IY b,u=>∃t,u=Value.float b t
 |.ref a,u=>u=Value.ref a
 |.ty n,u=>u=Value.type n
abbrev aV:List V->List Value->Prop:=Paired bf
theorem aV.length(r:aV xs us):xs.length=us.length:=Paired.length r
theorem aV.get:∀ {xs:List V} {us:List Value} {i:Nat} {x:V},aV xs us->xs[i]?=some x->∃u,us[i]?=some u/\bf x u
 |_,_,_,_,.nil,e=>by simp at e
 |_,_,0,_,.cons r _,e=>by simp at e;subst e;exact⟨_,rfl,r⟩
 |_,_,i+1,x,.cons _ t,e=>by
  obtain⟨u,h1,h2⟩:=aV.get (i:=i) (x:=x) t (by simpa using e);exact⟨u,by simpa using h1,h2⟩
theorem aV.set(r:bf x u):∀ {xs:List V} {us:List Value} (i:Nat),aV xs us->aV (xs.set i x) (us.set i u)
 |_,_,_,.nil=>.nil
 |_,_,0,.cons _ t=>.cons r t
 |_,_,i+1,.cons q t=>.cons q (aV.set r i t)
theorem aV.append:∀ {xs ys:List V} {us ws:List Value},aV xs us->aV ys ws->aV (xs++ys) (us++ws)
 |_,_,_,_,.nil,s=>s
 |_,_,_,_,.cons r t,s=>.cons r (aV.append t s)
theorem aV.take:∀ {xs:List V} {us:List Value} (n:Nat),aV xs us->aV (xs.take n) (us.take n)
 |_,_,0,_=>.nil
 |_,_,_+1,.nil=>.nil
 |_,_,n+1,.cons r t=>.cons r (aV.take n t)
theorem aV.drop:∀ {xs:List V} {us:List Value} (n:Nat),aV xs us->aV (xs.drop n) (us.drop n)
 |_,_,0,r=>r
 |_,_,_+1,.nil=>.nil
 |_,_,n+1,.cons _ t=>aV.drop n t
def kC:Option V->Option Value->Prop
 |some v,some u=>bf v u
 |none,none=>True
 |_,_=>False
def KV{κ:Type}:List (κ×V)->List (κ×Value)->Prop:=Paired fun (p:κ×V) (q:κ×Value)=>p.1=q.1/\bf p.2 q.2
def kV:dq->V
 |.inl i=>.int i
 |.inr x=>.str x
inductive HO where
 |lst (xs:List V)
 |tup (xs:List V)
 |dK (kvs:List (dq×V))|dT (kvs:List (List dq×V))
 |set (S:Int->Bool) (n:Nat)
 |ins (C dx:Addr) (fs:List (Str×V))
 |own (x:Addr)
 |xd (fs:List (Str×V))
 |met (f x:Addr)
 |CL (lo hi:Int)
 |iI (o:Obj) (u:HO)
 |m9 (ps:Array Value)
 |ext (φ:Heap->Prop)
abbrev Hp:=Addr->Option HO
def upd(H:Hp)(a:Addr)(o:HO):Hp:=fun b=>if b=a then some o else H b
theorem af:upd H a o a=some o:=by unfold upd;rw[ao rfl]
theorem ak(h:b≠a):upd H a o b=H b:=by unfold upd;rw[ap h]
theorem g7:upd (upd H a o) a u=upd H a u:=by
 funext b;unfold upd;split <;> rfl
theorem cY{H:Hp}{a b:Addr}{o u:HO}(h:H a=some o)(h':H b=some u)(d:o≠u):a≠b:=by
 intro e;subst e;rw[h] at h';exact d (aY h')
theorem ai{H:Hp}{a b:Addr}{o:HO}(h:H a=some o)(h':H b=none):a≠b:=by
 intro e;subst e;rw[h] at h';cases h'
section
variable (P:Program) (w:World)
def m_(h:Heap)(a:Addr)(kR:Array Value):Prop:=∃o,h.get? a=some o/\o.cls=.type "tuple"/\∃n,o.data=.seq kR n/\o.dict=none
theorem m_.tup(p:m_ h a kR):IsTup h a kR:=let ⟨o,e,c,n,d,_⟩:=p;⟨o,e,c,n,d⟩
theorem m_.new(h:Heap)(kR:Array Value):m_ (h.push { cls:=.type "tuple",data:=.seq kR }) h.objs.size kR:=⟨_,cW _ rfl,rfl,_,rfl,rfl⟩
def bR(H:Hp)(h:Heap)(a:Addr):HO->Prop
 |.lst xs=>xs.length<=sizeLine/\∃ (its:List Value) (n:Nat),aV xs its/\h.get? a=some { cls:=.type "list",data:=.seq its.toArray n }
 |.tup xs=>xs.length<=sizeLine/\∃its:List Value,aV xs its/\m_ h a its.toArray
 |.dK kvs=>kvs.length<=sizeLine/\(a==sysModules)=false/\∃vs,KV kvs vs/\h.DictOf (bu P w) a vs
 |.dT kvs=>kvs.length<=sizeLine/\(a==sysModules)=false/\∃xs:List (List dq×Addr×Value),
   Paired (fun (p:List dq×V) (q:List dq×Addr×Value)=>p.1=q.1/\H q.2.1=some (.tup (p.1.map kV))/\bf p.2 q.2.2) kvs xs/\
   ∃o es ep,h.get? a=some o/\o.ExactDict/\o.data=.dict es ep/\es.toList=xs.map (entryOfKey (tupleKind (bu P w)))/\(xs.map (·.1)).Nodup
 |.set S n=>h.SetOf (intKind P w) a S n
 |.ins C dx fs=>H dx=some (.own a)/\fs.length<=1000/\dx≠a/\h.get? a=some (PySem.W.instObj C dx)/\
   ∃mA,h.Ns1 dx mA/\(∀f,kC (fs.lookup f) (mA f))/\PySem.Within mA (fs.map (·.1))
 |.own _=>∃o,h.get? a=some o
 |.xd fs=>∃mA,h.Ns1 a mA/\∀f,kC (fs.lookup f) (mA f)
 |.CL lo hi=>∃t u v,h.get? a=some { cls:=.type "range",data:=.fields #[.int lo t,.int hi u,.int 1 v] }
 |.iI o u=>h.get? a=some o/\bR H h a u
 |.m9 ps=>h.get? a=some { cls:=.none,data:=.fields ps }
 |.met f x=>h.get? a=some (PySem.W.methodObj (.ref f) (.ref x))
 |.ext φ=>φ h/\(∃o,h.get? a=some o)/\∀h1 h2:Heap,φ h1->(∀o,h1.get? a=some o->h2.get? a=some o)->φ h2
def iP(H:Hp)(h:Heap):Prop:=∀a o,H a=some o->bR P w H h a o
end
section
variable {P:Program} {w:World} {H H':Hp} {h h':Heap} {a:Addr} {o:HO}
theorem bR.lt(x:bR P w H h a o):a<h.objs.size:=by
 cases o with
 |lst xs=>obtain⟨_,_,_,_,e⟩:=x;exact aX e
 |tup xs=>obtain⟨_,_,_,p⟩:=x;exact p.tup.lt
 |dK kvs=>obtain⟨_,_,_,_,o,_,_,e,_⟩:=x;exact aX e
 |dT kvs=>obtain⟨_,_,_,_,o,_,_,e,_⟩:=x;exact aX e
 |set S n=>obtain⟨o,_,_,_,e,_⟩:=x;exact aX e
 |ins C dx fs=>obtain⟨_,_,_,e,_⟩:=x;exact aX e
 |own y=>obtain⟨_,e⟩:=x;exact aX e
 |xd fs=>obtain⟨_,⟨_,_,_,e,_⟩,_⟩:=x;exact aX e
 |CL lo hi=>obtain⟨_,_,_,e⟩:=x;exact aX e
 |iI ob u=>obtain⟨e,_⟩:=x;exact aX e
 |m9 ps=>exact aX (show h.get? a=some _ from x)
 |met f y=>exact aX (show h.get? a=some _ from x)
 |ext φ=>obtain⟨_,⟨_,e⟩,_⟩:=x;exact aX e
theorem Paired.Kd:∀ {l₁:List α} {l₂:List β},Paired F l₁ l₂->(∀a b,F a b->G a b)->Paired G l₁ l₂
 |_,_,.nil,_=>.nil
 |_,_,.cons r t,f=>.cons (f _ _ r) (Paired.Kd t f)
theorem bR.oG(x:bR P w H h a o)(k:∀b u,(b=a\/H b=some (.own a))->h.get? b=some u->h'.get? b=some u)(ho:∀b,H b=some (.own a)->H' b=some (.own a))(ht:∀b xs,H b=some (.tup xs)->H' b=some (.tup xs)):bR P w H' h' a o:=by
 induction o with
 |lst xs=>obtain⟨z,its,n,r,e⟩:=x;exact⟨z,its,n,r,k _ _ (.inl rfl) e⟩
 |tup xs=>obtain⟨z,its,r,ob,e,c⟩:=x;exact⟨z,its,r,ob,k _ _ (.inl rfl) e,c⟩
 |dK kvs=>obtain⟨z,y,vs,r,ob,es,ep,e,c⟩:=x;exact⟨z,y,vs,r,ob,es,ep,k _ _ (.inl rfl) e,c⟩
 |dT kvs=>
  obtain⟨z,y,xs,r,ob,es,ep,e,c⟩:=x;exact⟨z,y,xs,Paired.Kd r fun p q z=>⟨z.1,ht _ _ z.2.1,z.2.2⟩,ob,es,ep,k _ _ (.inl rfl) e,c⟩
 |set S n=>obtain⟨ob,es,ep,t,e,c⟩:=x;exact⟨ob,es,ep,t,k _ _ (.inl rfl) e,c⟩
 |ins C dx fs=>
  obtain⟨d,z,ne,e,mA,⟨od,es,ep,e2,c⟩,r⟩:=x;exact⟨ho _ d,z,ne,k _ _ (.inl rfl) e,mA,⟨od,es,ep,k _ _ (.inr d) e2,c⟩,r⟩
 |own y=>obtain⟨ob,e⟩:=x;exact⟨ob,k _ _ (.inl rfl) e⟩
 |xd fs=>obtain⟨mA,⟨od,es,ep,e,c⟩,r⟩:=x;exact⟨mA,⟨od,es,ep,k _ _ (.inl rfl) e,c⟩,r⟩
 |CL lo hi=>obtain⟨t,u,v,e⟩:=x;exact⟨t,u,v,k _ _ (.inl rfl) e⟩
 |iI ob u ih=>obtain⟨e,q⟩:=x;exact⟨k _ _ (.inl rfl) e,ih q⟩
 |m9 ps=>
  have e:h.get? a=some { cls:=.none,data:=.fields ps }:=x;show h'.get? a=some { cls:=.none,data:=.fields ps };exact k a _ (.inl rfl) e
 |met f y=>
  have e:h.get? a=some (PySem.W.methodObj (.ref f) (.ref y)):=x;show h'.get? a=some (PySem.W.methodObj (.ref f) (.ref y));exact k a _ (.inl rfl) e
 |ext φ=>obtain⟨p,⟨o,e⟩,st⟩:=x;exact⟨st _ _ p fun o q=>k _ _ (.inl rfl) q,⟨o,k _ _ (.inl rfl) e⟩,st⟩
theorem iP.lt(x:iP P w H h)(e:H a=some o):a<h.objs.size:=(x a o e).lt
theorem iP.fresh(x:iP P w H h)(e:h.objs.size<=a):H a=none:=by
 cases q:H a with
 |none=>rfl
 |some u=>exact absurd (bU (x.lt q) e) (jj _)
theorem iP.kept(x:iP P w H h)(k:∀b u,h.get? b=some u->h'.get? b=some u):iP P w H h':=fun a o e=>
 (x a o e).oG (fun b u _ q=>k b u q) (fun _ q=>q) fun _ _ q=>q
theorem iP.laid(x:iP P w H h)(k:∀b u,h.get? b=some u->h'.get? b=some u)(hp:h.objs.size<=a)(new:bR P w (upd H a o) h' a o):iP P w (upd H a o) h':=fun b u e=>by
 have hn:=x.fresh hp;by_cases hb:b=a
 .subst hb;rw[af] at e;cases e;exact new
 .rw[ak hb] at e;exact(x b u e).oG (fun c v _ q=>k c v q) (fun c q=>by rw[ak (ai q hn)];exact q) fun c xs q=>by rw[ak (ai q hn)];exact q
end
def Rd(H:Hp)(a:Addr)(u:HO):Prop:=H a=some u\/∃o,H a=some (.iI o u)
theorem Rd.ok(r:Rd H a u)(x:iP P w H h):bR P w H h a u:=by
 rcases r with r|⟨o,r⟩
 .exact x a u r
 .obtain⟨_,q⟩:=x a _ r;exact q
def NU:Option HO->Prop
 |some (.lst _)=>True
 |some (.dK _)=>True
 |some (.dT _)=>True
 |some (.set _ _)=>True
 |some (.ins _ _ _)=>True
 |some (.ext _)=>True
 |_=>False
section
variable {P:Program} {w:World} {H:Hp} {h h':Heap} {x e:Addr} {o':HO}
theorem iP.write(ok:iP P w H h)(mu:NU (H x))(he:e=x\/H e=some (.own x))(k:∀b u,b≠e->h.get? b=some u->h'.get? b=some u)(Nh:∃u,h'.get? e=some u)(new:bR P w (upd H x o') h' x o'):iP P w (upd H x o') h':=fun b u q=>by
 have NW:∀c y,H c=some (.own y)->c≠x:=fun c y r z=>by subst z;rw[r] at mu;exact mu
 have Tg:∀c xs,H c=some (.tup xs)->c≠x:=fun c xs r z=>by subst z;rw[r] at mu;exact mu
 by_cases hb:b=x
 .subst hb;rw[af] at q;cases q;exact new
 .rw[ak hb] at q;by_cases Fz:b=e
  .have q':H b=some (.own x):=by
    rcases he with z|z
    .exact absurd (Fz.trans z) hb
    .rw[Fz];exact z
   rw[q] at q';cases q';obtain⟨v,hv⟩:=Nh;exact⟨v,by rw[Fz];exact hv⟩
  .refine(ok b u q).oG (fun c v hc r=>k c v ?_ r) (fun c r=>by rw[ak (NW c b r)];exact r) fun c xs r=>by rw[ak (Tg c xs r)];exact r
   rcases hc with rfl|hc
   .exact Fz
   .rintro rfl;rcases he with z|z
    .exact NW c b hc z
    .rw[hc] at z;cases z;exact hb rfl
end
structure Un(fs ex:List Addr)(H H':Hp)(h h':Heap):Prop where
 keep:∀b o,h.get? b=some o->H b=none->b∉fs->b∉ex->h'.get? b=some o
 slot:∀b o,h.get? b=some o->H b=none->b∈fs->b∉ex->∃sl,h'.get? b=some { o with slots:=sl }
 free:∀b o,h.get? b=some o->H b=none->b∉ex->H' b=none
 there:∀b o,h.get? b=some o->b∉ex->∃o',h'.get? b=some o'
 lH:∀b xs,H b=some (.tup xs)->H' b=some (.tup xs)
 ng:∀b o u,H b=some (.iI o u)->H' b=some (.iI o u)
 nq:∀b ps,H b=some (.m9 ps)->∃more,H' b=some (.m9 (ps++more))
section
variable {fs Zm ex ex':List Addr} {H H1 H2:Hp} {h h1 h2 h':Heap} {a x e:Addr} {o:HO}
theorem Un.any(u:Un fs ex H H1 h h1)(q:h.get? b=some ob)(n:H b=none)(hx:b∉ex):∃sl,h1.get? b=some { ob with slots:=sl }:=by
 by_cases hb:b∈fs
 .exact u.slot b ob q n hb hx
 .exact⟨ob.slots,u.keep b ob q n hb hx⟩
theorem Un.kept(k:∀b u,h.get? b=some u->h'.get? b=some u):Un fs ex H H h h':=
 ⟨fun b ob q _ _ _=>k b ob q,fun b ob q _ _ _=>⟨ob.slots,k b ob q⟩,fun _ _ _ n _=>n,fun b ob q _=>⟨ob,k b ob q⟩,fun _ _ q=>q,fun _ _ _ q=>q,fun _ ps q=>⟨#[],by rw[q];simp⟩⟩
theorem Un.refl:Un fs ex H H h h:=Un.kept fun _ _ q=>q
theorem Un.laid(k:∀b u,h.get? b=some u->h'.get? b=some u)(hp:h.objs.size<=a)(hn:H a=none):Un fs ex H (upd H a o) h h' where
 keep:=fun b u q _ _ _=>k b u q
 slot:=fun b u q _ _ _=>⟨u.slots,k b u q⟩
 free:=fun b u q n _=>by rw[ak (aW (bU (aX q) hp))];exact n
 there:=fun b u q _=>⟨u,k b u q⟩
 lH:=fun b xs q=>by rw[ak (ai q hn)];exact q
 ng:=fun b u xs q=>by rw[ak (ai q hn)];exact q
 nq:=fun b ps q=>⟨#[],by rw[ak (ai q hn),q];simp⟩
theorem Un.write(mu:NU (H x))(he:e=x\/H e=some (.own x))(k:∀b u,b≠e->h.get? b=some u->h'.get? b=some u)(Nh:∃u,h'.get? e=some u):Un fs ex H (upd H x o) h h':=by
 have hx:∀b,H b=none->b≠x:=fun b n z=>by subst z;rw[n] at mu;exact mu
 have hb:∀b,H b=none->b≠e:=fun b n z=>by
  subst z;rcases he with r|r
  .exact hx b n r
  .rw[n] at r;cases r
 have hm:∀b u,H b=some u->¬ NU (some u)->b≠x:=fun b u q nm z=>by subst z;rw[q] at mu;exact nm mu
 refine⟨fun b u q n _ _=>k b u (hb b n) q,fun b u q n _ _=>⟨u.slots,k b u (hb b n) q⟩,fun b u q n _=>by rw[ak (hx b n)];exact n,fun b u q _=>?_,
  fun b xs q=>by rw[ak (hm b _ q fun z=>z)];exact q,fun b u xs q=>by rw[ak (hm b _ q fun z=>z)];exact q,fun b ps q=>⟨#[],by rw[ak (hm b _ q fun z=>z),q];simp⟩⟩
 by_cases Fz:b=e
 .subst Fz;exact Nh
 .exact⟨u,k b u Fz q⟩
end
def RJ(h:Heap)(H:Hp):List Addr:=(List.range h.objs.size).filter fun a=>(H a).isSome
def rB(h:Heap)(H:Hp):Heap:=PySem.W.hideAll h (RJ h H)
theorem A9(h:Heap)(H:Hp):(rB h H).objs.size=h.objs.size:=PySem.W.hideAll_size _ _
theorem CM(e:h.get? b=some o)(n:H b=none):(rB h H).get? b=some o:=
 PySem.W.hideAll_get _ e fun hm=>by
  have q:(H b).isSome=true:=(bX.mp hm).2;rw[n] at q;simp at q
theorem FV(e:(rB h H).get? b=some o):h.get? b=some o/\H b=none:=by
 have e':h.get? b=some o:=PySem.W.of_hideAll (RJ h H) e;refine⟨e',?_⟩;cases q:H b with
 |none=>rfl
 |some x=>
  have hm:b∈RJ h H:=bX.mpr ⟨bO.mpr (aX e'),by simp[q]⟩;have z:(rB h H).get? b=none:=PySem.W.hideAll_none (RJ h H) hm;rw[z] at e;cases e
def iQ(g h:Heap)(L:Addr):List (Addr×Obj):=(List.range h.objs.size).filterMap fun a=>if a=L\/(g.get? a).isSome=true then none else (h.get? a).map fun o=>(a,o)
theorem jE(h1:a≠L)(h2:g.get? a=none)(h3:h.get? a=some o):(a,o)∈iQ g h L:=
 mW.mpr ⟨a,bO.mpr (aX h3),by simp[h1,h2,h3]⟩
theorem p9(hp:p∈iQ g h L):p.1≠L/\g.get? p.1=none/\h.get? p.1=some p.2:=by
 obtain⟨b,_,e⟩:=mW.mp hp;split at e
 .cases e
 .rename_i hn;cases q:h.get? b with
  |none=>rw[q] at e;simp at e
  |some u=>
   rw[q] at e;simp only[Option.map_some,Option.some.injEq] at e;subst e;refine⟨fun z=>hn (.inl z),?_,q⟩;show g.get? b=none;cases r:g.get? b with
   |none=>rfl
   |some v=>exact(hn (.inr (by simp[r]))).elim
theorem CN:News g L h (iQ g h L):=fun p hp=>let ⟨a,b,c⟩:=p9 hp;⟨c,a,b⟩
structure Mod(K:PySem.W.Frag)(mg:Str->Option Value)(base:Heap):Prop where
 Ni:K.In base
 glob:base.Ns mainGlobals mg
 blt:∃mb,base.Ns builtinsNs mb/\∀x:Str,x≠"__name__"->mb x=bootBuiltins x
 nolimit:base.NoLimit
structure Cx where
 prog:Program
 w:World
 K:PySem.W.Frag
 mg:Str->Option Value
 base:Heap
 A:Around
 N:List Str
 s₀:Shared
 H₀:Hp
 env:Env
 outer:List Env
 stack:List Env
 ex:List Addr
 fn:Str->Bool
 calm:Bool
 pn:List (Addr×Obj)
 xe:Value->Shared->Prop
def A_(l:List Env):List Addr:=l.filterMap (·.frame)
abbrev Cx.fs(X:Cx):List Addr:=A_ X.outer
def NX(sc:Scope)(x:Str):Prop:=sc.names.lookup x=some .local\/sc.names.lookup x=some .cell\/sc.names.lookup x=some .free
def NY(sc:Scope)(x:Str):Prop:=sc.names.lookup x=some .local\/sc.names.lookup x=some .cell
def Th(env:Env)(h:Heap)(m:Str->Option Value)(x:Str)(u:Value):Prop:=
 (env.kindOf x=some .local/\m x=some u)\/((env.kindOf x=some .cell\/env.kindOf x=some .free)/\∃c,env.cells.lookup x=some c/\h.IsCell c (some u))
structure Cx.Ok(X:Cx):Prop where
 mod:Mod X.K X.mg X.base
 kind:X.env.scope.kind=.function
 glob:X.env.globals=mainGlobals
 blt:X.env.builtins=builtinsNs
 above:X.s₀.heap.objs.size<=X.env.locals
 inj:∀x y c,X.env.cells.lookup x=some c->X.env.cells.lookup y=some c->x=y
 has:∀x,(X.env.kindOf x=some .cell\/X.env.kindOf x=some .free)->∃c,X.env.cells.lookup x=some c
 Nj:∀x c,X.fn x=true->X.env.cells.lookup x=some c->X.s₀.heap.objs.size<=c
 hd:X.calm=true->X.A.handled=none
 frames:X.A.frames=some X.stack
 Nk:X.stack=X.outer\/(X.stack=X.env::X.outer/\X.env.frame=some X.env.locals)
 Ti:∀b∈X.ex,b≠X.env.locals/\∀x c,X.env.cells.lookup x=some c->c≠b
 bs:∀b o,X.base.get? b=some o->X.s₀.heap.get? b=some o/\X.H₀ b=none
 Cn:X.base.objs.size<=X.s₀.heap.objs.size
 CO:∀b o,X.base.get? b=some o->b∉X.ex
 FW:∀b∈X.ex,b∉X.fs
 nr:X.s₀.heap.FunFrames X.base X.outer
 Ke:∀b∈X.fs,X.H₀ b=none
structure aK(X:Cx)(ae:List (Addr×Obj))(σ:List (Option V))(H:Hp)(s:Shared):Prop where
 ok:X.Ok
 os:s.os=X.s₀.os
 bare:AllBare s.gens
 base:Un X.fs X.ex X.H₀ H X.s₀.heap s.heap
 loc:∃m,s.heap.Ns X.env.locals m/\∀ (i:Nat) (x:Str) (v:V),X.N[i]?=some x->σ[i]?=some (some v)->NX X.env.scope x->∃u,bf v u/\Th X.env s.heap m x u
 cell:∀x c,X.env.cells.lookup x=some c->∃v,s.heap.IsCell c v
 free:H X.env.locals=none
 jF:∀x c,X.env.cells.lookup x=some c->H c=none
 pin:∀p∈X.pn++ae,s.heap.get? p.1=some p.2/\H p.1=none/\p.1≠X.env.locals/\p.1∉X.fs/\∀v,p.2.data≠.cell v
 bC:iP X.prog X.w H s.heap
 len:σ.length=X.N.length
section
variable {X:Cx} {ae:List (Addr×Obj)} {σ:List (Option V)} {H H':Hp} {s:Shared} {h':Heap}
theorem Cx.Ok.Tj(ok:X.Ok)(e:X.base.get? b=some o):b∉X.fs:=fun hb=>by
 have:=(ok.nr.mem hb).1;rw[e] at this;cases this
theorem aK.bs(I:aK X ae σ H s):∀b o,X.base.get? b=some o->s.heap.get? b=some o/\H b=none:=fun b o e=>
 ⟨I.base.keep b o (I.ok.bs b o e).1 (I.ok.bs b o e).2 (I.ok.Tj e) (I.ok.CO b o e),I.base.free b o (I.ok.bs b o e).1 (I.ok.bs b o e).2 (I.ok.CO b o e)⟩
theorem aK.bk(I:aK X ae σ H s):∀b o,X.base.get? b=some o->s.heap.get? b=some o:=fun b o e=>(I.bs b o e).1
theorem aK.mod(I:aK X ae σ H s):Mod X.K X.mg X.base:=I.ok.mod
theorem aK.nt(I:aK X ae σ H s):X.K.In s.heap:=I.ok.mod.Ni.keeps I.bk
theorem aK.nolimit(I:aK X ae σ H s):s.heap.NoLimit:=I.ok.mod.nolimit.keeps I.bk
theorem aK.fr(I:aK X ae σ H s):∃m,Fr X.base X.env.locals s.heap m:=
 let ⟨m,hn,_⟩:=I.loc
 ⟨m,hn,I.bk,br I.ok.Cn I.ok.above⟩
theorem aK.lt(I:aK X ae σ H s):X.env.locals<s.heap.objs.size:=let ⟨_,hn,_⟩:=I.loc;hn.lt
theorem aK.sz(I:aK X ae σ H s):X.s₀.heap.objs.size<=s.heap.objs.size:=br I.ok.above (dI I.lt)
theorem aK.Tl(I:aK X ae σ H s)(h:s.heap.objs.size<=a):a∉X.fs:=fun hb=>by
 obtain⟨_,o,ho,_⟩:=I.ok.nr.mem hb;exact absurd (bU (aX ho) (br I.sz h)) (jj _)
theorem aK.IZ(I:aK X ae σ H s):∀x c,X.env.cells.lookup x=some c->c≠X.env.locals:=fun x c e z=>by
 obtain⟨v,o,ho,hd⟩:=I.cell x c e;obtain⟨m,⟨o',es,ep,CP,Kg,_⟩,_⟩:=I.loc;rw[z,CP] at ho;cases ho;rw[Kg] at hd;cases hd
theorem aK.nr(I:aK X ae σ H s):s.heap.FunFrames X.base X.outer:=by
 have all:∀ (l:List Env),(∀b∈A_ l,b∈X.fs)->X.s₀.heap.FunFrames X.base l->s.heap.FunFrames X.base l:=by
  intro l;induction l with
  |nil=>intro _ _;trivial
  |cons env r ih=>
   intro hs hl;obtain⟨hk,⟨L,o,hf,hn,ho,hd⟩,hr⟩:=hl;have hL:L∈X.fs:=hs L (by unfold A_;rw[xT,hf];exact b9);obtain⟨sl,e⟩:=I.base.slot L o ho (I.ok.Ke L hL) hL fun z=>I.ok.FW L z hL;exact⟨hk,⟨L,_,hf,hn,e,hd⟩,ih (fun b hb=>hs b (by unfold A_;rw[xT,hf];exact cC _ hb)) hr⟩
 exact all X.outer (fun _ hb=>hb) I.ok.nr
theorem aK.stack(I:aK X ae σ H s):s.heap.FunFrames X.base X.stack:=by
 rcases I.ok.Nk with e|⟨e,hf⟩
 .rw[e];exact I.nr
 .rw[e];obtain⟨m,hn,_⟩:=I.loc;refine .cons (by rw[I.ok.kind];decide) hf hn ?_ I.nr;exact lf (br I.ok.Cn I.ok.above)
theorem aK.p_(I:aK X ae σ H s):∀b∈A_ X.stack,b∈X.env.locals::X.fs:=fun b hb=>by
 rcases I.ok.Nk with e|⟨e,hf⟩
 .rw[e] at hb;exact cC _ hb
 .rw[e] at hb;unfold A_ at hb;rw[xT,hf] at hb;exact hb
theorem aK.oW(I:aK X ae σ H s):∀b∈A_ X.stack,H b=none:=fun b hb=>by
 rcases bL.mp (I.p_ b hb) with e|hb
 .rw[e];exact I.free
 .obtain⟨_,o,ho,_⟩:=I.ok.nr.mem hb;exact I.base.free b o ho (I.ok.Ke b hb) fun z=>I.ok.FW b z hb
theorem aK.step{g':Array GenState}{t':Nat}{d':Drawn}{ch:List Addr}(I:aK X ae σ H s)(FB:∀b∈ch,(b∈X.ex\/X.s₀.heap.objs.size<=b)/\b≠X.env.locals/\(∀x c,X.env.cells.lookup x=some c->c≠b)/\∀p∈X.pn++ae,p.1≠b)(keep:∀b o,b≠X.env.locals->b∉X.fs->b∉ch->s.heap.get? b=some o->H b=none->h'.get? b=some o)(slot:∀b o,b≠X.env.locals->b∈X.fs->b∉ch->s.heap.get? b=some o->H b=none->∃sl,h'.get? b=some { o with slots:=sl })(free:∀b o,b∉ch->s.heap.get? b=some o->H b=none->H' b=none)(there:∀b o,b∉ch->s.heap.get? b=some o->∃o',h'.get? b=some o')(lH:∀b xs,H b=some (.tup xs)->H' b=some (.tup xs))(ng:∀b o u,H b=some (.iI o u)->H' b=some (.iI o u))(nq:∀b ps,H b=some (.m9 ps)->∃more,H' b=some (.m9 (ps++more)))(ns:∀m,s.heap.Ns X.env.locals m->h'.Ns X.env.locals m)(bC:iP X.prog X.w H' h')(hg:AllBare g'):
  aK X ae σ H' { s with heap:=h',gens:=g',drawn:=d',toks:=t' }:=by
 have Xn:∀b o,X.s₀.heap.get? b=some o->b≠X.env.locals:=fun b o e=>aW (bU (aX e) I.ok.above);have RK:∀b o,X.s₀.heap.get? b=some o->b∉X.ex->b∉ch:=fun b o e hx hb=>by
  rcases(FB b hb).1 with z|z
  .exact hx z
  .exact absurd (bU (aX e) z) (jj _)
 have I0:∀x c,X.env.cells.lookup x=some c->∀v,s.heap.IsCell c v->h'.IsCell c v:=fun x c e v ⟨o,ho,hd⟩=>by
  have NZ:c∉ch:=fun z=>(FB c z).2.2.1 x c e rfl;by_cases hc:c∈X.fs
  .obtain⟨sl,q⟩:=slot c o (I.IZ x c e) hc NZ ho (I.jF x c e);exact⟨_,q,hd⟩
  .exact⟨o,keep c o (I.IZ x c e) hc NZ ho (I.jF x c e),hd⟩
 refine⟨I.ok,I.os,hg,⟨fun b o e n hb hx=>?_,fun b o e n hb hx=>?_,fun b o e n hx=>?_,fun b o e hx=>?_,fun b xs e=>lH b xs (I.base.lH b xs e),fun b o xs e=>ng b o xs (I.base.ng b o xs e),fun b ps e=>?_⟩,?_,fun x c e=>?_,?_,fun x c e=>?_,fun p hp=>?_,bC,I.len⟩
 .exact keep b o (Xn b o e) hb (RK b o e hx) (I.base.keep b o e n hb hx) (I.base.free b o e n hx)
 .obtain⟨sl,e1⟩:=I.base.slot b o e n hb hx;obtain⟨Tn,e2⟩:=slot b _ (Xn b o e) hb (RK b o e hx) e1 (I.base.free b o e n hx);exact⟨Tn,e2⟩
 .obtain⟨o',e1⟩:=I.base.there b o e hx;exact free b o' (RK b o e hx) e1 (I.base.free b o e n hx)
 .obtain⟨o',e1⟩:=I.base.there b o e hx;exact there b o' (RK b o e hx) e1
 .obtain⟨m1,e1⟩:=I.base.nq b ps e;obtain⟨m2,e2⟩:=nq b _ e1;exact⟨m1++m2,by rw[e2,Array.append_assoc]⟩
 .obtain⟨m,hn,hl⟩:=I.loc;refine⟨m,ns m hn,fun i x v e1 e2 e3=>?_⟩;obtain⟨u,r,l⟩:=hl i x v e1 e2 e3;refine⟨u,r,?_⟩;rcases l with l|⟨k,c,e,z⟩
  .exact .inl l
  .exact .inr ⟨k,c,e,I0 x c e _ z⟩
 .obtain⟨v,z⟩:=I.cell x c e;exact⟨v,I0 x c e v z⟩
 .obtain⟨m,⟨o,_,_,ho,_⟩,_⟩:=I.loc;exact free _ o (fun z=>(FB _ z).2.1 rfl) ho I.free
 .obtain⟨v,o,ho,hd⟩:=I.cell x c e;exact free c o (fun z=>(FB c z).2.2.1 x c e rfl) ho (I.jF x c e)
 .obtain⟨e,n,ne,nf,d⟩:=I.pin p hp;have NZ:p.1∉ch:=fun z=>(FB p.1 z).2.2.2 p hp rfl;exact⟨keep p.1 p.2 ne nf NZ e n,free p.1 p.2 NZ e n,ne,nf,d⟩
theorem aK.un{t':Nat}(I:aK X ae σ H s)(u:Un X.fs [] H H' s.heap h')(bC:iP X.prog X.w H' h'):aK X ae σ H' { s with heap:=h',toks:=t' }:=by
 obtain⟨m,⟨o,es,ep,ho,r⟩,_⟩:=id I.loc;obtain⟨sl,hL⟩:=u.any ho I.free (by simp);exact I.step (g':=s.gens) (d':=s.drawn) (ch:=[]) (fun _ z=>nomatch z) (fun b o _ hb _ e n=>u.keep b o e n hb (by simp)) (fun b o _ hb _ e n=>u.slot b o e n hb (by simp)) (fun b o _ e n=>u.free b o e n (by simp)) (fun b o _ e=>u.there b o e (by simp)) u.lH u.ng u.nq (fun m' hm=>by
  obtain⟨o',vy,Kh,CP,r'⟩:=hm;rw[ho] at CP;cases CP;exact⟨_,vy,Kh,hL,r'⟩) bC I.bare
theorem aK.call{g':Array GenState}{t':Nat}{d':Drawn}{ch:List Addr}(I:aK X ae σ H s)(u:Un (A_ X.stack) ch H H' s.heap h')(bC:iP X.prog X.w H' h')(hg:AllBare g')(FB:∀b∈ch,(b∈X.ex\/X.s₀.heap.objs.size<=b)/\b≠X.env.locals/\(∀x c,X.env.cells.lookup x=some c->c≠b)/\∀p∈X.pn++ae,p.1≠b):
  aK X ae σ H' { s with heap:=h',gens:=g',drawn:=d',toks:=t' }:=by
 obtain⟨m,⟨o,es,ep,ho,r⟩,_⟩:=id I.loc;obtain⟨sl,hL⟩:=u.any ho I.free fun z=>(FB _ z).2.1 rfl;exact I.step (ch:=ch) FB (fun b o hL hb hc e n=>u.keep b o e n (fun z=>(bL.mp (I.p_ b z)).elim hL hb) hc) (fun b o _ _ hc e n=>u.any e n hc) (fun b o hc e n=>u.free b o e n hc) (fun b o hc e=>u.there b o e hc) u.lH u.ng u.nq (fun m' hm=>by
  obtain⟨o',vy,Kh,CP,r'⟩:=hm;rw[ho] at CP;cases CP;exact⟨_,vy,Kh,hL,r'⟩) bC hg
theorem aK.turned{t':Nat}{it:Addr}(I:aK X ae σ H s)(k:∀b o,b≠it->s.heap.get? b=some o->h'.get? b=some o)(hn:H it=none)(hL:it≠X.env.locals)(h1:it∈X.ex\/X.s₀.heap.objs.size<=it)(h2:∀x c,X.env.cells.lookup x=some c->c≠it)(h3:∀p∈X.pn++ae,p.1≠it):aK X ae σ H { s with heap:=h',toks:=t' }:=by
 have Xo:∀b u,H b=some u->b≠it:=fun b u e z=>by rw[z,hn] at e;cases e
 refine I.step (g':=s.gens) (d':=s.drawn) (ch:=[it]) (fun b hb=>?_) (fun b o _ _ hc e _=>k b o (fun z=>hc (by simp[z])) e) (fun b o _ _ hc e _=>⟨o.slots,k b o (fun z=>hc (by simp[z])) e⟩) (fun _ _ _ _ n=>n)
  (fun b o hc e=>⟨o,k b o (fun z=>hc (by simp[z])) e⟩) (fun _ _ e=>e) (fun _ _ _ e=>e) (fun b ps e=>⟨#[],by rw[e];simp⟩) (fun m hm=>?_) (fun b u e=>?_) I.bare
 .have e:b=it:=by simpa using hb
  subst e;exact⟨h1,hL,h2,h3⟩
 .obtain⟨o,es,ep,ho,r⟩:=hm;exact⟨o,es,ep,k _ o (Ne.symm hL) ho,r⟩
 .refine(I.bC b u e).oG (fun c v hc q=>k c v ?_ q) (fun _ q=>q) fun _ _ q=>q;rcases hc with z|z
  .rw[z];exact Xo b u e
  .exact Xo c _ z
theorem aK.tok(I:aK X ae σ H s)(t:Nat):aK X ae σ H { s with toks:=t }:=I.un (h':=s.heap) (t':=t) Un.refl I.bC
theorem aK.kept(I:aK X ae σ H s)(k:∀b u,s.heap.get? b=some u->h'.get? b=some u):aK X ae σ H { s with heap:=h',toks:=t' }:=I.un (Un.kept k) (I.bC.kept k)
theorem aK.laid(I:aK X ae σ H s)(k:∀b u,s.heap.get? b=some u->h'.get? b=some u)(hp:s.heap.objs.size<=a)(new:bR X.prog X.w (upd H a o) h' a o):
  aK X ae σ (upd H a o) { s with heap:=h',toks:=t' }:=I.un (Un.laid k hp (I.bC.fresh hp)) (I.bC.laid k hp new)
theorem aK.write(I:aK X ae σ H s)(mu:NU (H x))(he:e=x\/H e=some (.own x))(k:∀b u,b≠e->s.heap.get? b=some u->h'.get? b=some u)(Nh:∃u,h'.get? e=some u)(new:bR X.prog X.w (upd H x o) h' x o):aK X ae σ (upd H x o) { s with heap:=h',toks:=t' }:=I.un (Un.write mu he k Nh) (I.bC.write mu he k Nh new)
theorem aK.zJ(I:aK X ae σ H s)(h:∀p∈N0,s.heap.get? p.1=some p.2/\H p.1=none/\p.1≠X.env.locals/\p.1∉X.fs/\∀v,p.2.data≠.cell v):aK X N0 σ H s:=
 ⟨I.ok,I.os,I.bare,I.base,I.loc,I.cell,I.free,I.jF,fun p hp=>(bq.mp hp).elim (fun z=>I.pin p (gY _ z)) (h p),I.bC,I.len⟩
theorem vF{N:List Str}(hN:N.Nodup){i j:Nat}{x:Str}(a:N[i]?=some x)(b:N[j]?=some x):i=j:=by
 obtain⟨h1,e1⟩:=cK.mp a;obtain⟨h2,e2⟩:=cK.mp b;exact(List.getElem_inj hN).mp (e1.trans e2.symm)
theorem rT{M:Model}{A:Around}{E:Value->Shared->Prop}{i:Nat}{x:Str}{v:V}{u:Value}{Q:Unit->Shared->Prop}(I:aK X ae σ H s)(hN:X.N.Nodup)(hi:X.N[i]?=some x)(hx:NY X.env.scope x)(r:bf v u)(h:∀s',aK X ae (σ.set i (some v)) H s'->(∃a,Heap.SameBut a s.heap s'.heap/\(a=X.env.locals\/X.env.cells.lookup x=some a))->Q () s')(hf:X.fn x=true\/X.env.scope.names.lookup x=some .local:=by first|exact .inl rfl|exact .inr rfl|assumption):wpAny M A (storeName X.env x u) Q E s:=by
 obtain⟨m,hn,hl⟩:=id I.loc;have Tp:(X.env.scope.kind==.class||(X.env.scope.kind==.module&&X.env.locals != X.env.globals))=false:=by rw[I.ok.kind];rfl
 have hiσ:i<σ.length:=by rw[I.len];exact(cK.mp hi).1
 have IZ:=I.IZ;have zK:∀ {a:Addr} {h':Heap},(∃o,s.heap.get? a=some o/\H a=none)->Heap.SameBut a s.heap h'->iP X.prog X.w H h':=fun {a h'} ha hs b ob e=>by
  obtain⟨_,_,I_⟩:=ha;refine(I.bC b ob e).oG (fun c w' hc q=>(hs.2 c ?_).trans q) (fun _ q=>q) fun _ _ q=>q;rintro rfl;rcases hc with rfl|hc
  .rw[I_] at e;cases e
  .rw[I_] at hc;cases hc
 rcases hx with hk|hk
 .refine wpAny_storeName_local hk hn (fun h' Xp hs=>?_) Tp;obtain⟨oL,_,_,Ja,_⟩:=id hn;refine h _ ⟨I.ok,I.os,I.bare,⟨fun b o e n hb hx=>?_,fun b o e n hb hx=>?_,I.base.free,fun b o e hx=>?_,I.base.lH,I.base.ng,I.base.nq⟩,⟨_,Xp,fun j y v' e1 e2 e3=>?_⟩,fun y c e=>?_,I.free,I.jF,fun p hp=>?_,zK ⟨oL,Ja,I.free⟩ hs,by simpa using I.len⟩ ⟨_,hs,.inl rfl⟩
  .exact(hs.2 b (aW (bU (aX e) I.ok.above))).trans (I.base.keep b o e n hb hx)
  .obtain⟨sl,e1⟩:=I.base.slot b o e n hb hx;exact⟨sl,(hs.2 b (aW (bU (aX e) I.ok.above))).trans e1⟩
  .obtain⟨o',e1⟩:=I.base.there b o e hx;exact⟨o',(hs.2 b (aW (bU (aX e) I.ok.above))).trans e1⟩
  .by_cases hj:j=i
   .subst hj;rw[hi] at e1;cases e1;rw[pI hiσ] at e2;cases e2;exact⟨u,r,.inl ⟨hk,by simp⟩⟩
   .rw[tO (Ne.symm hj)] at e2;obtain⟨u',r',q⟩:=hl j y v' e1 e2 e3;refine⟨u',r',?_⟩;rcases q with ⟨k,e⟩|⟨k,c,e,z⟩
    .refine .inl ⟨k,?_⟩;have:y≠x:=fun e=>hj (vF hN e1 (e ▸ hi));simp[this,e]
    .exact .inr ⟨k,c,e,z.sameBut hs (IZ y c e)⟩
  .obtain⟨w',z⟩:=I.cell y c e;exact⟨w',z.sameBut hs (IZ y c e)⟩
  .obtain⟨e,n,ne,nf,d⟩:=I.pin p hp;exact⟨(hs.2 p.1 ne).trans e,n,ne,nf,d⟩
 .have N2:X.fn x=true:=by
   rcases hf with z|z
   .exact z
   .rw[z] at hk;cases hk
  obtain⟨c,hc⟩:=I.ok.has x (.inl hk);obtain⟨w',z⟩:=I.cell x c hc;refine wpAny_storeName_cell I.ok.kind hk hc z (fun h' FX hs=>?_);obtain⟨oc,RL,Tq⟩:=id z;refine h { s with heap:=h' } ⟨I.ok,I.os,I.bare,⟨fun b o e n hb hx=>?_,fun b o e n hb hx=>?_,I.base.free,fun b o e hx=>?_,I.base.lH,I.base.ng,I.base.nq⟩,⟨m,hn.sameBut hs (Ne.symm (IZ x c hc)),fun j y v' e1 e2 e3=>?_⟩,fun y c' e=>?_,I.free,I.jF,fun p hp=>?_,zK ⟨oc,RL,I.jF x c hc⟩ hs,by simpa using I.len⟩ ⟨c,hs,.inr hc⟩
  .exact(hs.2 b (aW (bU (aX e) (I.ok.Nj x c N2 hc)))).trans (I.base.keep b o e n hb hx)
  .obtain⟨sl,e1⟩:=I.base.slot b o e n hb hx;exact⟨sl,(hs.2 b (aW (bU (aX e) (I.ok.Nj x c N2 hc)))).trans e1⟩
  .obtain⟨o',e1⟩:=I.base.there b o e hx;exact⟨o',(hs.2 b (aW (bU (aX e) (I.ok.Nj x c N2 hc)))).trans e1⟩
  .by_cases hj:j=i
   .subst hj;rw[hi] at e1;cases e1;rw[pI hiσ] at e2;cases e2;exact⟨u,r,.inr ⟨.inl hk,c,hc,FX⟩⟩
   .rw[tO (Ne.symm hj)] at e2;obtain⟨u',r',q⟩:=hl j y v' e1 e2 e3;refine⟨u',r',?_⟩;rcases q with q|⟨k,c',e,z'⟩
    .exact .inl q
    .refine .inr ⟨k,c',e,z'.sameBut hs ?_⟩;rintro rfl;exact hj (vF hN e1 (I.ok.inj _ _ _ e hc ▸ hi))
  .by_cases Xq:c'=c
   .subst Xq;exact⟨_,FX⟩
   .obtain⟨w2,z2⟩:=I.cell y c' e;exact⟨w2,z2.sameBut hs Xq⟩
  .obtain⟨e,n,ne,nf,d⟩:=I.pin p hp;refine⟨(hs.2 p.1 ?_).trans e,n,ne,nf,d⟩;intro q;rw[q,RL] at e;have q':oc=p.2:=aY e;exact d w' (by rw[<-q'];exact Tq)
theorem qa(I:aK X ae σ H s)(hN:X.N.Nodup)(hi:X.N[i]?=some x)(hx:NY X.env.scope x)(r:bf v u)(h:∀s',aK X ae (σ.set i (some v)) H s'->Q () s')(hf:X.fn x=true\/X.env.scope.names.lookup x=some .local:=by first|exact .inl rfl|exact .inr rfl|assumption):wpAny M A (storeName X.env x u) Q E s:=
 rT I hN hi hx r (fun s' I' _=>h s' I') hf
theorem aK.Jb(I:aK X ae σ H s)(ho:s'.os=s.os)(u:Un (A_ X.stack) ch H H' s.heap s'.heap)(bC:iP X.prog X.w H' s'.heap)(hg:AllBare s'.gens)(FB:∀b∈ch,(b∈X.ex\/X.s₀.heap.objs.size<=b)/\b≠X.env.locals/\(∀x c,X.env.cells.lookup x=some c->c≠b)/\∀p∈X.pn++ae,p.1≠b):aK X ae σ H' s':=by
 obtain⟨h',g',d',t',o'⟩:=s';have e:o'=s.os:=ho;subst e;exact I.call (g':=g') (t':=t') (d':=d') u bC hg FB
end
abbrev XK:=Value->Option Addr->Hp->Prop
abbrev St:=List (Option V)
abbrev VK:=V->Hp->Prop
abbrev TE:=St->Hp->VK->Prop
abbrev TT:=St->Hp->(Bool->Hp->Prop)->Prop
abbrev TA:=St->Hp->(List V->Hp->Prop)->Prop
structure vG where
 nx:St->Hp->Prop
 rt:VK
 bk:St->Hp->Prop:=fun _ _=>False
 ct:St->Hp->Prop:=fun _ _=>False
abbrev TS:=vG->St->Hp->Prop
def EP(X:Cx)(ae:List (Addr×Obj))(σ:St)(Q:VK)(u:Value)(s':Shared):Prop:=∃v H',aK X ae σ H' s'/\bf v u/\Q v H'
def TP(X:Cx)(ae:List (Addr×Obj))(σ:St)(Q:Bool->Hp->Prop)(b:Bool)(s':Shared):Prop:=∃H',aK X ae σ H' s'/\Q b H'
def AP(X:Cx)(ae:List (Addr×Obj))(σ:St)(Q:List V->Hp->Prop)(us:List Value)(s':Shared):Prop:=∃vs H',aK X ae σ H' s'/\aV vs us/\Q vs H'
def SP(X:Cx)(ae:List (Addr×Obj))(D:vG)(f:Flow)(s':Shared):Prop:=
 match f with
 |.next=>∃σ' H',aK X ae σ' H' s'/\D.nx σ' H'
 |.brk=>∃σ' H',aK X ae σ' H' s'/\D.bk σ' H'
 |.cont=>∃σ' H',aK X ae σ' H' s'/\D.ct σ' H'
 |.ret u=>∃v σ' H',aK X ae σ' H' s'/\bf v u/\D.rt v H'
def PE(X:Cx)(e:Expr)(t:TE):Prop:=
 ∀ (ae:List (Addr×Obj)) (s:Shared) (σ:St) (H:Hp) (Q:VK),aK X ae σ H s->t σ H Q->wpAny (model X.prog X.w) X.A (eval e X.env) (EP X ae σ Q) X.xe s
def PT(X:Cx)(e:Expr)(t:TT):Prop:=
 ∀ (ae:List (Addr×Obj)) (s:Shared) (σ:St) (H:Hp) (Q:Bool->Hp->Prop),aK X ae σ H s->t σ H Q->wpAny (model X.prog X.w) X.A (isTrue e X.env (eval e X.env)) (TP X ae σ Q) X.xe s
def PW(X:Cx)(e:Expr)(t:TT):Prop:=
 ∀ (zL:Sem Value) (ae:List (Addr×Obj)) (s:Shared) (σ:St) (H:Hp) (Q:Bool->Hp->Prop),aK X ae σ H s->t σ H Q->wpAny (model X.prog X.w) X.A (isTrue e X.env zL) (TP X ae σ Q) X.xe s
theorem PW.pt(h:PW X e t):PT X e t:=h _
def PA(X:Cx)(es:List Expr)(t:TA):Prop:=
 ∀ (pos:Pos) (ae:List (Addr×Obj)) (s:Shared) (σ:St) (H:Hp) (Q:List V->Hp->Prop),aK X ae σ H s->t σ H Q->wpAny (model X.prog X.w) X.A (spliced (backTo pos (starEach es X.env))) (AP X ae σ Q) X.xe s
def PS(X:Cx)(st:Stmt)(t:TS):Prop:=
 ∀ (ae:List (Addr×Obj)) (s:Shared) (σ:St) (H:Hp) (D:vG),aK X ae σ H s->t D σ H->wpAny (model X.prog X.w) X.A (exec st X.env) (SP X ae D) X.xe s
def yp(X:Cx)(st:List Stmt)(t:TS):Prop:=
 ∀ (ae:List (Addr×Obj)) (s:Shared) (σ:St) (H:Hp) (D:vG),aK X ae σ H s->t D σ H->wpAny (model X.prog X.w) X.A (execs st X.env) (SP X ae D) X.xe s
theorem bZ(h:wpAny M A t Q E s)(hQ:∀a s,Q a s->Q' a s):wpAny M A t Q' E s:=ic h hQ fun _ _ x=>x
section
variable {X:Cx}
def be(i:Nat):TE:=fun σ H Q=>∃v,σ[i]?=some (some v)/\Q v H
def tC(v:V):TE:=fun _ H Q=>Q v H
theorem Ki(hN:X.N[i]?=some x)(hv:NX X.env.scope x)(hd:(x==("__debug__":Str))=false:=by decide)(rV:(x==("__classdict__":Str))=false:=by decide):PE X (.Name x pos) (be i):=by
 intro ae s σ H Q I h;obtain⟨v,e,h⟩:=h;obtain⟨m,hn,hl⟩:=I.loc;obtain⟨u,r,l⟩:=hl i x v hN e hv;have fin:EP X ae σ Q u s:=⟨v,H,I,r,h⟩
 rcases l with ⟨hk,hm⟩|⟨hk,c,hc,zM⟩
 .exact m8 (xW I.ok.kind hk hn hm fin) hd
 .rcases hk with hk|hk
  .exact m8 (wpAny_loadName_cell I.ok.kind hk hc zM fin) hd
  .exact m8 (x_ I.ok.kind hk hc zM fin rV) hd
theorem aq{i j pos}:PE X (.Constant (.int i) j pos) (tC (.int i)):=fun _ _ _ H _ I h=>wpAny_Constant_int ⟨.int i,H,I.tok _,⟨_,rfl⟩,h⟩
theorem fP{b j pos}:PE X (.Constant (.bool b) j pos) (tC (.bl b)):=fun _ _ _ H _ I h=>Constant_bool ⟨.bl b,H,I,rfl,h⟩
theorem ce{j pos}:PE X (.Constant .none j pos) (tC .bJ):=fun _ _ _ H _ I h=>Constant_none ⟨.bJ,H,I,rfl,h⟩
def Gl(X:Cx)(x:Str):Prop:=X.env.kindOf x=some .globalImplicit
theorem oX(I:aK X ae σ H s)(hg:Gl X x)(hm:X.mg x=some u)(h:Q u s)(hd:(x==("__debug__":Str))=false:=by decide):wpAny (model X.prog X.w) X.A (eval (.Name x pos) X.env) Q E s:=
 Calls.Name_function_global I.ok.kind hg (Calls.loadGlobal_global (by rw[I.ok.glob];exact I.mod.glob.keeps I.bk) hm h) hd
theorem jG(I:aK X ae σ H s)(hg:Gl X x)(hm:X.mg x=none)(hv:bootBuiltins x=some u)(h:Q u s)(hn:x≠"__name__":=by decide)(hd:(x==("__debug__":Str))=false:=by decide):wpAny (model X.prog X.w) X.A (eval (.Name x pos) X.env) Q E s:=by
 obtain⟨mb,h1,h2⟩:=I.mod.blt;exact Calls.Name_function_global I.ok.kind hg (Calls.loadGlobal_builtin (by rw[I.ok.glob];exact I.mod.glob.keeps I.bk) hm (by rw[I.ok.blt];exact h1.keeps I.bk) ((h2 x hn).trans hv) h) hd
theorem uj(hg:Gl X x)(hm:X.mg x=some u)(r:bf v u)(hd:(x==("__debug__":Str))=false:=by decide):PE X (.Name x pos) (tC v):=
 fun _ _ _ H _ I h=>oX I hg hm ⟨v,H,I,r,h⟩ hd
theorem fH(hg:Gl X x)(hm:X.mg x=none)(hv:bootBuiltins x=some u)(r:bf v u)(hn:x≠"__name__":=by decide)(hd:(x==("__debug__":Str))=false:=by decide):PE X (.Name x pos) (tC v):=
 fun _ _ _ H _ I h=>jG I hg hm hv ⟨v,H,I,r,h⟩ hn hd
variable {a b:Expr} {ta tb:TE} {pos:Pos}
def PC(X:Cx)(op:CmpOp)(a b:Expr)(t:TE):Prop:=
 ∀ (ae:List (Addr×Obj)) (s:Shared) (σ:St) (H:Hp) (Q:VK),aK X ae σ H s->t σ H Q->
  wpAny (model X.prog X.w) X.A (eval a X.env) (fun v s₁=>wpAny (model X.prog X.w) X.A (eval b X.env) (fun u s₂=>wpAny (model X.prog X.w) X.A (compareOp op v u) (EP X ae σ Q) X.xe s₂) X.xe s₁) X.xe s
theorem vH(b:Expr){op:CmpOp}(h:op≠.In)(h2:op≠.NotIn):behindInMarks op b=false:=by
 have e1:(op==CmpOp.In)=false:=by cases op <;> first|rfl|exact absurd rfl h
 have e2:(op==CmpOp.NotIn)=false:=by cases op <;> first|rfl|exact absurd rfl h2
 cases b <;> simp[behindInMarks,e1,e2]
def N3(ta:TE):TE:=fun σ H Q=>ta σ H fun x H1=>Q (.bl (decide (x=.bJ))) H1
def N4(ta:TE):TE:=fun σ H Q=>ta σ H fun x H1=>Q (.bl (!decide (x=.bJ))) H1
theorem bf.vI{x:V}{v:Value}(r:bf x v):(v==Value.none)=decide (x=.bJ):=by
 cases x with
 |bJ=>cases r;rfl
 |bl _=>cases r;rfl
 |int _=>obtain⟨t,rfl⟩:=r;rfl
 |str _=>obtain⟨t,rfl⟩:=r;rfl
 |A8 _=>obtain⟨t,rfl⟩:=r;rfl
 |IY _=>obtain⟨t,rfl⟩:=r;rfl
 |ref _=>cases r;rfl
 |ty _=>cases r;rfl
theorem Kj{j oH}(ha:PE X a ta):PC X .Is a (.Constant .none j oH) (N3 ta):=by
 intro ae s σ H Q I h;refine bZ (ha ae s σ H _ I h) fun v s1 ⟨x,H1,I1,r1,q1⟩=>?_;exact Constant_none (is_none_gen ⟨.bl _,H1,I1,by rw[r1.vI];rfl,q1⟩)
theorem FY{j oH}(ha:PE X a ta):PC X .IsNot a (.Constant .none j oH) (N4 ta):=by
 intro ae s σ H Q I h;refine bZ (ha ae s σ H _ I h) fun v s1 ⟨x,H1,I1,r1,q1⟩=>?_;exact Constant_none (isnot_none_gen ⟨.bl _,H1,I1,by rw[r1.vI];rfl,q1⟩)
def tB(t:TE):TT:=fun σ H Q=>t σ H fun x H1=>∃c,x=.bl c/\Q c H1
theorem Kk{op:CmpOp}{t:TE}(h:PC X op a b t)(h1:behindInMarks op b=false:=by first|exact vH _ (by decide) (by decide)|rfl):PE X (.Compare a [op] [b] pos) t:=fun ae s σ H Q I hw=>wpAny_Compare1 (h ae s σ H Q I hw) h1
theorem uk(h:PC X op a b t)(h1:behindInMarks op b=false:=by first|exact vH _ (by decide) (by decide)|rfl):PT X (.Compare a [op] [b] pos) (tB t):=by
 intro ae s σ H Q I hw;refine wpAny_isTrue_Compare1 (bZ (h ae s σ H _ I hw) fun v s1 h1=>bZ h1 fun u s2 h2=>bZ h2 fun c s3 ⟨x,H1,I1,r1,q1⟩=>?_) h1;obtain⟨d,rfl,q⟩:=q1;cases r1;exact m3 ⟨H1,I1,q⟩
theorem dB(h:PE X e t)(he:∀zL,isTrue e X.env zL=(do let v <- zL;standAt e.pos;holding [v] (truthy v)):=by intro _;rfl):PT X e (tB t):=by
 intro ae s σ H Q I hw;refine isTrue_plain (bZ (h ae s σ H _ I hw) fun v s1 ⟨x,H1,I1,r1,q1⟩=>?_) (he _);obtain⟨d,rfl,q⟩:=q1;cases r1;exact m3 ⟨H1,I1,q⟩
variable {tA RM:TT} {oI:List Expr}
def N7(t u:TT):TT:=fun σ H Q=>t σ H fun c H1=>if c=true then u σ H1 Q else Q false H1
def Xr(t u:TT):TT:=fun σ H Q=>t σ H fun c H1=>if c=true then Q true H1 else u σ H1 Q
def Tr(t:TT):TT:=fun σ H Q=>t σ H fun c H1=>Q (!c) H1
theorem uo(ha:PT X a tA):PW X (.BoolOp .And [a] pos) tA:=by
 intro wh ae s σ H Q I h;refine isTrue_and (bZ (ha ae s σ H Q I h) fun c s1 e=>?_);cases c with
 |true=>exact isTrue_and_nil e
 |false=>exact e
theorem lI(ha:PT X a tA):PW X (.BoolOp .Or [a] pos) tA:=by
 intro wh ae s σ H Q I h;refine isTrue_or (bZ (ha ae s σ H Q I h) fun c s1 e=>?_);cases c with
 |false=>exact isTrue_or_nil e
 |true=>exact e
theorem yq(ha:PT X a tA)(hb:PW X (.BoolOp .And (b::oI) pos) RM):PW X (.BoolOp .And (a::b::oI) pos) (N7 tA RM):=by
 intro wh ae s σ H Q I h;refine isTrue_and (bZ (ha ae s σ H _ I h) fun c s1 ⟨H1,I1,q1⟩=>?_);cases c with
 |true=>exact hb wh ae s1 σ H1 Q I1 q1
 |false=>exact⟨H1,I1,q1⟩
theorem oe(ha:PT X a tA)(hb:PW X (.BoolOp .Or (b::oI) pos) RM):PW X (.BoolOp .Or (a::b::oI) pos) (Xr tA RM):=by
 intro wh ae s σ H Q I h;refine isTrue_or (bZ (ha ae s σ H _ I h) fun c s1 ⟨H1,I1,q1⟩=>?_);cases c with
 |true=>exact⟨H1,I1,q1⟩
 |false=>exact hb wh ae s1 σ H1 Q I1 q1
theorem dW(ha:PT X a tA):PT X (.UnaryOp .Not a pos) (Tr tA):=by
 intro ae s σ H Q I h;exact isTrue_not (ha ae s σ H (fun c H1=>Q (!c) H1) I h)
def Jc(ta tb:TE):TE:=fun σ H Q=>ta σ H fun x H1=>∃c,x=.bl c/\if c=true then tb σ H1 Q else Q (.bl false) H1
def Jd(ta:TE):TE:=fun σ H Q=>ta σ H fun x H1=>∃c,x=.bl c/\Q (.bl (!c)) H1
theorem fY{op}(h:PE X a t):PE X (.BoolOp op [a] pos) t:=fun ae s σ H Q I hw=>BoolOp_one (h ae s σ H Q I hw)
theorem ff(ha:PE X a ta)(hb:PE X (.BoolOp .And (b::oI) pos) tb):PE X (.BoolOp .And (a::b::oI) pos) (Jc ta tb):=by
 intro ae s σ H Q I h;refine BoolOp_and (bZ (ha ae s σ H _ I h) fun v s1 ⟨x,H1,I1,r1,q1⟩=>?_);obtain⟨c,rfl,q1⟩:=q1;cases r1;refine m3 ?_;cases c with
 |true=>exact hb ae s1 σ H1 Q I1 q1
 |false=>exact⟨.bl false,H1,I1,rfl,q1⟩
theorem yr(ha:PE X a ta):PE X (.UnaryOp .Not a pos) (Jd ta):=by
 intro ae s σ H Q I h;refine UnaryOp_ (bZ (ha ae s σ H _ I h) fun v s1 ⟨x,H1,I1,r1,q1⟩=>?_);obtain⟨c,rfl,q1⟩:=q1;cases r1;exact not_of (m3 ⟨.bl (!c),H1,I1,rfl,q1⟩)
def Xs(t:TT)(ta tb:TE):TE:=fun σ H Q=>t σ H fun c H1=>if c=true then ta σ H1 Q else tb σ H1 Q
theorem vJ(hc:PT X c tA)(ha:PE X a ta)(hb:PE X b tb):PE X (.IfExp c a b pos) (Xs tA ta tb):=by
 intro ae s σ H Q I h;refine wpAny_IfExp (bZ (hc ae s σ H _ I h) fun d s1 ⟨H1,I1,q1⟩=>?_);cases d with
 |true=>exact ha ae s1 σ H1 Q I1 q1
 |false=>exact hb ae s1 σ H1 Q I1 q1
end
def aT(K:PySem.W.Frag)(H:Hp)(a:Addr)(xs:List V):Prop:=
 Rd H a (.lst xs)\/
  ∃ (o:Obj) (its:Array Value) (n:Nat),K.lookup a=some o/\o.cls=.type "list"/\o.dict=none/\o.data=.seq its n/\its.size<=sizeLine/\aV xs its.toList
def cx(K:PySem.W.Frag)(H:Hp)(a:Addr)(xs:List V):Prop:=
 Rd H a (.tup xs)\/
  ∃ (o:Obj) (its:Array Value) (n:Nat),K.lookup a=some o/\o.cls=.type "tuple"/\o.data=.seq its n/\its.size<=sizeLine/\aV xs its.toList
def Tt:Value->Option V
 |.none=>some .bJ
 |.bool b=>some (.bl b)
 |.int i _=>some (.int i)
 |.str x _=>some (.str x)
 |.bytes b _=>some (.A8 b)
 |.float b _=>some (.IY b)
 |.ref a=>some (.ref a)
 |.type n=>some (.ty n)
 |_=>none
theorem bf.abs(r:bf x u):Tt u=some x:=by
 cases x with
 |bJ=>cases r;rfl
 |bl _=>cases r;rfl
 |int _=>obtain⟨t,rfl⟩:=r;rfl
 |str _=>obtain⟨t,rfl⟩:=r;rfl
 |A8 _=>obtain⟨t,rfl⟩:=r;rfl
 |IY _=>obtain⟨t,rfl⟩:=r;rfl
 |ref _=>cases r;rfl
 |ty _=>cases r;rfl
theorem bf.inj(r:bf x u)(q:bf y u):x=y:=aY (r.abs.symm.trans q.abs)
theorem aV.inj:∀ {xs ys:List V} {us:List Value},aV xs us->aV ys us->xs=ys
 |_,_,_,.nil,.nil=>rfl
 |_,_,_,.cons r t,.cons r' t'=>by rw[r.inj r',aV.inj t t']
section
variable {X:Cx} {ae:List (Addr×Obj)} {σ:St} {H:Hp} {s:Shared} {a:Addr} {xs ys:List V}
theorem aT.of{K:PySem.W.Frag}(h:H a=some (.lst xs)):aT K H a xs:=.inl (.inl h)
theorem cx.of{K:PySem.W.Frag}(h:H a=some (.tup xs)):cx K H a xs:=.inl (.inl h)
theorem aK.list(I:aK X ae σ H s)(h:aT X.K H a xs):∃its:List Value,aV xs its/\PlainL s.heap a its.toArray/\xs.length<=sizeLine:=by
 rcases h with h|⟨o,its,n,hk,hc,hd,hs,hz,r⟩
 .obtain⟨z,its,n,r,e⟩:=h.ok I.bC;exact⟨its,r,⟨_,n,e,rfl,rfl,rfl⟩,z⟩
 .refine⟨its.toList,r,⟨o,n,I.nt a o hk,hc,hd,by simpa using hs⟩,?_⟩;have e:=r.length;simp only[ip] at e;lia
theorem aK.tuple(I:aK X ae σ H s)(h:cx X.K H a xs):∃its:List Value,aV xs its/\IsTup s.heap a its.toArray/\xs.length<=sizeLine:=by
 rcases h with h|⟨o,its,n,hk,hc,hs,hz,r⟩
 .obtain⟨z,its,r,p⟩:=h.ok I.bC;exact⟨its,r,p.tup,z⟩
 .refine⟨its.toList,r,⟨o,I.nt a o hk,hc,n,by simpa using hs⟩,?_⟩;have e:=r.length;simp only[ip] at e;lia
theorem aK.vK(I:aK X ae σ H s)(h:aT X.K H a xs)(h':aT X.K H a ys):xs=ys:=by
 obtain⟨its,r,⟨o,n,e,_,_,d⟩,_⟩:=I.list h;obtain⟨its',r',⟨o',n',e',_,_,d'⟩,_⟩:=I.list h';rw[e] at e';cases e';rw[d] at d';injection d' with d1 _;have:its=its':=by simpa using congrArg Array.toList d1
 subst this;exact r.inj r'
theorem aK.rW(I:aK X ae σ H s)(h:cx X.K H a xs)(h':cx X.K H a ys):xs=ys:=by
 obtain⟨its,r,⟨o,e,_,n,d⟩,_⟩:=I.tuple h;obtain⟨its',r',⟨o',e',_,n',d'⟩,_⟩:=I.tuple h';rw[e] at e';cases e';rw[d] at d';injection d' with d1 _;have:its=its':=by simpa using congrArg Array.toList d1
 subst this;exact r.inj r'
end
abbrev Cx.rC(X:Cx)(E:Value->Shared->Prop):Cx:={ X with xe:=E }
abbrev Cx.Je(X:Cx):Cx:=X.rC fun _ _=>False
theorem Cx.Ok.rC{X:Cx}(ok:X.Ok)(E:Value->Shared->Prop):(X.rC E).Ok:=
 ⟨ok.mod,ok.kind,ok.glob,ok.blt,ok.above,ok.inj,ok.has,ok.Nj,ok.hd,ok.frames,ok.Nk,ok.Ti,ok.bs,ok.Cn,ok.CO,ok.FW,ok.nr,ok.Ke⟩
theorem Cx.Ok.jH{X:Cx}{E:Value->Shared->Prop}(ok:(X.rC E).Ok):X.Ok:=
 ⟨ok.mod,ok.kind,ok.glob,ok.blt,ok.above,ok.inj,ok.has,ok.Nj,ok.hd,ok.frames,ok.Nk,ok.Ti,ok.bs,ok.Cn,ok.CO,ok.FW,ok.nr,ok.Ke⟩
section
variable {X:Cx} {ae:List (Addr×Obj)} {σ:St} {H:Hp} {s:Shared} {E:Value->Shared->Prop}
theorem aK.rC(I:aK X ae σ H s)(E:Value->Shared->Prop):aK (X.rC E) ae σ H s:=⟨I.ok.rC E,I.os,I.bare,I.base,I.loc,I.cell,I.free,I.jF,I.pin,I.bC,I.len⟩
theorem aK.jH(I:aK (X.rC E) ae σ H s):aK X ae σ H s:=⟨I.ok.jH,I.os,I.bare,I.base,I.loc,I.cell,I.free,I.jF,I.pin,I.bC,I.len⟩
theorem SP.jH(h:SP (X.rC E) ae D f s'):SP X ae D f s':=by
 cases f with
 |next=>obtain⟨σ',H',I,q⟩:=h;exact⟨σ',H',I.jH,q⟩
 |brk=>obtain⟨σ',H',I,q⟩:=h;exact⟨σ',H',I.jH,q⟩
 |cont=>obtain⟨σ',H',I,q⟩:=h;exact⟨σ',H',I.jH,q⟩
 |ret u=>obtain⟨v,σ',H',I,r,q⟩:=h;exact⟨v,σ',H',I.jH,r,q⟩
theorem yp.Je{st:List Stmt}{t:TS}(h:yp X.Je st t):yp X st t:=fun ae s σ H D I hw=>
 ic (h ae s σ H D (I.rC _) hw) (fun _ _ q=>q.jH) fun _ _ z=>False.elim z
end
section
variable {X:Cx} {st:Stmt} {oI:List Stmt} {t u:TS} {e:Expr} {te:TE} {pos:Pos}
def N_:TS:=fun D σ H=>D.nx σ H
def Tv(t u:TS):TS:=fun D σ H=>t { D with nx:=u D } σ H
theorem aQ:yp X [] N_:=fun _ _ σ H _ I h=>ub ⟨σ,H,I,h⟩
theorem ah(h1:PS X st t)(h2:yp X oI u):yp X (st::oI) (Tv t u):=by
 intro ae s σ H D I h;refine wpAny_execs_cons (bZ (h1 ae s σ H { D with nx:=u D } I h) fun f s1 q=>?_);cases f with
 |next=>
  obtain⟨σ',H',I',q⟩:=q;exact h2 ae s1 σ' H' D I' q
 |ret v=>exact q
 |brk=>exact q
 |cont=>exact q
theorem al(h1:PS X st t):yp X [st] t:=by
 intro ae s σ H D I h;refine wpAny_execs_cons (bZ (h1 ae s σ H D I h) fun f s1 q=>?_);cases f with
 |next=>exact ub q
 |ret v=>exact q
 |brk=>exact q
 |cont=>exact q
theorem aK.quiet(I:aK X ae σ H s):interactive X.env=false:=by simp[interactive,I.ok.kind]
def Oa(te:TE):TS:=fun D σ H=>te σ H fun _ H1=>D.nx σ H1
theorem cP(he:PE X e te)(hs:swapsWith e none pos.line X.env=pure false:=by rfl):PS X (.Expr e pos) (Oa te):=by
 intro ae s σ H D I h;exact wpAny_Expr_any (bZ (he ae s σ H _ I h) fun v s1 ⟨x,H1,I1,r1,q1⟩=>⟨σ,H1,I1,q1⟩) I.quiet hs
def Tw(te:TE):TS:=fun D σ H=>te σ H D.rt
theorem aF(he:PE X e te):PS X (.Return (some e) pos) (Tw te):=by
 intro ae s σ H D I h;exact wpAny_Return_some (bZ (he ae s σ H _ I h) fun v s1 ⟨x,H1,I1,r1,q1⟩=>⟨x,σ,H1,I1,r1,q1⟩)
def Tx(c:TT)(t u:TS):TS:=fun D σ H=>c σ H fun b H1=>if b=true then t D σ H1 else u D σ H1
theorem bA(hc:PT X c tc)(ha:yp X a t)(hb:yp X b u):PS X (.If c a b pos) (Tx tc t u):=by
 intro ae s σ H D I h;refine wpAny_If (bZ (hc ae s σ H _ I h) fun d s1 ⟨H1,I1,q1⟩=>?_);cases d with
 |true=>exact ha ae s1 σ H1 D I1 q1
 |false=>exact hb ae s1 σ H1 D I1 q1
def Kl:TS:=fun _ _ _=>False
theorem dL:yp X sts Kl:=fun _ _ _ _ _ _ h=>h.elim
end
abbrev TG:=V->St->Hp->(St->Hp->Prop)->Prop
abbrev Ob:=List V->St->Hp->(St->Hp->Prop)->Prop
def PG(X:Cx)(Km:Expr)(t:TG):Prop:=
 ∀ (ae:List (Addr×Obj)) (s:Shared) (σ:St) (H:Hp) (v:V) (u:Value) (Q:St->Hp->Prop),aK X ae σ H s->bf v u->t v σ H Q->
  wpAny (model X.prog X.w) X.A (assign Km X.env u) (fun _ s'=>∃σ' H',aK X ae σ' H' s'/\Q σ' H') X.xe s
def RN(X:Cx)(ts:List Expr)(t:Ob):Prop:=
 ∀ (ae:List (Addr×Obj)) (s:Shared) (σ:St) (H:Hp) (vs:List V) (us:List Value) (Q:St->Hp->Prop),aK X ae σ H s->aV vs us->t vs σ H Q->
  wpAny (model X.prog X.w) X.A (assignInOrder ((assignEach ts X.env).map (·.2)) us) (fun _ s'=>∃σ' H',aK X ae σ' H' s'/\Q σ' H') X.xe s
abbrev Oc:=V->V->V->Hp->(Hp->Prop)->Prop
def Od(X:Cx)(t:Oc):Prop:=
 ∀ (ae:List (Addr×Obj)) (s:Shared) (σ:St) (H:Hp) (o i v:V) (ov iv u:Value) (Q:Hp->Prop),aK X ae σ H s->bf o ov->bf i iv->bf v u->t o i v H Q->
  wpAny (model X.prog X.w) X.A (setItem ov iv u) (fun _ s'=>∃H',aK X ae σ H' s'/\Q H') X.xe s
abbrev Tz:=V->V->Hp->VK->Prop
def Xt(X:Cx)(op:Operator)(t:Tz):Prop:=
 ∀ (ae:List (Addr×Obj)) (s:Shared) (σ:St) (H:Hp) (x y:V) (v u:Value) (Q:VK),aK X ae σ H s->bf x v->bf y u->t x y H Q->
  wpAny (model X.prog X.w) X.A (inplaceOp op v u) (EP X ae σ Q) X.xe s
section
variable {X:Cx} {pos:Pos}
def bD(i:Nat):TG:=fun v σ H Q=>Q (σ.set i (some v)) H
theorem aB(hN:X.N.Nodup)(hi:X.N[i]?=some x)(hx:NY X.env.scope x)(hf:X.fn x=true\/X.env.scope.names.lookup x=some .local:=by first|exact .inl rfl|exact .inr rfl|assumption):PG X (.Name x pos) (bD i):=by
 intro ae s σ H v u Q I r h;exact wpAny_assign_Name (qa I hN hi hx r (fun s' I'=>⟨_,H,I',h⟩) hf)
def uq:Ob:=fun vs σ H Q=>vs=[]/\Q σ H
def fQ(t:TG)(u:Ob):Ob:=fun vs σ H Q=>∃v r,vs=v::r/\t v σ H fun σ' H'=>u r σ' H' Q
theorem d_:RN X [] uq:=by
 intro ae s σ H vs us Q I r h;obtain⟨e,h⟩:=h;subst e;cases r;exact assignInOrder_nil ⟨σ,H,I,h⟩
theorem a_(h1:PG X e t)(h2:RN X es u)(hs:(assignEach (e::es) X.env).map (·.2)=assign e X.env::(assignEach es X.env).map (·.2):=by rfl):RN X (e::es) (fQ t u):=by
 intro ae s σ H vs us Q I r h;obtain⟨v,vr,e1,h⟩:=h;subst e1;cases r with
 |cons r rr=>
  rw[hs];refine assignInOrder_cons (bZ (h1 ae s σ H _ _ _ I r h) fun _ s1 ⟨σ1,H1,I1,q1⟩=>?_);exact h2 ae s1 σ1 H1 _ _ Q I1 rr q1
def ur(K:PySem.W.Frag)(n:Nat)(t:Ob):TG:=fun v σ H Q=>∃a xs,v=.ref a/\cx K H a xs/\xs.length=n/\t xs σ H Q
theorem fD(hc:X.calm=true)(h:RN X es t)(hn:(assignEach es X.env).length=n:=by rfl)(nu:(assignEach es X.env).findIdx? (·.1)=none:=by rfl):PG X (.Tuple es k pos) (ur X.K n t):=by
 intro ae s σ H v u Q I r hw;obtain⟨a,xs,e1,hq,hl,hw⟩:=hw;subst e1;cases r;obtain⟨its,rv,ht,hz⟩:=I.tuple hq;refine assign_Tuple_tuple (I.ok.hd hc) ht (by simp[hn,<-hl,rv.length]) nu fun h' hx=>?_;have I1:aK X ae σ H { s with heap:=h' }:=I.kept (t':=s.toks) fun b o e=>hx b o (aW (aX e)) e;exact h ae _ σ H xs _ Q I1 (by simpa using rv) hw
def TB(to ti:TE)(t:Oc):TG:=fun v σ H Q=>to σ H fun o H1=>ti σ H1 fun i H2=>t o i v H2 fun H3=>Q σ H3
theorem nw(ho:PE X o to)(hi:PE X i ti)(hs:Od X t)(ha:∀v,assign (.Subscript o i pos) X.env v=(do
   let ov <- holding [v] (eval o X.env)
   let iv <- holding [v,ov] (eval i X.env)
   standAt pos
   holding [v,ov,iv] (setItem ov iv v)
   release [v,ov,iv] []):=by intro _;rfl):PG X (.Subscript o i pos) (TB to ti t):=by
 intro ae s σ H v u Q I r h;rw[ha];refine aI (jw (bZ (ho ae s σ H _ I h) fun ov s1 ⟨x,H1,I1,r1,q1⟩=>?_));refine aI (jw (bZ (hi ae s1 σ H1 _ I1 q1) fun iv s2 ⟨y,H2,I2,r2,q2⟩=>?_));refine aI (pY (aI (jw (bZ (hs ae s2 σ H2 x y v ov iv u _ I2 r1 r2 r q2) fun _ s3 ⟨H3,I3,q3⟩=>?_))));exact wpAny_release ⟨σ,H3,I3,q3⟩
def Kn(te:TE)(g:TG):TS:=fun D σ H=>te σ H fun x H1=>g x σ H1 D.nx
theorem iR(he:PE X e te)(hg:PG X tg g)(hs:swapsWithSole [tg] e pos.line X.env=pure false:=by rfl)(hw:swappedStores [tg] e X.env=pure none:=by rfl)(h1:(assignEach [tg] X.env).map (·.2)=[assign tg X.env]:=by rfl):PS X (.Assign [tg] e pos) (Kn te g):=by
 intro ae s σ H D I h;refine wpAny_Assign_stores (bZ (he ae s σ H _ I h) fun v s1 ⟨x,H1,I1,r1,q1⟩=>?_) hs hw;rw[h1];exact bZ (hg ae s1 σ H1 x v _ I1 r1 q1) fun _ s2 q=>q
theorem aO(hN:X.N.Nodup)(hi:X.N[i]?=some x)(hx:NY X.env.scope x)(he:PE X e te)(hs:swapsWith e (some (.Name x oH)) pos.line X.env=pure false:=by rfl)(hf:X.fn x=true\/X.env.scope.names.lookup x=some .local:=by first|exact .inl rfl|exact .inr rfl|assumption):
  PS X (.Assign [.Name x oH] e pos) (Kn te (bD i)):=by
 intro ae s σ H D I h;refine wpAny_Assign_Name (bZ (he ae s σ H _ I h) fun v s1 ⟨y,H1,I1,r1,q1⟩=>?_) hs;exact qa I1 hN hi hx r1 (fun s2 I2=>⟨_,H1,I2,q1⟩) hf
def TC(i:Nat)(te:TE)(ti:Tz):TS:=fun D σ H=>∃x,σ[i]?=some (some x)/\te σ H fun y H1=>ti x y H1 fun z H2=>D.nx (σ.set i (some z)) H2
theorem CQ(hN:X.N.Nodup)(hi:X.N[i]?=some x)(hx:NY X.env.scope x)(he:PE X e te)(ho:Xt X op ti)(hf:X.fn x=true\/X.env.scope.names.lookup x=some .local:=by first|exact .inl rfl|exact .inr rfl|assumption):
  PS X (.AugAssign (.Name x oH) op e pos) (TC i te ti):=by
 intro ae s σ H D I h;obtain⟨v,e1,h⟩:=h;obtain⟨m,hn,hl⟩:=I.loc;have TF:NX X.env.scope x:=by rcases hx with k|k;exact .inl k;exact .inr (.inl k)
 obtain⟨u,r,l⟩:=hl i x v hi e1 TF;refine wpAny_AugAssign_Name ?_;have go:wpAny (model X.prog X.w) X.A (eval e X.env) (fun w s₂=>wpAny (model X.prog X.w) X.A (inplaceOp op u w) (fun r s₃=>wpAny (model X.prog X.w) X.A (storeName X.env x r) (fun _=>SP X ae D .next) X.xe s₃) X.xe s₂) X.xe s:=by
  refine bZ (he ae s σ H _ I h) fun w s1 ⟨y,H1,I1,r1,q1⟩=>?_;refine bZ (ho ae s1 σ H1 v y u w _ I1 r r1 q1) fun z s2 ⟨zv,H2,I2,r2,q2⟩=>?_;exact qa I2 hN hi hx r2 (fun s3 I3=>⟨_,H2,I3,q2⟩) hf
 rcases l with ⟨hk,hm⟩|⟨hk,c,hc,zM⟩
 .exact xW I.ok.kind hk hn hm go
 .rcases hk with hk|hk
  .exact wpAny_loadName_cell I.ok.kind hk hc zM go
  .rcases hx with k|k
   .have:X.env.scope.names.lookup x=some .free:=hk;rw[k] at this;cases this
   .have:X.env.scope.names.lookup x=some .free:=hk;rw[k] at this;cases this
def Zn(f:Int->Int->Int):Tz:=fun x y H Q=>∃i j,x=.int i/\y=.int j/\Q (.int (f i j)) H
theorem CS:Xt X .Add (Zn fun i j=>i+j):=by
 intro ae s σ H x y v u Q I r1 r2 h;obtain⟨i,j,e1,e2,q⟩:=h;subst e1;subst e2;obtain⟨t,rfl⟩:=r1;obtain⟨t',rfl⟩:=r2;exact iadd_int ⟨.int _,H,I.tok _,⟨_,rfl⟩,q⟩
def CV(c:TT)(tb:TS):TS:=fun D σ H=>∃W:Nat->St->Hp->Prop,(∃m,W m σ H)/\∀m σ H,W m σ H->
 c σ H fun b H1=>if b=true then ∃N:St->Hp->Prop,(∀σ' H',N σ' H'->∃m',m'<m/\W m' σ' H')/\tb { D with nx:=N,ct:=N,bk:=D.nx } σ H1 else D.nx σ H1
theorem qb(hp:PassesOwn (model X.prog X.w) X.A X.env X.xe)(hc:PT X c tc)(hb:yp X body tb):PS X (.While c body [] pos) (CV tc tb):=by
 intro ae s σ H D I h;obtain⟨W,⟨m0,w0⟩,CW⟩:=h;refine wpAny_While (codeAny_whileLoop (fun n s'=>∃σ' H',aK X ae σ' H' s'/\W n σ' H') ?_ m0 ⟨σ,H,I,w0⟩);rintro n s1 ⟨σ1,H1,I1,w1⟩;refine lr hp (bZ (hc ae s1 σ1 H1 _ I1 (CW n σ1 H1 w1)) fun b s2 ⟨H2,I2,q2⟩=>?_);cases b with
 |true=>
  obtain⟨N,hN,q2⟩:=q2;rw[ao rfl];refine lr hp (bZ (hb ae s2 σ1 H2 _ I2 q2) fun f s3 q3=>?_);cases f with
  |next=>
   obtain⟨σ3,H3,I3,n3⟩:=q3;obtain⟨m',hm,w3⟩:=hN σ3 H3 n3;exact⟨m',hm,σ3,H3,I3,w3⟩
  |cont=>
   obtain⟨σ3,H3,I3,n3⟩:=q3;obtain⟨m',hm,w3⟩:=hN σ3 H3 n3;exact⟨m',hm,σ3,H3,I3,w3⟩
  |brk=>exact q3
  |ret v=>exact q3
 |false=>
  rw[ap cj];exact ub ⟨σ1,H2,I2,q2⟩
end
structure It where
 go:Nat->Hp->Prop
 Jf:Nat->Hp->V->Hp->Prop
 stop:Nat->Hp->Prop
 RP:Around->Hp->Prop
def kD(X:Cx)(ae:List (Addr×Obj))(H:Hp)(b:Addr):Prop:=
 H b=none/\b≠X.env.locals/\b∉X.fs/\(b∈X.ex\/X.s₀.heap.objs.size<=b)/\(∀x c,X.env.cells.lookup x=some c->c≠b)/\∀p∈X.pn++ae,p.1≠b
theorem aK.vL(I:aK X ae σ H s)(hb:s.heap.objs.size<=b)(hn:H' b=none):kD X ae H' b:=by
 refine⟨hn,jC (bU I.lt hb),I.Tl hb,.inr (br I.sz hb),fun x c e z=>?_,fun p hp z=>?_⟩
 .obtain⟨v,q⟩:=I.cell x c e;exact absurd (bU q.lt (by rw[z];exact hb)) (jj _)
 .exact absurd (bU (aX (I.pin p hp).1) (by rw[z];exact hb)) (jj _)
structure ut(P:Program)(w:World)(K:PySem.W.Frag)(tg:Expr)(J:It)(fp:List Addr)(it:Addr)(tn:Nat->Heap->Prop):Prop where
 mem:it∈fp
 obj:∀i h,tn i h->∀b∈fp,∃o,h.get? b=some o/\∀v,o.data≠.cell v
 keep:∀i h h',tn i h->(∀b∈fp,∀o,h.get? b=some o->h'.get? b=some o)->tn i h'
 item:∀ (X:Cx),X.prog=P->X.w=w->X.K=K->∀ (i:Nat) (ae:List (Addr×Obj)) (s:Shared) (σ:St) (H:Hp) (E:Value->Shared->Prop),(X.calm=true\/J.RP X.A H)->aK X ae σ H s->(∀b∈fp,kD X ae H b)->tn i s.heap->J.go i H->
  wpAny (model P w) X.A (pyNext (.ref it)) (fun r s1=>∃u,r=some u/\
   wpAny (model P w) X.A (letOwnedTupleGo tg (.ref it) u) (fun _ s2=>∃x H',aK X ae σ H' s2/\bf x u/\J.Jf i H x H'/\tn (i+1) s2.heap/\∀b∈fp,H' b=none) E s1) E s
 done:∀ (X:Cx),X.prog=P->X.w=w->X.K=K->∀ (i:Nat) (ae:List (Addr×Obj)) (s:Shared) (σ:St) (H:Hp) (E:Value->Shared->Prop),(X.calm=true\/J.RP X.A H)->aK X ae σ H s->(∀b∈fp,kD X ae H b)->tn i s.heap->J.stop i H->
  wpAny (model P w) X.A (pyNext (.ref it)) (fun r s1=>r=none/\aK X ae σ H s1) E s
 self:∀ (A:Around) (i:Nat) (s:Shared) (Q:Value->Shared->Prop) (E:Value->Shared->Prop),tn i s.heap->Q (.ref it) s->wpAny (model P w) A (pyIter (.ref it)) Q E s
abbrev TI:=St->Hp->(It->Hp->Prop)->Prop
def Xu(X:Cx)(ae:List (Addr×Obj))(σ:St)(tg:Expr)(R:It->Hp->Prop)(RQ:Value)(s2:Shared):Prop:=
 ∃ (it:Addr) (fp:List Addr) (tn:Nat->Heap->Prop) (J:It) (H':Hp),RQ=.ref it/\aK X ae σ H' s2/\ut X.prog X.w X.K tg J fp it tn/\tn 0 s2.heap/\(∀b∈fp,kD X ae H' b)/\R J H'
def PI(X:Cx)(tg jn:Expr)(wi:TI):Prop:=
 ∀ (ae:List (Addr×Obj)) (s:Shared) (σ:St) (H:Hp) (R:It->Hp->Prop),aK X ae σ H s->wi σ H R->
  wpAny (model X.prog X.w) X.A (eval jn X.env) (fun v s1=>wpAny (model X.prog X.w) X.A (pyIter v) (Xu X ae σ tg R) X.xe s1) X.xe s
theorem zN(ho:s.heap.get? it=some o)(hc:o.cls=.type n)(hd:o.data=.fields vs)(hn:["enumerate","zip","dict_itemiterator","dict_reverseitemiterator","odict_iterator","itertools.zip_longest","itertools.pairwise"].contains n=false)(hQ:Q () s):wpAny M A (letOwnedTupleGo tg (.ref it) u) Q E s:=by
 unfold letOwnedTupleGo;cases tg <;> first
  |exact wpAny_pure hQ
  |(cases u <;> first
    |exact wpAny_pure hQ
    |(refine aI (wpAny_load ho ?_);rw[hc,hd];show wpAny M A (if (["enumerate","zip","dict_itemiterator","dict_reverseitemiterator","odict_iterator","itertools.zip_longest","itertools.pairwise"].contains n&&vs[0]?==some (rawInt _))=true then _ else _) Q E s;rw[ap (by intro h;rw[hn,m6] at h;cases h)];exact wpAny_pure hQ))
def CY(K:PySem.W.Frag)(a:Addr):It:=
 ⟨fun i H=>∃xs x,aT K H a xs/\xs[i]?=some x,fun i H x H'=>H'=H/\∀xs,aT K H a xs->xs[i]?=some x,fun i H=>∃xs,aT K H a xs/\xs.length<=i,fun _ _=>False⟩
def TH(K:PySem.W.Frag)(a:Addr):It:=
 ⟨fun i H=>∃xs x,cx K H a xs/\xs[i]?=some x,fun i H x H'=>H'=H/\∀xs,cx K H a xs->xs[i]?=some x,fun i H=>∃xs,cx K H a xs/\xs.length<=i,fun _ _=>False⟩
def Jg(lo:Int)(n:Nat):It:=⟨fun i _=>i<n,fun i H x H'=>H'=H/\x=.int (lo+i),fun i _=>n<=i,fun A H=>A.handled=none\/∃p φ,A.handled=some (.ref p)/\H p=some (.ext φ)/\∀h,φ h->zI p h⟩
theorem Ba{P:Program}{w:World}{K:PySem.W.Frag}{tg:Expr}(a it:Addr):ut P w K tg (CY K a) [it] it (fun i h=>h.IsListIter it a i) where
 mem:=by simp
 obj:=fun i h st b hb=>by
  have e:b=it:=by simpa using hb
  subst e;obtain⟨o,e,c,d⟩:=st;exact⟨o,e,fun v z=>by rw[d] at z;cases z⟩
 keep:=fun i h h' st k=>st.at fun o e=>k it (by simp) o e
 item:=by
  intro X hP hw hK i ae s σ H E uu I hf st hg;subst hP hw hK;have hc:X.calm=true:=uu.elim id fun z=>(show False from z).elim;obtain⟨xs,x,hq,hx⟩:=hg;obtain⟨its,rv,p,hz⟩:=I.list hq;obtain⟨u,hu,ru⟩:=rv.get hx;obtain⟨f0,f1,f2,f3,f4,f5⟩:=hf it (by simp);refine xP st p.isList (x:=u) (by simpa using hu) fun h' aS sb=>?_;have I1:aK X ae σ H { s with heap:=h' }:=I.turned (t':=s.toks) (fun b o hb e=>(sb.2 b hb).trans e) f0 f1 f3 f4 f5;obtain⟨o,e,c,d⟩:=id aS;exact⟨u,rfl,zN (s:={ s with heap:=h' }) e c d (by decide) ⟨x,H,I1,ru,⟨rfl,fun ys hy=>by rw[I.vK hy hq];exact hx⟩,aS,fun b hb=>(hf b hb).1⟩⟩
 done:=by
  intro X hP hw hK i ae s σ H E uu I hf st hg;subst hP hw hK;have hc:X.calm=true:=uu.elim id fun z=>(show False from z).elim;obtain⟨xs,hq,hx⟩:=hg;obtain⟨its,rv,p,hz⟩:=I.list hq;obtain⟨f0,f1,f2,f3,f4,f5⟩:=hf it (by simp);have hl:=rv.length;exact xU (I.ok.hd hc) st p.isList (by simp;lia) fun h' eb=>⟨rfl,I.turned (t':=s.toks) (fun b o hb e=>eb b o hb e) f0 f1 f3 f4 f5⟩
 self:=fun _ _ _ _ _ st h=>wpAny_pyIter_listiter st h
theorem yt{P:Program}{w:World}{K:PySem.W.Frag}{tg:Expr}(a it:Addr):ut P w K tg (TH K a) [it] it (fun i h=>h.IsTupleIter it a i) where
 mem:=by simp
 obj:=fun i h st b hb=>by
  have e:b=it:=by simpa using hb
  subst e;obtain⟨o,e,c,d⟩:=st;exact⟨o,e,fun v z=>by rw[d] at z;cases z⟩
 keep:=fun i h h' st k=>st.at fun o e=>k it (by simp) o e
 item:=by
  intro X hP hw hK i ae s σ H E uu I hf st hg;subst hP hw hK;have hc:X.calm=true:=uu.elim id fun z=>(show False from z).elim;obtain⟨xs,x,hq,hx⟩:=hg;obtain⟨its,rv,p,hz⟩:=I.tuple hq;obtain⟨u,hu,ru⟩:=rv.get hx;obtain⟨f0,f1,f2,f3,f4,f5⟩:=hf it (by simp);refine wpAny_pyNext_tuple_item st (show s.heap.IsTuple a its.toArray from p) (x:=u) (by simpa using hu) fun h' aS sb=>?_;have I1:aK X ae σ H { s with heap:=h' }:=I.turned (t':=s.toks) (fun b o hb e=>(sb.2 b hb).trans e) f0 f1 f3 f4 f5;obtain⟨o,e,c,d⟩:=id aS;exact⟨u,rfl,zN (s:={ s with heap:=h' }) e c d (by decide) ⟨x,H,I1,ru,⟨rfl,fun ys hy=>by rw[I.rW hy hq];exact hx⟩,aS,fun b hb=>(hf b hb).1⟩⟩
 done:=by
  intro X hP hw hK i ae s σ H E uu I hf st hg;subst hP hw hK;have hc:X.calm=true:=uu.elim id fun z=>(show False from z).elim;obtain⟨xs,hq,hx⟩:=hg;obtain⟨its,rv,p,hz⟩:=I.tuple hq;obtain⟨f0,f1,f2,f3,f4,f5⟩:=hf it (by simp);have hl:=rv.length;exact wpAny_pyNext_tuple_end (I.ok.hd hc) st (show s.heap.IsTuple a its.toArray from p) (by simp;lia) fun h' eb=>⟨rfl,I.turned (t':=s.toks) (fun b o hb e=>eb b o hb e) f0 f1 f3 f4 f5⟩
 self:=fun _ _ _ _ _ st h=>wpAny_pyIter_tupleiter st h
theorem yu{P:Program}{w:World}{K:PySem.W.Frag}{tg:Expr}(it:Addr)(lo:Int)(n:Nat):ut P w K tg (Jg lo n) [it] it (fun i h=>IsRangeIter h it (lo+(i:Nat)*1) ((n:Int)-(i:Nat)) 1) where
 mem:=by simp
 obj:=fun i h st b hb=>by
  have e:b=it:=by simpa using hb
  subst e;exact⟨_,st,fun v z=>by
   have z':Data.fields _=Data.cell v:=z;cases z'⟩
 keep:=fun i h h' st k=>k it (by simp) _ st
 item:=by
  intro X hP hw hK i ae s σ H E hc I hf st hg;subst hP hw hK;obtain⟨f0,f1,f2,f3,f4,f5⟩:=hf it (by simp);refine wpAny_pyNext_range_item st (by have:i<n:=hg;lia) fun h' aS sb=>?_;have I1:aK X ae σ H { s with heap:=h',toks:=s.toks+1 }:=I.turned (fun b o hb e=>(sb.2 b hb).trans e) f0 f1 f3 f4 f5;have gU:IsRangeIter h' it (lo+((i+1:Nat):Int)*1) ((n:Int)-((i+1:Nat):Int)) 1:=by
   rw[show lo+((i+1:Nat):Int)*1=lo+(i:Int)*1+1 by lia,show (n:Int)-((i+1:Nat):Int)=(n:Int)-(i:Int)-1 by lia];exact aS
  exact⟨_,rfl,zN (s:={ s with heap:=h',toks:=s.toks+1 }) (n:="range_iterator") gU rfl rfl (by decide) ⟨.int (lo+i),H,I1,⟨s.toks,by rw[Int.mul_one]⟩,⟨rfl,rfl⟩,gU,fun b hb=>(hf b hb).1⟩⟩
 done:=by
  intro X hP hw hK i ae s σ H E hc I hf st hg;subst hP hw hK;obtain⟨f0,f1,f2,f3,f4,f5⟩:=hf it (by simp);have he:X.A.handled=none\/∃p φ,X.A.handled=some (.ref p)/\H p=some (.ext φ)/\∀h,φ h->zI p h:=hc.elim (fun z=>.inl (I.ok.hd z)) id;rcases he with hn|⟨p,φ,hp,hH,hφ⟩
  .exact wpAny_pyNext_range_end hn st (by have:n<=i:=hg;lia) fun h' eb=>⟨rfl,I.turned (t':=s.toks) (fun b o hb e=>eb b o hb e) f0 f1 f3 f4 f5⟩
  .exact yo hp (hφ _ (I.bC p _ hH).1) st (by have:n<=i:=hg;lia) fun h' eb=>⟨rfl,I.kept (t':=s.toks) eb⟩
 self:=fun _ _ _ _ _ st h=>wpAny_pyIter_rangeiter st h
section
variable {X:Cx} {tg:Expr}
def Oe(K:PySem.W.Frag)(tl:TE):TI:=fun σ H R=>tl σ H fun x H1=>∃a,x=.ref a/\(∃xs,aT K H1 a xs)/\R (CY K a) H1
def TJ(K:PySem.W.Frag)(tl:TE):TI:=fun σ H R=>tl σ H fun x H1=>∃a,x=.ref a/\(∃xs,cx K H1 a xs)/\R (TH K a) H1
theorem cf{l:Expr}{tl:TE}(hl:PE X l tl):PI X tg l (Oe X.K tl):=by
 intro ae s σ H R I h;refine bZ (hl ae s σ H _ I h) fun v s1 ⟨x,H1,I1,r1,q1⟩=>?_;obtain⟨a,e,⟨xs,hq⟩,q⟩:=q1;subst e;cases r1;obtain⟨its,rv,p,hz⟩:=I1.list hq;refine pT p.isList ?_;refine⟨s1.heap.objs.size,[s1.heap.objs.size],_,_,H1,rfl,I1.kept (t':=s1.toks) fun b o e=>cq _ e,Ba a _,⟨_,cW _ rfl,rfl,rfl⟩,fun b hb=>?_,q⟩;have e:b=s1.heap.objs.size:=by simpa using hb
 subst e;exact I1.vL (aZ _) (I1.bC.fresh (aZ _))
theorem Ko{l:Expr}{tl:TE}(hl:PE X l tl):PI X tg l (TJ X.K tl):=by
 intro ae s σ H R I h;refine bZ (hl ae s σ H _ I h) fun v s1 ⟨x,H1,I1,r1,q1⟩=>?_;obtain⟨a,e,⟨xs,hq⟩,q⟩:=q1;subst e;cases r1;obtain⟨its,rv,p,hz⟩:=I1.tuple hq;refine yf (show s1.heap.IsTuple a its.toArray from p) ?_;refine⟨s1.heap.objs.size,[s1.heap.objs.size],_,_,H1,rfl,I1.kept (t':=s1.toks) fun b o e=>cq _ e,yt a _,⟨_,cW _ rfl,rfl,rfl⟩,fun b hb=>?_,q⟩;have e:b=s1.heap.objs.size:=by simpa using hb
 subst e;exact I1.vL (aZ _) (I1.bC.fresh (aZ _))
theorem vM{ae:List (Addr×Obj)}{σ:St}{H:Hp}{s:Shared}{R:It->Hp->Prop}{E:Value->Shared->Prop}{lo hi:Int}{t u v:Tok}{tk:Nat}(I:aK X ae σ H s)(h1:-(2 ^ 62)<=lo)(h2:lo<2 ^ 62)(h3:-(2 ^ 62)<=hi)(h4:hi<2 ^ 62)(q:R (Jg lo (hi-lo).toNat) H):wpAny (model X.prog X.w) X.A (pyIter (.ref s.heap.objs.size)) (Xu X ae σ tg R) E { s with heap:=s.heap.push { cls:=.type "range",data:=.fields #[.int lo t,.int hi u,.int 1 v] },toks:=tk }:=by
 refine wpAny_pyIter_range (IsRange.new ..) (small_one h1 h2 h3 h4) ?_;have I1:aK X ae σ H { s with heap:=s.heap.push { cls:=.type "range",data:=.fields #[.int lo t,.int hi u,.int 1 v] },toks:=tk }:=I.kept fun b o e=>cq _ e;refine⟨(s.heap.push { cls:=.type "range",data:=.fields #[.int lo t,.int hi u,.int 1 v] }).objs.size,[(s.heap.push { cls:=.type "range",data:=.fields #[.int lo t,.int hi u,.int 1 v] }).objs.size],_,_,H,rfl,
  I1.kept (t':=tk) fun b o e=>cq _ e,yu _ lo (hi-lo).toNat,?_,fun b hb=>?_,q⟩
 .have e1:lo+((0:Nat):Int)*1=lo:=by simp
  have e2:(((hi-lo).toNat:Nat):Int)-((0:Nat):Int)=Builtin.Range.rangeSize lo hi 1:=by rw[rangeSize_one];split <;> lia
  show IsRangeIter _ _ (lo+((0:Nat):Int)*1) ((((hi-lo).toNat:Nat):Int)-((0:Nat):Int)) 1;rw[e1,e2];exact cW _ rfl
 .have e:b=(s.heap.push { cls:=.type "range",data:=.fields #[.int lo t,.int hi u,.int 1 v] }).objs.size:=by simpa using hb
  subst e;exact I1.vL (aZ _) (I1.bC.fresh (aZ _))
def Of(ta:TA):TI:=fun σ H R=>ta σ H fun vs H1=>∃j:Int,vs=[.int j]/\-(2 ^ 62)<=j/\j<2 ^ 62/\R (Jg 0 j.toNat) H1
def Og(ta:TA):TI:=fun σ H R=>ta σ H fun vs H1=>∃i j:Int,vs=[.int i,.int j]/\(-(2 ^ 62)<=i/\i<2 ^ 62/\-(2 ^ 62)<=j/\j<2 ^ 62)/\R (Jg i (j-i).toNat) H1
theorem et{a:Expr}{ta:TA}{p pos:Pos}(hg:Gl X "range")(hm:X.mg "range"=none)(ha:PA X [a] ta)(hs:starEach [a] X.env=[(false,eval a X.env)]:=by rfl):PI X tg (.Call (.Name "range" p) [a] [] pos) (Of ta):=by
 intro ae s σ H R I h;refine Call_ (jG I hg hm boot_range (pF (bZ (ha pos ae s σ H _ I h) fun us s1 ⟨vs,H1,I1,r1,q1⟩=>?_) hs rfl));obtain⟨j,e,q1,q2,q⟩:=q1;subst e;cases r1 with
 |cons r rr=>
  cases rr;obtain⟨t,rfl⟩:=r;exact call_range_1 (vM I1 (by lia) (by lia) q1 q2 (by simpa using q))
theorem rX(hg:Gl X "range")(hm:X.mg "range"=none)(ha:PA X [a,b] ta)(hs:starEach [a,b] X.env=[(false,eval a X.env),(false,eval b X.env)]:=by rfl)(qc:starEach [b] X.env=[(false,eval b X.env)]:=by rfl):
  PI X tg (.Call (.Name "range" p) [a,b] [] pos) (Og ta):=by
 intro ae s σ H R I h;refine Call_ (jG I hg hm boot_range (pF (bZ (ha pos ae s σ H _ I h) fun us s1 ⟨vs,H1,I1,r1,q1⟩=>?_) (by rw[hs,qc]) (by rw[qc];rfl)));obtain⟨i,j,e,⟨q1,q2,q3,q4⟩,q⟩:=q1;subst e;cases r1 with
 |cons r rr=>
  cases rr with
  |cons r' rr=>
   cases rr;obtain⟨t,rfl⟩:=r;obtain⟨t',rfl⟩:=r';exact call_range_2 (vM I1 q1 q2 q3 q4 q)
def TL(wi:TI)(g:TG)(tb:TS):TS:=fun D σ H=>wi σ H fun J H1=>∃W:Nat->Nat->St->Hp->Prop,(∃m,W 0 m σ H1)/\∀i m σ H,W i m σ H->
 (J.stop i H/\D.nx σ H)\/(J.go i H/\∃N:St->Hp->Prop,(∀σ' H',N σ' H'->∃m',m'<m/\W (i+1) m' σ' H')/\∀x H',J.Jf i H x H'->g x σ H' fun σ2 H2=>tb { D with nx:=N,ct:=N,bk:=D.nx } σ2 H2)
def qd(fp:List Addr)(h:Heap):List (Addr×Obj):=fp.filterMap fun b=>(h.get? b).map fun o=>(b,o)
theorem iS(hb:b∈fp)(e:h.get? b=some o):(b,o)∈qd fp h:=mW.mpr ⟨b,hb,by rw[e];rfl⟩
theorem Bb(hp:p∈qd fp h):p.1∈fp/\h.get? p.1=some p.2:=by
 obtain⟨b,hb,e⟩:=mW.mp hp;cases q:h.get? b with
 |none=>rw[q] at e;cases e
 |some o=>
  rw[q] at e;have e':(b,o)=p:=aY e;subst e';exact⟨hb,q⟩
theorem aK.pinned(I:aK X ae σ H s)(hf:∀b∈fp,kD X ae H b)(ho:∀b∈fp,∃o,s.heap.get? b=some o/\∀v,o.data≠.cell v):aK X (ae++qd fp s.heap) σ H s:=
 I.zJ fun p hp=>(bq.mp hp).elim (fun z=>I.pin p (io _ z)) fun z=>by
  obtain⟨hb,e⟩:=Bb z;obtain⟨f0,f1,f2,_⟩:=hf p.1 hb;obtain⟨o,e',d⟩:=ho p.1 hb;rw[e] at e';cases e';exact⟨e,f0,f1,f2,d⟩
theorem aK.md(I:aK X (ae++pl) σ H s):aK X ae σ H s:=I.zJ fun p hp=>I.pin p (io _ (gY _ hp))
theorem dO(hp:PassesOwn (model X.prog X.w) X.A X.env X.xe)(hc:X.calm=true)(hi:PI X tg jn wi)(hg:PG X tg g)(hb:yp X body tb)(hs:∀x,foldedSetIterable jn X.env x=pure x:=by intro _;rfl):PS X (.For tg jn body [] pos) (TL wi g tb):=by
 intro ae s σ H D I h;refine wpAny_For (bZ (hi ae s σ H _ I h) fun v s1 h1=>bZ h1 fun RQ s2 h2=>?_) hs;obtain⟨it,fp,tn,J,H2,e,I2,T,gU,f2,W,⟨m0,w0⟩,CW⟩:=h2;subst e;have yv:∀ {H':Hp},(∀b∈fp,H' b=none)->∀b∈fp,kD X ae H' b:=fun hn b hb=>⟨hn b hb,(f2 b hb).2⟩
 refine codeAny_forLoop_any (fun n s'=>∃i σ' H',aK X ae σ' H' s'/\tn i s'.heap/\(∀b∈fp,H' b=none)/\W i n σ' H') ?_ m0 ⟨0,σ,H2,I2,gU,fun b hb=>(f2 b hb).1,w0⟩;rintro n s3 ⟨i,σ3,H3,I3,uv,Kq,w3⟩;rcases CW i n σ3 H3 w3 with ⟨stop,qn⟩|⟨go,N,hN,step⟩
 .refine lr hp (bZ (T.done X rfl rfl rfl i ae s3 σ3 H3 X.xe (.inl hc) I3 (yv Kq) uv stop) fun r s4 ⟨hr,I4⟩=>?_);subst hr;exact ub ⟨σ3,H3,I4,qn⟩
 .refine lr hp (bZ (T.item X rfl rfl rfl i ae s3 σ3 H3 X.xe (.inl hc) I3 (yv Kq) uv go) fun r s4 ⟨u,hr,h4⟩=>?_);subst hr;refine lr hp (bZ h4 fun _ s5 ⟨x,H5,I5,r5,y5,zO,TN⟩=>?_);have TQ:=I5.pinned (yv TN) (T.obj _ _ zO);refine lr hp (bZ (hg _ s5 σ3 H5 x u _ TQ r5 (step x H5 y5)) fun _ s6 ⟨σ6,H6,I6,q6⟩=>?_);refine lr hp (bZ (hb _ s6 σ6 H6 _ I6 q6) fun f s7 q7=>?_);have again:∀ {σ7:St} {H7:Hp},aK X (ae++qd fp s5.heap) σ7 H7 s7->N σ7 H7->∃m,m<n/\∃i σ' H',aK X ae σ' H' s7/\tn i s7.heap/\(∀b∈fp,H' b=none)/\W i m σ' H':=fun {σ7 H7} I7 n7=>by
   obtain⟨m',hm,w7⟩:=hN σ7 H7 n7;refine⟨m',hm,i+1,σ7,H7,I7.md,T.keep _ _ _ zO fun b hb o e=>(I7.pin (b,o) (io _ (io _ (iS hb e)))).1,fun b hb=>?_,w7⟩;obtain⟨o,e,d⟩:=T.obj _ _ zO b hb;exact(I7.pin (b,o) (io _ (io _ (iS hb e)))).2.1
  cases f with
  |next=>obtain⟨σ7,H7,I7,n7⟩:=q7;exact again I7 n7
  |cont=>obtain⟨σ7,H7,I7,n7⟩:=q7;exact again I7 n7
  |brk=>obtain⟨σ7,H7,I7,q7⟩:=q7;exact⟨σ7,H7,I7.md,q7⟩
  |ret v=>obtain⟨x7,σ7,H7,I7,r7,q7⟩:=q7;exact⟨x7,σ7,H7,I7.md,r7,q7⟩
end
theorem jI{K:PySem.W.Frag}{a:Addr}{xs:List V}{g:TG}{tb:TS}{D:vG}{σ:St}{H:Hp}(Pv:Nat->St->Hp->Prop)(h0:Pv 0 σ H)(hl:∀i σ H,i<=xs.length->Pv i σ H->aT K H a xs)(hs:∀i x σ H,xs[i]?=some x->Pv i σ H->g x σ H fun σ2 H2=>tb { D with nx:=Pv (i+1),ct:=Pv (i+1),bk:=D.nx } σ2 H2)(hd:∀σ H,Pv xs.length σ H->D.nx σ H):
  ∃W:Nat->Nat->St->Hp->Prop,(∃m,W 0 m σ H)/\∀i m σ H,W i m σ H->
   ((CY K a).stop i H/\D.nx σ H)\/((CY K a).go i H/\∃N:St->Hp->Prop,(∀σ' H',N σ' H'->∃m',m'<m/\W (i+1) m' σ' H')/\∀x H',(CY K a).Jf i H x H'->g x σ H' fun σ2 H2=>tb { D with nx:=N,ct:=N,bk:=D.nx } σ2 H2):=by
 refine⟨fun i m σ H=>m=xs.length-i/\i<=xs.length/\Pv i σ H,⟨xs.length,by simp,dg _,h0⟩,?_⟩;rintro i m σ H ⟨rfl,hi,p⟩;have q:=hl i σ H hi p;by_cases eB:i<xs.length
 .refine .inr ⟨⟨xs,xs[i],q,by simp[eB]⟩,Pv (i+1),fun σ' H' p'=>⟨xs.length-(i+1),by lia,rfl,eB,p'⟩,fun x H' y=>?_⟩;obtain⟨e,y⟩:=y;subst e;exact hs i x σ _ (y xs q) p
 .have e:i=xs.length:=by lia
  subst e;exact .inl ⟨⟨xs,q,aZ _⟩,hd σ H p⟩
theorem eX{lo:Int}{n:Nat}{g:TG}{tb:TS}{D:vG}{σ:St}{H:Hp}(Pv:Nat->St->Hp->Prop)(h0:Pv 0 σ H)(hs:∀i σ H,i<n->Pv i σ H->g (.int (lo+i)) σ H fun σ2 H2=>tb { D with nx:=Pv (i+1),ct:=Pv (i+1),bk:=D.nx } σ2 H2)(hd:∀σ H,Pv n σ H->D.nx σ H):
  ∃W:Nat->Nat->St->Hp->Prop,(∃m,W 0 m σ H)/\∀i m σ H,W i m σ H->
   ((Jg lo n).stop i H/\D.nx σ H)\/((Jg lo n).go i H/\∃N:St->Hp->Prop,(∀σ' H',N σ' H'->∃m',m'<m/\W (i+1) m' σ' H')/\∀x H',(Jg lo n).Jf i H x H'->g x σ H' fun σ2 H2=>tb { D with nx:=N,ct:=N,bk:=D.nx } σ2 H2):=by
 refine⟨fun i m σ H=>m=n-i/\i<=n/\Pv i σ H,⟨n,by simp,dg _,h0⟩,?_⟩;rintro i m σ H ⟨rfl,hi,p⟩;by_cases eB:i<n
 .refine .inr ⟨eB,Pv (i+1),fun σ' H' p'=>⟨n-(i+1),by lia,rfl,eB,p'⟩,fun x H' y=>?_⟩;obtain⟨e,y⟩:=y;subst e y;exact hs i σ _ eB p
 .have e:i=n:=by lia
  subst e;exact .inl ⟨aZ _,hd σ H p⟩
theorem vN(Pv:St->Hp->Prop)(μ:St->Hp->Nat)(h0:Pv σ H)(hs:∀σ H,Pv σ H->c σ H fun b H1=>if b=true then tb { D with nx:=fun σ' H'=>Pv σ' H'/\μ σ' H'<μ σ H,ct:=fun σ' H'=>Pv σ' H'/\μ σ' H'<μ σ H,bk:=D.nx } σ H1 else D.nx σ H1)(mono:∀σ H Q Q',(∀b H1,Q b H1->Q' b H1)->c σ H Q->c σ H Q'):CV c tb D σ H:=by
 refine⟨fun m σ H=>m=μ σ H/\Pv σ H,⟨_,rfl,h0⟩,?_⟩;rintro m σ H ⟨rfl,p⟩;refine mono σ H _ _ (fun b H1 q=>?_) (hs σ H p);cases b with
 |true=>exact⟨_,fun σ' H' ⟨p',l⟩=>⟨_,l,rfl,p'⟩,q⟩
 |false=>exact q
abbrev R2:=V->V->Hp->VK->Prop
def me(X:Cx)(f:Value->Value->Sem Value)(r:R2):Prop:=
 ∀ (ae:List (Addr×Obj)) (s:Shared) (σ:St) (H:Hp) (x y:V) (v u:Value) (Q:VK),aK X ae σ H s->bf x v->bf y u->r x y H Q->
  wpAny (model X.prog X.w) X.A (f v u) (EP X ae σ Q) X.xe s
def TU(X:Cx)(f:Value->Sem Value)(r:V->Hp->VK->Prop):Prop:=
 ∀ (ae:List (Addr×Obj)) (s:Shared) (σ:St) (H:Hp) (x:V) (v:Value) (Q:VK),aK X ae σ H s->bf x v->r x H Q->
  wpAny (model X.prog X.w) X.A (f v) (EP X ae σ Q) X.xe s
def eO(X:Cx)(f:Value)(r:List V->Hp->VK->Prop):Prop:=
 ∀ (ae:List (Addr×Obj)) (s:Shared) (σ:St) (H:Hp) (xs:List V) (us:List Value) (Q:VK),aK X ae σ H s->aV xs us->r xs H Q->
  wpAny (model X.prog X.w) X.A (call f us) (EP X ae σ Q) X.xe s
def mf(r:R2)(ta tb:TE):TE:=fun σ H Q=>ta σ H fun x H1=>tb σ H1 fun y H2=>r x y H2 Q
def Zo(r:V->Hp->VK->Prop)(ta:TE):TE:=fun σ H Q=>ta σ H fun x H1=>r x H1 Q
def rI(C:Int->Int->Prop)(g:Int->Int->V):R2:=fun x y H Q=>∃i j,x=.int i/\y=.int j/\C i j/\Q (g i j) H
def Co(g:Int->Int->V):R2:=fun x y H Q=>∃i j,x=.int i/\y=.int j/\Q (g i j) H
def rU(g:Int->V):V->Hp->VK->Prop:=fun x H Q=>∃i,x=.int i/\Q (g i) H
section
variable {X:Cx} {a b c:Expr} {ta tb tc:TE} {pos:Pos}
theorem Kr(ha:PE X a ta)(hb:PE X b tb){ae:List (Addr×Obj)}{s:Shared}{σ:St}{H:Hp}{R:V->V->Hp->Prop}(I:aK X ae σ H s)(h:ta σ H fun x H1=>tb σ H1 fun y H2=>R x y H2){Q:Value->Shared->Prop}{f:Value->Value->Sem Value}(hf:∀v u s2 x y H2,aK X ae σ H2 s2->bf x v->bf y u->R x y H2->wpAny (model X.prog X.w) X.A (f v u) Q X.xe s2):
  wpAny (model X.prog X.w) X.A (eval a X.env) (fun v s₁=>wpAny (model X.prog X.w) X.A (eval b X.env) (fun u s₂=>wpAny (model X.prog X.w) X.A (f v u) Q X.xe s₂) X.xe s₁) X.xe s:=by
 refine bZ (ha ae s σ H _ I h) fun v s1 ⟨x,H1,I1,r1,q1⟩=>?_;refine bZ (hb ae s1 σ H1 _ I1 q1) fun u s2 ⟨y,H2,I2,r2,q2⟩=>?_;exact hf v u s2 x y H2 I2 r1 r2 q2
theorem bp{op:Operator}{r:R2}(ho:me X (binaryOp op) r)(ha:PE X a ta)(hb:PE X b tb):PE X (.BinOp a op b pos) (mf r ta tb):=by
 intro ae s σ H Q I h;exact wpAny_BinOp (Kr ha hb I h fun v u s2 x y H2 I2 rx ry q=>ho ae s2 σ H2 x y v u Q I2 rx ry q)
theorem oh(ho:TU X (unaryOp op) r)(ha:PE X a ta):PE X (.UnaryOp op a pos) (Zo r ta):=by
 intro ae s σ H Q I h;exact UnaryOp_ (bZ (ha ae s σ H _ I h) fun v s1 ⟨x,H1,I1,r1,q1⟩=>ho ae s1 σ H1 x v Q I1 r1 q1)
theorem RS{f:Value->Value->Sem Value}{C:Int->Int->Prop}{g:Int->Int->Int}(rule:∀ (i j:Int) (t u:Tok) (s:Shared) (Q:Value->Shared->Prop) (E:Value->Shared->Prop),C i j->Q (.int (g i j) s.toks) { s with toks:=s.toks+1 }->wpAny (model X.prog X.w) X.A (f (.int i t) (.int j u)) Q E s):
  me X f (rI C fun i j=>.int (g i j)):=by
 intro ae s σ H x y v u Q I rx ry h;obtain⟨i,j,rfl,rfl,hc,q⟩:=h;obtain⟨t,rfl⟩:=rx;obtain⟨t',rfl⟩:=ry;exact rule i j t t' s _ _ hc ⟨.int (g i j),H,I.tok _,⟨_,rfl⟩,q⟩
theorem Oh{f:Value->Value->Sem Value}{g:Int->Int->Int}(rule:∀ (i j:Int) (t u:Tok) (s:Shared) (Q:Value->Shared->Prop) (E:Value->Shared->Prop),Q (.int (g i j) s.toks) { s with toks:=s.toks+1 }->wpAny (model X.prog X.w) X.A (f (.int i t) (.int j u)) Q E s):
  me X f (Co fun i j=>.int (g i j)):=by
 intro ae s σ H x y v u Q I rx ry h;obtain⟨i,j,rfl,rfl,q⟩:=h;obtain⟨t,rfl⟩:=rx;obtain⟨t',rfl⟩:=ry;exact rule i j t t' s _ _ ⟨.int (g i j),H,I.tok _,⟨_,rfl⟩,q⟩
theorem FZ{f:Value->Value->Sem Value}{g:Int->Int->Bool}(rule:∀ (i j:Int) (t u:Tok) (s:Shared) (Q:Value->Shared->Prop) (E:Value->Shared->Prop),Q (.bool (g i j)) s->wpAny (model X.prog X.w) X.A (f (.int i t) (.int j u)) Q E s):
  me X f (Co fun i j=>.bl (g i j)):=by
 intro ae s σ H x y v u Q I rx ry h;obtain⟨i,j,rfl,rfl,q⟩:=h;obtain⟨t,rfl⟩:=rx;obtain⟨t',rfl⟩:=ry;exact rule i j t t' s _ _ ⟨.bl (g i j),H,I,rfl,q⟩
def TV(i j:Int):Prop:=0<j/\j<1073741824
def TW(i j:Int):Prop:=0<=j/\j<=1000000/\i.natAbs<2 ^ 64
def Ks(i j:Int):Prop:=(-(2 ^ 64)<i/\i<2 ^ 64)\/(-(2 ^ 64)<j/\j<2 ^ 64)
theorem Ks.ok(h:Ks i j):IntMulOk i j:=by
 rcases h with ⟨h1,h2⟩|⟨h1,h2⟩
 .exact .of_left (intBits_le_64 h1 h2)
 .exact .of_right (intBits_le_64 h1 h2)
theorem dC:me X (binaryOp .Add) (Co fun i j=>.int (i+j)):=Oh fun _ _ _ _ _ _ _ q=>add_int q
theorem ny:me X (binaryOp .Sub) (Co fun i j=>.int (i-j)):=Oh fun _ _ _ _ _ _ _ q=>sub_int q
theorem yw:me X (binaryOp .Mult) (rI Ks fun i j=>.int (i*j)):=RS fun _ _ _ _ _ _ _ hc q=>mul_int q hc.ok
theorem zP:me X (binaryOp .FloorDiv) (rI TV fun i j=>.int (i / j)):=RS fun i j _ _ _ _ _ hc q=>by
 have h1:(0:Int)<j:=hc.1;have h2:j<1073741824:=hc.2;exact floordiv_int (by lia) (by rw[Int.fdiv_eq_ediv_of_nonneg i (by lia)];exact q) (.inl (PyProof.noPylong_small (by lia)))
theorem fZ:me X (binaryOp .Mod) (rI (fun _ j=>0<j) fun i j=>.int (i % j)):=RS fun i j _ _ _ _ _ hc q=>by
 have h1:(0:Int)<j:=hc;exact mod_int' (by lia) (by rw[CF i (by lia)];exact q)
theorem CZ:me X (binaryOp .Pow) (rI TW fun i j=>.int (i ^ j.toNat)):=RS fun _ _ _ _ _ _ _ hc q=>pow_int_small hc.1 hc.2.1 hc.2.2 q
theorem Zp{f:Value->Sem Value}{g:Int->Int}(rule:∀ (i:Int) (t:Tok) (s:Shared) (Q:Value->Shared->Prop) (E:Value->Shared->Prop),Q (.int (g i) s.toks) { s with toks:=s.toks+1 }->wpAny (model X.prog X.w) X.A (f (.int i t)) Q E s):
  TU X f (rU fun i=>.int (g i)):=by
 intro ae s σ H x v Q I rx h;obtain⟨i,rfl,q⟩:=h;obtain⟨t,rfl⟩:=rx;exact rule i t s _ _ ⟨.int (g i),H,I.tok _,⟨_,rfl⟩,q⟩
theorem jJ:TU X (unaryOp .USub) (rU fun i=>.int (-i)):=Zp fun _ _ _ _ _ q=>neg_int q
end
def Ku:V->V->Bool
 |.bJ,.bJ=>true|.bJ,.int _=>true|.int _,.bJ=>true|.bJ,.bl _=>true|.bl _,.bJ=>true|.bJ,.str _=>true|.str _,.bJ=>true
 |.int _,.int _=>true|.bl _,.bl _=>true|.str _,.str _=>true|.A8 _,.A8 _=>true
 |.int _,.str _=>true|.str _,.int _=>true|.bl _,.str _=>true|.str _,.bl _=>true
 |_,_=>false
def RT:R2:=fun x y H Q=>Ku x y=true/\Q (.bl (decide (x=y))) H
def Zq:R2:=fun x y H Q=>Ku x y=true/\Q (.bl (!decide (x=y))) H
theorem oY:decide (V.int i=V.int j)=(i==j):=by
 rw[l_];simp
theorem C0:decide (V.bl i=V.bl j)=(i==j):=by
 rw[l_];simp
theorem zQ:decide (V.str i=V.str j)=(i==j):=by
 rw[l_];simp
theorem zR:decide (V.A8 i=V.A8 j)=(i.toList==j.toList):=by
 rw[l_];cases i;cases j;simp
section
variable {X:Cx} {a b c:Expr} {ta tb tc:TE} {pos:Pos}
theorem bB(I:aK X ae σ H s)(q:Q (.bl k) H)(e:k=k'):EP X ae σ Q (.bool k') s:=by
 subst e;exact⟨.bl k,H,I,rfl,q⟩
theorem eQ:me X (compareOp .Eq) RT:=by
 intro ae s σ H x y v u Q I rx ry h;obtain⟨hs,q⟩:=h;cases x with
 |bJ=>
  cases rx;cases y with
  |bJ=>cases ry;exact PySem.EqNone.eq_none_none (bB I q (by simp))
  |bl j=>cases ry;exact PySem.EqNone.eq_none_bool (bB I q (by simp))
  |int j=>obtain⟨t',rfl⟩:=ry;exact PySem.EqNone.eq_none_int (bB I q (by simp))
  |str j=>obtain⟨t',rfl⟩:=ry;exact PySem.EqNone.eq_none_str (bB I q (by simp))
  |_=>exact absurd (show false=true from hs) cj
 |bl i=>
  cases rx;cases y with
  |bJ=>cases ry;exact PySem.EqNone.eq_bool_none (bB I q (by simp))
  |bl j=>cases ry;exact eq_bool (bB I q C0)
  |str j=>obtain⟨t',rfl⟩:=ry;exact PySem.EqMixed.eq_bool_str (bB I q (by simp))
  |_=>exact absurd (show false=true from hs) cj
 |int i=>
  obtain⟨t,rfl⟩:=rx;cases y with
  |bJ=>cases ry;exact PySem.EqNone.eq_int_none (bB I q (by simp))
  |int j=>obtain⟨t',rfl⟩:=ry;exact eq_int (bB I q oY)
  |str j=>obtain⟨t',rfl⟩:=ry;exact PySem.EqMixed.eq_int_str (bB I q (by simp))
  |_=>exact absurd (show false=true from hs) cj
 |str i=>
  obtain⟨t,rfl⟩:=rx;cases y with
  |bJ=>cases ry;exact PySem.EqNone.eq_str_none (bB I q (by simp))
  |bl j=>cases ry;exact PySem.EqMixed.eq_str_bool (bB I q (by simp))
  |int j=>obtain⟨t',rfl⟩:=ry;exact PySem.EqMixed.eq_str_int (bB I q (by simp))
  |str j=>obtain⟨t',rfl⟩:=ry;exact eq_str (bB I q zQ)
  |_=>exact absurd (show false=true from hs) cj
 |A8 i=>
  obtain⟨t,rfl⟩:=rx;cases y with
  |A8 j=>obtain⟨t',rfl⟩:=ry;exact PySem.W.eq_bytes (bB I q zR)
  |_=>exact absurd (show false=true from hs) cj
 |_=>cases y <;> exact absurd (show false=true from hs) cj
theorem rY:me X (compareOp .NotEq) Zq:=by
 intro ae s σ H x y v u Q I rx ry h;obtain⟨hs,q⟩:=h;cases x with
 |bJ=>
  cases rx;cases y with
  |bJ=>cases ry;exact PySem.EqNone.ne_none_none (bB I q (by simp))
  |bl j=>cases ry;exact PySem.EqNone.ne_none_bool (bB I q (by simp))
  |int j=>obtain⟨t',rfl⟩:=ry;exact PySem.EqNone.ne_none_int (bB I q (by simp))
  |str j=>obtain⟨t',rfl⟩:=ry;exact PySem.EqNone.ne_none_str (bB I q (by simp))
  |_=>exact absurd (show false=true from hs) cj
 |bl i=>
  cases rx;cases y with
  |bJ=>cases ry;exact PySem.EqNone.ne_bool_none (bB I q (by simp))
  |bl j=>cases ry;exact ne_bool (bB I q (congrArg not C0))
  |str j=>obtain⟨t',rfl⟩:=ry;exact PySem.EqMixed.ne_bool_str (bB I q (by simp))
  |_=>exact absurd (show false=true from hs) cj
 |int i=>
  obtain⟨t,rfl⟩:=rx;cases y with
  |bJ=>cases ry;exact PySem.EqNone.ne_int_none (bB I q (by simp))
  |int j=>obtain⟨t',rfl⟩:=ry;exact ne_int (bB I q (congrArg not oY))
  |str j=>obtain⟨t',rfl⟩:=ry;exact PySem.EqMixed.ne_int_str (bB I q (by simp))
  |_=>exact absurd (show false=true from hs) cj
 |str i=>
  obtain⟨t,rfl⟩:=rx;cases y with
  |bJ=>cases ry;exact PySem.EqNone.ne_str_none (bB I q (by simp))
  |bl j=>cases ry;exact PySem.EqMixed.ne_str_bool (bB I q (by simp))
  |int j=>obtain⟨t',rfl⟩:=ry;exact PySem.EqMixed.ne_str_int (bB I q (by simp))
  |str j=>obtain⟨t',rfl⟩:=ry;exact ne_str (bB I q (congrArg not zQ))
  |_=>exact absurd (show false=true from hs) cj
 |A8 i=>
  obtain⟨t,rfl⟩:=rx;cases y with
  |A8 j=>obtain⟨t',rfl⟩:=ry;exact PySem.W.ne_bytes (bB I q (congrArg not zR))
  |_=>exact absurd (show false=true from hs) cj
 |_=>cases y <;> exact absurd (show false=true from hs) cj
theorem qe:me X (compareOp .Lt) (Co fun i j=>.bl (decide (i<j))):=FZ fun _ _ _ _ _ _ _ q=>lt_int q
theorem zS:me X (compareOp .LtE) (Co fun i j=>.bl (decide (i<=j))):=FZ fun _ _ _ _ _ _ _ q=>le_int q
theorem zT:me X (compareOp .Gt) (Co fun i j=>.bl (decide (j<i))):=FZ fun _ _ _ _ _ _ _ q=>gt_int q
theorem C1:me X (compareOp .GtE) (Co fun i j=>.bl (decide (j<=i))):=FZ fun _ _ _ _ _ _ _ q=>ge_int q
theorem iT:me X (compareOp .Is) (fun x y H Q=>y=.bJ/\Q (.bl (decide (x=.bJ))) H):=by
 intro ae s σ H x y v u Q I rx ry h;obtain⟨rfl,q⟩:=h;cases ry;refine is_none_gen (bB I q ?_);cases x <;> first
  |(cases rx;rfl)
  |(obtain⟨t,rfl⟩:=rx;rfl)
theorem uw:me X (compareOp .IsNot) (fun x y H Q=>y=.bJ/\Q (.bl (!decide (x=.bJ))) H):=by
 intro ae s σ H x y v u Q I rx ry h;obtain⟨rfl,q⟩:=h;cases ry;refine isnot_none_gen (bB I q ?_);cases x <;> first
  |(cases rx;rfl)
  |(obtain⟨t,rfl⟩:=rx;rfl)
theorem aL(b:Expr)(h:op≠.In:=by decide)(h2:op≠.NotIn:=by decide):behindInMarks op b=false:=by
 have e1:(op==CmpOp.In)=false:=by cases op <;> first|rfl|exact absurd rfl h
 have e2:(op==CmpOp.NotIn)=false:=by cases op <;> first|rfl|exact absurd rfl h2
 cases b <;> simp[behindInMarks,e1,e2]
theorem cZ(ho:me X (compareOp op) r)(ha:PE X a ta)(hb:PE X b tb)(hm:behindInMarks op b=false):PE X (.Compare a [op] [b] pos) (mf r ta tb):=by
 intro ae s σ H Q I h;exact wpAny_Compare1 (Kr ha hb I h fun v u s2 x y H2 I2 rx ry q=>ho ae s2 σ H2 x y v u Q I2 rx ry q) hm
def mh(t:TE):TT:=fun σ H Q=>t σ H fun x H'=>∃k,x=.bl k/\Q k H'
theorem aM(ho:me X (compareOp op) r)(ha:PE X a ta)(hb:PE X b tb)(hm:behindInMarks op b=false):PT X (.Compare a [op] [b] pos) (mh (mf r ta tb)):=by
 intro ae s σ H Q I h;refine wpAny_isTrue_Compare1 (bZ (ha ae s σ H _ I h) fun v s1 ⟨x,H1,I1,r1,q1⟩=>bZ (hb ae s1 σ H1 _ I1 q1) fun u s2 ⟨y,H2,I2,r2,q2⟩=>
  bZ (ho ae s2 σ H2 x y v u _ I2 r1 r2 q2) fun c s3 ⟨z,H3,I3,r3,k,e,q3⟩=>?_) hm
 subst e;cases r3;exact m3 ⟨H3,I3,q3⟩
def Kv(r r':R2)(ta tb tc:TE):TE:=fun σ H Q=>ta σ H fun x H1=>tb σ H1 fun y H2=>r x y H2 fun z H3=>∃k,z=.bl k/\
 (if k=true then tc σ H3 fun w' H4=>r' y w' H4 Q else Q (.bl false) H3)
theorem vO(ho:me X (compareOp op) r)(CP:me X (compareOp Xv) r')(ha:PE X a ta)(hb:PE X b tb)(hc:PE X c tc)(hm:lastMarks [op,Xv] [b,c]=false:=by with_unfolding_all rfl):PE X (.Compare a [op,Xv] [b,c] pos) (Kv r r' ta tb tc):=by
 intro ae s σ H Q I h;refine Compare_chain (bZ (ha ae s σ H _ I h) fun v s1 ⟨x,H1,I1,r1,q1⟩=>chain_link (bZ (hb ae s1 σ H1 _ I1 q1) fun u s2 ⟨y,H2,I2,r2,q2⟩=>
  bZ (ho ae s2 σ H2 x y v u _ I2 r1 r2 q2) fun d s3 ⟨z,H3,I3,r3,k,e,q3⟩=>?_)) hm
 subst e;cases r3;refine m3 ?_;cases k with
 |false=>exact ite_ff ⟨.bl false,H3,I3,rfl,q3⟩
 |true=>exact ite_tt (chain_last (bZ (hc ae s3 σ H3 _ I3 q3) fun w' s4 ⟨z',H4,I4,r4,q4⟩=>CP ae s4 σ H4 y z' u w' Q I4 r2 r4 q4))
theorem ux:(sizeLine:Nat)<2 ^ 63:=by rw[iM];decide
theorem qg(r:aV [x] us):∃u,us=[u]/\bf x u:=by
 cases r with
 |cons r1 r2=>cases r2;exact⟨_,rfl,r1⟩
theorem Jh(r:aV [x,y] us):∃u w',us=[u,w']/\bf x u/\bf y w':=by
 cases r with
 |cons r1 r2=>
  cases r2 with
  |cons r3 r4=>cases r4;exact⟨_,_,rfl,r1,r3⟩
theorem C2:eO X (.builtin "abs") (fun xs H Q=>∃i,xs=[.int i]/\Q (.int (if i<0 then -i else i)) H):=by
 intro ae s σ H xs us Q I r h;obtain⟨i,rfl,q⟩:=h;obtain⟨u,rfl,t,rfl⟩:=qg r;exact call_abs_int fun u tk=>⟨.int (if i<0 then -i else i),H,I.tok _,⟨_,rfl⟩,q⟩
theorem rZ(hc:X.calm=true):eO X (.builtin "max") (fun xs H Q=>∃i j,xs=[.int i,.int j]/\Q (.int (if j > i then j else i)) H):=by
 intro ae s σ H xs us Q I r h;obtain⟨i,j,rfl,q⟩:=h;obtain⟨u,w',rfl,⟨t,rfl⟩,⟨t',rfl⟩⟩:=Jh r;refine max_two_ints (I.ok.hd hc) fun h' tk k=>⟨_,H,I.kept k,?_,q⟩
 by_cases hj:j > i
 .rw[ao hj,ao hj];exact⟨_,rfl⟩
 .rw[ap hj,ap hj];exact⟨_,rfl⟩
theorem Bc(hc:X.calm=true):eO X (.builtin "min") (fun xs H Q=>∃i j,xs=[.int i,.int j]/\Q (.int (if j<i then j else i)) H):=by
 intro ae s σ H xs us Q I r h;obtain⟨i,j,rfl,q⟩:=h;obtain⟨u,w',rfl,⟨t,rfl⟩,⟨t',rfl⟩⟩:=Jh r;refine min_two_ints (I.ok.hd hc) fun h' tk k=>⟨_,H,I.kept k,?_,q⟩
 by_cases hj:j<i
 .rw[ao hj,ao hj];exact⟨_,rfl⟩
 .rw[ap hj,ap hj];exact⟨_,rfl⟩
theorem r9:eO X (.type "int") (fun xs H Q=>(∃i,xs=[.int i]/\Q (.int i) H)\/∃k,xs=[.bl k]/\Q (.int (if k then 1 else 0)) H):=by
 intro ae s σ H xs us Q I r h;rcases h with ⟨i,rfl,q⟩|⟨k,rfl,q⟩
 .obtain⟨u,rfl,t,rfl⟩:=qg r;exact call_int_int ⟨.int i,H,I,⟨_,rfl⟩,q⟩
 .obtain⟨u,rfl,r1⟩:=qg r;cases r1;exact call_int_bool ⟨.int (if k then 1 else 0),H,I.tok _,⟨_,rfl⟩,q⟩
end
structure yx(h:Heap)(x dx C:Addr)(mA:Str->Option Value):Prop where
 obj:h.get? x=some (PySem.W.instObj C dx)
 ns:h.Ns1 dx mA
 ne:dx≠x
theorem Bd{h:Heap}{dx:Addr}{mA:Str->Option Value}(n:h.Ns1 dx mA):∃od,h.get? dx=some od/\∀name,PySem.W.lookIn name od=some (mA name):=by
 obtain⟨o,es,ep,ho,hd,hk,_,hm⟩:=n;refine⟨o,ho,fun name=>?_⟩;have e:=hm name;unfold nsFind findBy at e;rw[<-Array.find?_toList] at e;unfold PySem.W.lookIn;rw[hd];dsimp only;split
 .rename_i y q;rw[q] at e;exact congrArg some e
 .rename_i q;rw[q] at e;have a:es.toList.any (·.refKey)=false:=by
   rw[x0];intro y hy;obtain⟨z,t,oJ⟩:=hk y (Array.mem_toList_iff.mp hy);simp[DictEntry.refKey,oJ]
  have a':¬ es.toList.any (·.refKey)=true:=by rw[a];exact cj
  rw[ap a'];exact congrArg some e
theorem yx.look(I:yx h x dx C mA):∃od,PySem.W.InstAt h x (PySem.W.instObj C dx) C (some od)/\∀name,PySem.W.lookIn name od=some (mA name):=
 let ⟨od,ho,hl⟩:=Bd I.ns
 ⟨od,⟨I.obj,rfl,rfl,ho⟩,hl⟩
section
variable {prog:Program} {w:World} {A:Around} {E:Value->Shared->Prop} {s:Shared} {K:PySem.W.Frag} {x dx C f:Addr} {mA:Str->Option Value} {name:Str} {v:Value}
theorem F0(X:K.In s.heap)(I:yx s.heap x dx C mA)(hg:PySem.W.plainGet K C name=true)(hh:PySem.W.hasDictIn K C=true)(ha:PySem.W.findIn K (.ref C) name=some none)(hv:mA name=some v)(yy:PySem.W.handedIn v=true)(h:Q v { s with toks:=s.toks+1 }):
  wpAny (model prog w) A (getAttr (.ref x) name F1) Q E s:=by
 obtain⟨od,J,hl⟩:=I.look;exact PySem.W.get_value X J (xQ hg).1 (PySem.W.findObj_own hh ha rfl (by rw[hl,hv])) yy h
theorem C3(X:K.In s.heap)(I:yx s.heap x dx C mA)(hg:PySem.W.plainGet K C name=true)(hf:PySem.W.findIn K (.ref C) name=some (some (.ref f)))(ht:PySem.W.isFn K (.ref f)=true)(hv:mA name=none)(h:Q (.ref f,[.ref x]) s):
  wpAny (model prog w) A (getMethod (.ref x) name pl) Q E s:=by
 obtain⟨od,J,hl⟩:=I.look;exact PySem.W.method_fn X J (xQ hg).1 (xQ hg).2 hf (gZ.mp ht) (by show (PySem.W.lookIn name od).map (·.isSome)=some false;rw[hl,hv];rfl) h
theorem F2(X:K.In s.heap)(I:yx s.heap x dx C mA)(hs:PySem.W.findIn K (.ref C) "__setattr__"=some (some (.builtin "object.__setattr__")))(hp:PySem.W.plainOver K C=true)(ht:PySem.W.takerIn K C name=some none)(hh:PySem.W.hasDictIn K C=true)(hw:PySem.Within mA ns)(hsz:ns.length<=sizeLine)(h:∀h',yx h' x dx C (fun y=>if y=name then some v else mA y)->Heap.SameBut dx s.heap h'->Q () { s with heap:=h',toks:=s.toks+2 }):
  wpAny (model prog w) A (setAttr (.ref x) name v) Q E s:=by
 obtain⟨od,J,hl⟩:=I.look;refine PySem.W.set_plain X J hs (PySem.W.osa_open (s:={ s with toks:=s.toks+1 }) (r:=none) X J hp ht fun b=>?_);obtain⟨cd,hc,Kg⟩:=PySem.W.any_some hh;have hx:s.heap.get? x=some ⟨.ref C,some dx,.plain,#[]⟩:=I.obj;refine aI (wpAny_pure (aI (aI (wpAny_loadPart hx (aI (PySem.W.Looks.here (s:={ s with toks:=s.toks+1 }) (PySem.W.looks_clsIn X hc) ?_))))));rw[Kg];refine wpAny_pure (a:=some dx) (aI (wpAny_pure (aI ?_)));refine wpAny_nsSet1 (s:={ s with toks:=s.toks+1 }) I.ns fun h' RU qc=>?_;obtain⟨oD,esD,epD,Zr,Oi,F5⟩:=RU.count (PySem.Within.cons name v hw);refine aI (wpAny_lookBehind Zr (by rw[Oi];exact pastItsLine_dict (br F5 (by rw[cw];lia))) ?_);exact wpAny_pure (h _ ⟨(qc.2 _ (Ne.symm I.ne)).trans I.obj,RU,I.ne⟩ qc)
theorem C4(X:K.In s.heap)(hm:PySem.W.makesIn K C=true)(hi:PySem.W.findIn K (.ref C) "__init__"=some (some (.ref f)))(hf:PySem.W.typeIn K (.ref f)=some (.type "function"))(h:codeAny (model prog w) (A.under (.builtin "type.__call__" ⟨.ref C::vs,kw⟩)) (.call (.ref f) ⟨.ref (s.heap.objs.size+1)::vs,kw⟩) (PySem.W.InitBack (s.heap.objs.size+1) R)
   { s with heap:=(s.heap.push PySem.W.emptyDict).push (PySem.W.instObj C s.heap.objs.size) }):
  codeAny (model prog w) A (.call (.ref C) ⟨vs,kw⟩) R s:=by
 obtain⟨hh,g,d,t,os⟩:=s;exact PySem.W.make_core (PySem.W.makes_of X hm) (PySem.W.looks_findIn X hi) (fun self=>PySem.W.bind_fn X self hf) (.inl rfl) h
end
def dD(f:Str)(v:V):List (Str×V)->List (Str×V)
 |[]=>[(f,v)]
 |(g,x)::r=>if g=f then (g,v)::r else (g,x)::dD f v r
theorem bi(f g:Str)(v:V):∀fs:List (Str×V),(dD f v fs).lookup g=if g=f then some v else fs.lookup g
 |[]=>by
  show List.lookup g [(f,v)]=_;by_cases h:g=f
  .have hb:(g==f)=true:=gZ.mpr h;simp only[List.lookup,hb,ao h]
  .have hb:(g==f)=false:=kO.mpr h;simp only[List.lookup,hb,ap h]
 |(k,x)::r=>by
  have ih:=bi f g v r;rw[show dD f v ((k,x)::r)=(if k=f then (k,v)::r else (k,x)::dD f v r) from rfl];by_cases hk:k=f
  .rw[ao hk];by_cases h:g=k
   .have hb:(g==k)=true:=gZ.mpr h;simp only[List.lookup,hb,ao (h.trans hk)]
   .have hb:(g==k)=false:=kO.mpr h;simp only[List.lookup,hb,ap (fun e:g=f=>h (e.trans hk.symm))]
  .rw[ap hk];by_cases h:g=k
   .have hb:(g==k)=true:=gZ.mpr h;simp only[List.lookup,hb,ap (fun e:g=f=>hk (h.symm.trans e))]
   .have hb:(g==k)=false:=kO.mpr h;simp only[List.lookup,hb];exact ih
theorem nz(f:Str)(v:V):∀fs:List (Str×V),f∈(dD f v fs).map (·.1)/\∀g,g∈fs.map (·.1)->g∈(dD f v fs).map (·.1)
 |[]=>⟨by simp[dD],fun g h=>by simp at h⟩
 |(k,x)::r=>by
  obtain⟨i1,i2⟩:=nz f v r;rw[show dD f v ((k,x)::r)=(if k=f then (k,v)::r else (k,x)::dD f v r) from rfl];by_cases hk:k=f
  .rw[ao hk];subst hk;exact⟨by simp,fun g h=>by simpa using h⟩
  .rw[ap hk];refine⟨?_,fun g h=>?_⟩
   .rw[cX];exact cC _ i1
   .rw[cX] at h |-;rcases bL.mp h with e|e
    .exact bL.mpr (.inl e)
    .exact cC _ (i2 g e)
theorem dX(f:Str)(v:V):∀fs:List (Str×V),(dD f v fs).length<=fs.length+1
 |[]=>by simp[dD]
 |(k,x)::r=>by
  have ih:=dX f v r;rw[show dD f v ((k,x)::r)=(if k=f then (k,v)::r else (k,x)::dD f v r) from rfl];by_cases hk:k=f
  .rw[ao hk,cw,cw];lia
  .rw[ap hk,cw,cw];lia
theorem kC.some_of(r:kC (some v) o):∃u,o=some u/\bf v u:=by
 cases o with
 |none=>exact(show False from r).elim
 |some u=>exact⟨u,rfl,r⟩
theorem kC.none_of(r:kC none o):o=none:=by
 cases o with
 |none=>rfl
 |some u=>exact(show False from r).elim
theorem iw(r:bf v u):PySem.W.handedIn u=true:=by
 cases v with
 |bJ=>cases (show u=Value.none from r);rfl
 |bl b=>cases (show u=Value.bool b from r);rfl
 |int i=>obtain⟨t,e⟩:=(show ∃t,u=Value.int i t from r);cases e;rfl
 |str x=>obtain⟨t,e⟩:=(show ∃t,u=Value.str x t from r);cases e;rfl
 |A8 b=>obtain⟨t,e⟩:=(show ∃t,u=Value.bytes b t from r);cases e;rfl
 |IY b=>obtain⟨t,e⟩:=(show ∃t,u=Value.float b t from r);cases e;rfl
 |ref a=>cases (show u=Value.ref a from r);rfl
 |ty n=>cases (show u=Value.type n from r);rfl
section
variable {P:Program} {w:World} {H H':Hp} {h h':Heap} {a C dx:Addr} {fs Zm:List (Str×V)}
theorem oZ(bC:iP P w H h)(e:H a=some (.ins C dx fs)):∃mA,yx h a dx C mA/\(∀f,kC (fs.lookup f) (mA f))/\PySem.Within mA (fs.map (·.1))/\fs.length<=1000/\H dx=some (.own a):=by
 obtain⟨d,z,ne,ob,mA,n,r,q⟩:=(show bR P w H h a (.ins C dx fs) from bC a _ e)
 exact⟨mA,⟨ob,n,ne⟩,r,q,z,d⟩
end
structure FE(K:PySem.W.Frag)(C:Addr):Prop where
 pg:PySem.W.plainGet K C Str.empty=true
 hd:PySem.W.hasDictIn K C=true
 po:PySem.W.plainOver K C=true
 sa:PySem.W.findIn K (.ref C) "__setattr__"=some (some (.builtin "object.__setattr__"))
theorem FE.get{K:PySem.W.Frag}{C:Addr}(c:FE K C)(f:Str):PySem.W.plainGet K C f=true:=c.pg
def ie(K:PySem.W.Frag)(C:Addr)(f:Str):Prop:=PySem.W.findIn K (.ref C) f=some none
theorem ie.taker{K:PySem.W.Frag}{C:Addr}{f:Str}(n:ie K C f):PySem.W.takerIn K C f=some none:=by
 unfold PySem.W.takerIn;rw[show PySem.W.findIn K (.ref C) f=some none from n];rfl
structure Kw(K:PySem.W.Frag)(C:Addr)(m:Str)(f:Addr):Prop where
 at_:PySem.W.findIn K (.ref C) m=some (some (.ref f))
 fn:PySem.W.isFn K (.ref f)=true
 kp:PySem.W.keepIn K (.ref f)=true
section
variable {X:Cx} {ae:List (Addr×Obj)} {σ:St} {H:Hp} {s:Shared} {a C dx:Addr} {fs:List (Str×V)} {f:Str} {v:V} {A:Around} {E:Value->Shared->Prop}
theorem yz(I:aK X ae σ H s)(e:H a=some (.ins C dx fs))(c:FE X.K C)(n:ie X.K C f)(l:fs.lookup f=some v)(h:∀u s',aK X ae σ H s'->bf v u->Q u s'):wpAny (model X.prog X.w) A (getAttr (.ref a) f b) Q E s:=by
 obtain⟨mA,O,r,_,_,_⟩:=oZ I.bC e;obtain⟨u,hu,ru⟩:=kC.some_of (v:=v) (o:=mA f) (by rw[<-l];exact r f);exact F0 I.nt O (c.get f) c.hd n hu (iw ru) (h u _ (I.tok _) ru)
theorem yA(I:aK X ae σ H s)(e:H a=some (.ins C dx fs))(c:FE X.K C)(k:Kw X.K C m g)(l:fs.lookup m=none)(h:Q (.ref g,[.ref a]) s):wpAny (model X.prog X.w) A (getMethod (.ref a) m pl) Q E s:=by
 obtain⟨mA,O,r,_,_,_⟩:=oZ I.bC e;have hn:mA m=none:=kC.none_of (by rw[<-l];exact r m);exact C3 I.nt O (c.get m) k.at_ k.fn hn h
theorem yB(I:aK X ae σ H s)(e:H a=some (.ins C dx fs))(c:FE X.K C)(n:ie X.K C f)(hl:fs.length<1000)(ry:bf y u)(h:∀s',aK X ae σ (upd H a (.ins C dx (dD f y fs))) s'->Q () s'):wpAny (model X.prog X.w) A (setAttr (.ref a) f u) Q E s:=by
 obtain⟨mA,O,r,wi,_,ho⟩:=oZ I.bC e;have hz:(fs.map (·.1)).length<=sizeLine:=by rw[aN,iM];lia
 refine F2 I.nt O c.sa c.po n.taker c.hd wi hz fun h' O' sb=>h _ ?_;have hd:∃o,h'.get? dx=some o:=let ⟨o,_,_,e',_⟩:=O'.ns;⟨o,e'⟩;refine I.write (x:=a) (e:=dx) (by rw[e];exact True.intro) (.inr ho) (fun b q hb z=>(sb.2 b hb).trans z) hd ?_;refine⟨by rw[ak O.ne];exact ho,?_,O.ne,O'.obj,_,O'.ns,fun g=>?_,fun g hg=>?_⟩
 .have:=dX f y fs;lia
 .show kC ((dD f y fs).lookup g) (if g=f then some u else mA g);rw[bi];by_cases q:g=f
  .rw[ao q,ao q];exact ry
  .rw[ap q,ap q];exact r g
 .by_cases q:g=f
  .rw[q];exact(nz f y fs).1
  .refine(nz f y fs).2 g (wi g fun z=>hg ?_);show (if g=f then some u else mA g)=none;rw[ap q];exact z
theorem aK.made(I:aK X ae σ H s):aK X ae σ (upd (upd H s.heap.objs.size (.own (s.heap.objs.size+1))) (s.heap.objs.size+1) (.ins C s.heap.objs.size []))
  { s with heap:=(s.heap.push PySem.W.emptyDict).push (PySem.W.instObj C s.heap.objs.size) }:=by
 have e1:(s.heap.push PySem.W.emptyDict).get? s.heap.objs.size=some PySem.W.emptyDict:=cW s.heap rfl;have e2:((s.heap.push PySem.W.emptyDict).push (PySem.W.instObj C s.heap.objs.size)).get? (s.heap.objs.size+1)=some (PySem.W.instObj C s.heap.objs.size):=by
  have:=cW (s.heap.push PySem.W.emptyDict) (o:=PySem.W.instObj C s.heap.objs.size) rfl;rwa [iK] at this
 have e3:(s.heap.push PySem.W.emptyDict).Ns s.heap.objs.size (fun _=>none):=⟨PySem.W.emptyDict,#[],_,e1,rfl,(fun e he=>absurd he (by simp)),fun _=>rfl⟩
 have I1:=I.laid (a:=s.heap.objs.size) (o:=.own (s.heap.objs.size+1)) (h':=s.heap.push PySem.W.emptyDict) (t':=s.toks) (fun b u q=>cq _ q) (aZ _) ⟨_,e1⟩;refine I1.laid (a:=s.heap.objs.size+1) (o:=.ins C s.heap.objs.size []) (t':=s.toks) (fun b u q=>cq _ q) (ug (iK _ _)) ?_;have ne:s.heap.objs.size≠s.heap.objs.size+1:=aW (jy _);refine⟨by rw[ak ne,af],dg _,ne,e2,fun _=>none,(Heap.Ns1.of_empty e3).at fun o q=>cq _ q,fun _=>True.intro,fun y hy=>absurd rfl hy⟩
theorem F6(hb:attributeBase e f env (eval e env)=eval e env)(h:wpAny (model prog w) A (eval e env) (fun o s₁=>wpAny (model prog w) A (getAttr o f true) Q E s₁) E s):wpAny (model prog w) A (eval (.Attribute e f pos) env) Q E s:=
 Attribute_any_ h (by rw[arm_eval_Attribute,hb])
end
def Kx(K:PySem.W.Frag)(ta:TE)(f:Str):TE:=fun σ H Q=>ta σ H fun x H1=>∃a C dx fs v,x=.ref a/\H1 a=some (.ins C dx fs)/\FE K C/\ie K C f/\fs.lookup f=some v/\Q v H1
def TX(K:PySem.W.Frag)(ta tv:TE)(f:Str):TS:=fun D σ H=>tv σ H fun y H1=>ta σ H1 fun x H2=>∃a C dx fs,x=.ref a/\H2 a=some (.ins C dx fs)/\FE K C/\ie K C f/\fs.length<1000/\
 D.nx σ (upd H2 a (.ins C dx (dD f y fs)))
section
variable {X:Cx} {o e value:Expr} {f:Str} {pos oH Ky:Pos} {ta tv:TE}
theorem nA(he:PE X e ta)(hb:attributeBase e f X.env (eval e X.env)=eval e X.env):PE X (.Attribute e f pos) (Kx X.K ta f):=by
 intro ae s σ H Q I h;refine F6 hb (bZ (he ae s σ H _ I h) fun u s1 ⟨x,H1,I1,rx,a,C,dx,fs,v,ex,ea,c,n,l,q⟩=>?_);subst ex;obtain rfl:u=Value.ref a:=rx;exact yz I1 ea c n l fun u' s2 I2 ru=>⟨v,H1,I2,ru,q⟩
theorem uy(ha:PE X o ta)(hv:PE X value tv)(hs:swapsWith value (some (.Attribute o f oH)) pos.line X.env=pure false):PS X (.Assign [.Attribute o f oH] value pos) (TX X.K ta tv f):=by
 intro ae s σ H D I h;refine plainObj_wpAny_Assign_Attribute (bZ (hv ae s σ H _ I h) fun u s1 ⟨y,H1,I1,ry,q⟩=>bZ (ha ae s1 σ H1 _ I1 q) fun ov s2 ⟨x,H2,I2,rx,a,C,dx,fs,ex,ea,c,n,l,q2⟩=>?_) hs;subst ex;obtain rfl:ov=Value.ref a:=rx;exact yB I2 ea c n l ry fun s3 I3=>⟨σ,_,I3,q2⟩
end
section
variable {X:Cx} {ae:List (Addr×Obj)} {σ:St} {H:Hp} {s:Shared} {A:Around} {E:Value->Shared->Prop} {Q:Value->Shared->Prop} {c:Value} {b:Bool}
inductive nB (K:PySem.W.Frag) (H:Hp):V->Value->Prop where
 |bJ:nB K H .bJ (.type "NoneType")
 |bl (x:Bool):nB K H (.bl x) (.type "bool")
 |int (i:Int):nB K H (.int i) (.type "int")
 |str (x:Str):nB K H (.str x) (.type "str")
 |IY (x:UInt64):nB K H (.IY x) (.type "float")
 |lst {a:Addr} {xs:List V} (e:H a=some (.lst xs)):nB K H (.ref a) (.type "list")
 |iI {a:Addr} {o:Obj} {xs:List V} (e:H a=some (.iI o (.lst xs))):nB K H (.ref a) (.type "list")
 |tup {a:Addr} {xs:List V} (e:H a=some (.tup xs)):nB K H (.ref a) (.type "tuple")
 |dK {a:Addr} {kvs:List (dq×V)} (e:H a=some (.dK kvs)):nB K H (.ref a) (.type "dict")
 |dT {a:Addr} {kvs:List (List dq×V)} (e:H a=some (.dT kvs)):nB K H (.ref a) (.type "dict")
 |ins {a C dx:Addr} {fs:List (Str×V)} (e:H a=some (.ins C dx fs)) (cl:FE K C) (ha:PySem.W.findIn K (.ref C) "__class__"=some (some (.builtin "object.__class__")))
   (hn:PySem.W.specialIn K (.builtin "object.__class__") "__get__"=some (some (.builtin "getset_descriptor.__get__"))) (TY:PySem.W.takesIn K (.builtin "object.__class__")=some true)
   (hm:PySem.W.mroIn K C (.type "object")=some true):nB K H (.ref a) (.ref C)
theorem Be(I:aK X ae σ H s)(rx:bf x u)(ty:nB X.K H x t)(e:PySem.W.kitOne X.K t c=some b)(h:∀tk,Q (.bool b) { s with toks:=tk }):
  wpAny (model X.prog X.w) A (call (.builtin "isinstance") [u,c]) Q E s:=by
 cases ty with
 |bJ=>cases (show u=Value.none from rx);exact jh PySem.W.kitx_none I.nt True.intro e (fun z=>nomatch z) h
 |bl y=>cases (show u=Value.bool y from rx);exact jh PySem.W.kitx_bool I.nt True.intro e (fun z=>nomatch z) h
 |int i=>obtain⟨t,q⟩:=(show ∃t,u=Value.int i t from rx);cases q;exact jh PySem.W.kitx_int I.nt True.intro e (fun z=>nomatch z) h
 |str y=>obtain⟨t,q⟩:=(show ∃t,u=Value.str y t from rx);cases q;exact jh PySem.W.kitx_str I.nt True.intro e (fun z=>nomatch z) h
 |IY y=>obtain⟨t,q⟩:=(show ∃t,u=Value.float y t from rx);cases q;exact jh PySem.W.kitx_float I.nt True.intro e (fun z=>nomatch z) h
 |@lst a xs ea=>
  cases (show u=Value.ref a from rx);obtain⟨_,_,n,_,h1⟩:=(show bR X.prog X.w H s.heap a (.lst xs) from I.bC a _ ea)
  exact jh PySem.W.kitx_list I.nt ⟨_,h1,rfl⟩ e (fun z=>nomatch z) h
 |@iI a ob xs ea=>
  cases (show u=Value.ref a from rx);obtain⟨_,_,_,n,_,h1⟩:=(show bR X.prog X.w H s.heap a (.iI ob (.lst xs)) from I.bC a _ ea)
  exact jh PySem.W.kitx_list I.nt ⟨_,h1,rfl⟩ e (fun z=>nomatch z) h
 |@tup a xs ea=>
  cases (show u=Value.ref a from rx);obtain⟨_,_,_,p⟩:=(show bR X.prog X.w H s.heap a (.tup xs) from I.bC a _ ea)
  obtain⟨o,h1,h2,_⟩:=p;exact jh PySem.W.kitx_tuple I.nt ⟨o,h1,h2⟩ e (fun z=>nomatch z) h
 |@dK a kvs ea=>
  cases (show u=Value.ref a from rx);obtain⟨_,_,vs,_,p⟩:=(show bR X.prog X.w H s.heap a (.dK kvs) from I.bC a _ ea)
  obtain⟨o,es,ep,h1,h2,_⟩:=p;exact jh PySem.W.kitx_dict I.nt ⟨o,h1,h2.1⟩ e (fun z=>nomatch z) h
 |@dT a kvs ea=>
  cases (show u=Value.ref a from rx);obtain⟨_,_,xs,_,o,es,ep,h1,h2,_⟩:=(show bR X.prog X.w H s.heap a (.dT kvs) from I.bC a _ ea)
  exact jh PySem.W.kitx_dict I.nt ⟨o,h1,h2.1⟩ e (fun z=>nomatch z) h
 |@ins a C dx fs ea cl ha hn TY hm=>
  cases (show u=Value.ref a from rx);obtain⟨mA,O,_⟩:=oZ I.bC ea;obtain⟨od,J,_⟩:=O.look;exact jh (PySem.W.kitx_own (cl.get _) cl.hd ha hn TY hm) I.nt J e (fun z=>nomatch z) h
end
structure bW(k:Nat)(A:Around):Prop where
 hd:A.handled=none
 dp:A.depth+3*k+5<recursionLimit
 un:A.units+16*k+200<cLine
 gd:A.guards=some []
theorem bW.mono(r:bW k A)(h:j<=k):bW j A:=⟨r.hd,by have:=r.dp;lia,by have:=r.un;lia,r.gd⟩
theorem bW.deeper(r:bW (k+1) A)(env:Env):bW k (A.deeper env):=
 ⟨r.hd,by have:=r.dp;show A.depth+1+3*k+5<_;lia,by have:=r.un;show A.units+3+16*k+200<_;lia,r.gd⟩
theorem yC{A:Around}{C:Addr}{us:List Value}{kw:List (Str×Value)}:(A.under (.builtin "type.__call__" ⟨.ref C::us,kw⟩)).depth=A.depth+1:=by
 first|rfl|simp[Around.under,Code.weight,Code.isCreation,Code.isGuard,Code.isCaller,Code.frames,Code.isFrame,guardIds]
theorem yD{A:Around}{C:Addr}{us:List Value}{kw:List (Str×Value)}:(A.under (.builtin "type.__call__" ⟨.ref C::us,kw⟩)).units=A.units+1:=by
 first|rfl|simp[Around.under,Code.cUnits,Code.frames,Code.isFrame]
theorem bW.make(r:bW (k+1) A)(C:Addr)(us:List Value)(kw:List (Str×Value)):bW k (A.under (.builtin "type.__call__" ⟨.ref C::us,kw⟩)):=
 ⟨r.hd,by have:=r.dp;rw[yC];lia,by have:=r.un;rw[yD];lia,r.gd⟩
theorem bW.depth(r:bW k A):A.depth<recursionLimit:=by have:=r.dp;lia
theorem bW.u(r:bW k A)(h:n<=200:=by decide):A.units+n<cLine:=by have:=r.un;lia
def lJ:TA:=fun _ H Q=>Q [] H
def cH(ta:TE)(tr:TA):TA:=fun σ H Q=>ta σ H fun x H1=>tr σ H1 fun xs H2=>Q (x::xs) H2
section
variable {X:Cx} {e:Expr} {es:List Expr} {te:TE} {t:TA} {pos:Pos}
theorem ag:PA X [] lJ:=fun _ _ _ _ H Q I h=>Calls.spliced_nil ⟨[],H,I,.nil,h⟩
theorem aa(ha:PE X e te)(hr:PA X es t)(hs:starEach (e::es) X.env=(false,eval e X.env)::starEach es X.env:=by rfl):PA X (e::es) (cH te t):=by
 intro pos ae s σ H Q I h;rw[hs];show wpAny _ _ (spliced ((false,eval e X.env)::backTo pos (starEach es X.env))) _ _ s;refine Calls.spliced_cons (bZ (ha ae s σ H _ I h) fun u s1 ⟨x,H1,I1,r1,q1⟩=>?_);exact bZ (hr pos ae s1 σ H1 _ I1 q1) fun us s2 ⟨xs,H2,I2,r2,q2⟩=>⟨x::xs,H2,I2,.cons r1 r2,q2⟩
def yE(t:TA):TE:=fun σ H Q=>t σ H fun xs H1=>xs.length<=sizeLine/\∀p,H1 p=none->Q (.ref p) (upd H1 p (.tup xs))
def Oj(t:TA):TE:=fun σ H Q=>t σ H fun xs H1=>xs.length<=sizeLine/\∀p,H1 p=none->Q (.ref p) (upd H1 p (.lst xs))
theorem f_{x1}(h:PA X es t):PE X (.Tuple es x1 pos) (yE t):=by
 intro ae s σ H Q I hq;refine wpAny_Tuple_spliced (bZ (h pos ae s σ H _ I hq) fun us s1 ⟨xs,H1,I1,r,z,q⟩=>⟨by rw[<-r.length];exact z,?_⟩);have hf:H1 s1.heap.objs.size=none:=I1.bC.fresh (aZ _);refine⟨.ref s1.heap.objs.size,upd H1 s1.heap.objs.size (.tup xs),I1.laid (t':=s1.toks) (fun b u e=>cq _ e) (aZ _) ?_,rfl,q _ hf⟩;exact⟨z,us,r,⟨_,cW _ rfl,rfl,_,rfl,rfl⟩⟩
theorem dY(h:PA X es t):PE X (.List es pos) (Oj t):=by
 intro ae s σ H Q I hq;refine wpAny_List_spliced (bZ (h pos ae s σ H _ I hq) fun us s1 ⟨xs,H1,I1,r,z,q⟩=>⟨by rw[<-r.length];exact z,?_⟩);have hf:H1 s1.heap.objs.size=none:=I1.bC.fresh (aZ _);refine⟨.ref s1.heap.objs.size,upd H1 s1.heap.objs.size (.lst xs),I1.laid (t':=s1.toks) (fun b u e=>cq _ e) (aZ _) ?_,rfl,q _ hf⟩;exact⟨z,us,0,r,cW _ rfl⟩
end
abbrev Sp:=List V->Hp->VK->XK->Prop
abbrev vP:=List Env->Hp->Shared->XK->Value->Shared->Prop
structure vQ(P:Program)(w:World)(K:PySem.W.Frag)(mg:Str->Option Value)(base:Heap)(A:Around)(outer:List Env)(s:Shared)(H:Hp):Prop where
 frames:A.frames=some outer
 mod:Mod K mg base
 bs:∀b o,base.get? b=some o->s.heap.get? b=some o/\H b=none
 Cn:base.objs.size<=s.heap.objs.size
 nr:s.heap.FunFrames base outer
 Ke:∀b∈A_ outer,H b=none
 bC:iP P w H s.heap
 bare:AllBare s.gens
def CE(outer:List Env)(P:Program)(w:World)(H:Hp)(s:Shared)(Q:VK)(u:Value)(s':Shared):Prop:=
 ∃v H',s'.os=s.os/\AllBare s'.gens/\Un (A_ outer) [] H H' s.heap s'.heap/\iP P w H' s'.heap/\bf v u/\Q v H'
def CR(CX:vP)(outer:List Env)(P:Program)(w:World)(H:Hp)(s:Shared)(Q:VK)(E:XK)(r:Result)(s':Shared):Prop:=
 match r with
 |.ok (.ret u)=>CE outer P w H s Q u s'
 |.ok _=>False
 |.error e=>CX outer H s E e s'
structure bv(P:Program)(w:World)(K:PySem.W.Frag)(mg:Str->Option Value)(base:Heap)(CX:vP)(k:Nat)(f:Addr)(fd:FuncData)(ps:List Str)(sp:Sp):Prop where
 len:∀vs H Q E,sp vs H Q E->vs.length=ps.length
 run:∀ (A:Around) (outer:List Env) (s:Shared) (H:Hp) (args:Args) (us:List Value) (vs:List V) (Q:VK) (E:XK),bW k A->vQ P w K mg base A outer s H->BindsTo s fd args (ps.zip us)->aV vs us->sp vs H Q E->
  codeAny (model P w) A (.call (.ref f) args) (CR CX outer P w H s Q E) s
theorem vQ.make{P:Program}{w:World}{K:PySem.W.Frag}{mg:Str->Option Value}{base:Heap}{A:Around}{outer:List Env}{s:Shared}{H:Hp}(e:vQ P w K mg base A outer s H)(C:Addr)(us:List Value)(kw:List (Str×Value)):
  vQ P w K mg base (A.under (.builtin "type.__call__" ⟨.ref C::us,kw⟩)) outer s H:=⟨by first|exact e.frames|(simpa [Around.under,Code.envs,Code.isFrame,pushEnvs] using e.frames),e.mod,e.bs,e.Cn,e.nr,e.Ke,e.bC,e.bare⟩
section
variable {X:Cx} {ae:List (Addr×Obj)} {σ:St} {H:Hp} {s s':Shared}
theorem aK.Kz(I:aK X ae σ H s):vQ X.prog X.w X.K X.mg X.base X.A X.stack s H:=
 ⟨I.ok.frames,I.ok.mod,I.bs,br I.ok.Cn I.sz,I.stack,I.oW,I.bC,I.bare⟩
theorem aK.after(I:aK X ae σ H s)(h:CE X.stack X.prog X.w H s Q u s'):EP X ae σ Q u s':=by
 obtain⟨v,H',os,bare,un,bC,r,q⟩:=h;obtain⟨hh,g,d,t,Zt⟩:=s';obtain rfl:Zt=s.os:=os;exact⟨v,H',I.call (h':=hh) (g':=g) (d':=d) (t':=t) (ch:=[]) un bC bare (fun b z=>absurd z (by simp)),r,q⟩
end
def r_(sp:Sp)(rj:List V)(E:XK)(t:TA):TE:=fun σ H Q=>t σ H fun vs H1=>sp (vs++rj) H1 Q E
def Ol(C:Addr)(m:Str)(sp:Sp)(rj:List V)(E:XK)(ta:TE)(t:TA):TE:=fun σ H Q=>ta σ H fun x H1=>∃a dx fs,x=.ref a/\H1 a=some (.ins C dx fs)/\fs.lookup m=none/\
 t σ H1 fun vs H2=>sp (x::(vs++rj)) H2 Q E
def Om(C:Addr)(sp:Sp)(rj:List V)(E:XK)(t:TA):TE:=fun σ H Q=>t σ H fun vs H1=>∀x dx,H1 x=none->H1 dx=none->dx≠x->
 sp (.ref x::(vs++rj)) (upd (upd H1 dx (.own x)) x (.ins C dx [])) (fun v H2=>v=.bJ/\Q (.ref x) H2) E
def jK(K:PySem.W.Frag)(fd:FuncData)(ps:List Str)(ds:List Value):Prop:=
 ∀ (s:Shared) (us:List Value),K.In s.heap->(us++ds).length=ps.length->BindsTo s fd ⟨us,[]⟩ (ps.zip (us++ds))
theorem jK.all{K:PySem.W.Frag}{fd:FuncData}{ps:List Str}(h:∀us:List Value,us.length=ps.length->bindArgs fd ⟨us,[]⟩=pure (ps.zip us)):jK K fd ps []:=fun s us _ hl=>by
 rw[m5] at hl |-;exact .of_eq (h us hl)
def lK(CX:vP)(X:Cx)(E:XK):Prop:=∀ (ae:List (Addr×Obj)) (σ:St) (H:Hp) (s:Shared) (e:Value) (s':Shared),aK X ae σ H s->CX X.stack H s E e s'->X.xe e s'
section
variable {X:Cx} {CX:vP} {k:Nat} {f C:Addr} {fd:FuncData} {ps:List Str} {sp:Sp} {rj:List V} {ds:List Value} {E:XK} {x m:Str} {p pos uz:Pos} {e o:Expr} {es:List Expr} {ta:TE} {t:TA}
theorem C5(F:bv X.prog X.w X.K X.mg X.base CX k f fd ps sp)(hr:bW k X.A)(hb:jK X.K fd ps ds)(hd:aV rj ds)(hx:lK CX X E)(I:aK X ae σ H s)(r:aV vs us)(h:sp (vs++rj) H Q E):wpAny (model X.prog X.w) X.A (call (.ref f) us) (EP X ae σ Q) X.xe s:=by
 have r2:aV (vs++rj) (us++ds):=r.append hd;have hl:(us++ds).length=ps.length:=by rw[<-r2.length];exact F.len _ _ _ _ h
 refine m7 (lC (F.run X.A X.stack s H ⟨us,[]⟩ (us++ds) (vs++rj) Q E hr I.Kz (hb s us I.nt hl) r2 h) fun r s' hq=>?_);cases r with
 |error e=>exact hx ae σ H s e s' I hq
 |ok fl=>
  cases fl with
  |ret u=>exact I.after hq
  |next=>exact False.elim hq
  |brk=>exact False.elim hq
  |cont=>exact False.elim hq
theorem F7(F:bv X.prog X.w X.K X.mg X.base CX k f fd ps sp)(hr:bW k X.A)(hg:Gl X x)(hm:X.mg x=some (.ref f))(hk:PySem.W.keepIn X.K (.ref f)=true)(hb:jK X.K fd ps ds)(hd:aV rj ds)(hx:lK CX X E)(ha:PA X (e::es) t)(Bg:(x==("__debug__":Str))=false:=by decide)(he:starEach (e::es) X.env=(false,eval e X.env)::starEach es X.env:=by rfl)(xr:(backTo pos (starEach es X.env)).any (·.1)=false:=by rfl):
  PE X (.Call (.Name x p) (e::es) [] pos) (r_ sp rj E t):=by
 intro ae s σ H Q I h;refine lj (oX I hg hm ?_ Bg);refine tS (h₀:=X.base) I.ok.mod.Ni hk (bZ (ha pos ae s σ H _ I h) fun us s1 ⟨vs,H1,I1,r,q⟩=>⟨I1.nt,?_⟩) he xr;exact C5 F hr hb hd hx I1 r q
theorem iU(he:PE X o ta)(c:FE X.K C)(hm:Kw X.K C m f)(F:bv X.prog X.w X.K X.mg X.base CX k f fd ps sp)(hr:bW k X.A)(hb:jK X.K fd ps ds)(hd:aV rj ds)(hx:lK CX X E)(ha:PA X (e::es) t)(nu:starEach (e::es) X.env=(false,eval e X.env)::starEach es X.env:=by rfl)(xr:(backTo pos (starEach es X.env)).any (·.1)=false:=by rfl)(ht:eval (.Call (.Attribute o m uz) (e::es) [] pos) X.env=(do
   let ov <- eval o X.env
   standAt uz.atName
   let (f,first) <- holding [ov] (getMethod ov m pl)
   callWith pos f first (backTo pos (starEach (e::es) X.env)) (backToKw pos (keywordEach [] X.env))):=by rfl):
  PE X (.Call (.Attribute o m uz) (e::es) [] pos) (Ol C m sp rj E ta t):=by
 intro ae s σ H Q I h;refine PySem.W.methodCall_KW (pl:=pl) (bZ (he ae s σ H _ I h) fun u s1 ⟨x,H1,I1,rx,a,dx,fs,ex,ea,l,q⟩=>?_) ht;subst ex;obtain rfl:u=Value.ref a:=rx;refine yA I1 ea c hm l ?_;refine tS (first:=[.ref a]) (h₀:=X.base) I.ok.mod.Ni hm.kp (bZ (ha pos ae s1 σ H1 _ I1 q) fun us s2 ⟨vs,H2,I2,r,q2⟩=>⟨I2.nt,?_⟩) nu xr;exact C5 (us:=.ref a::us) (vs:=.ref a::vs) F hr hb hd hx I2 (.cons rfl r) q2
structure Mk(K:PySem.W.Frag)(C f:Addr):Prop where
 makes:PySem.W.makesIn K C=true
 init:PySem.W.findIn K (.ref C) "__init__"=some (some (.ref f))
 fn:PySem.W.isFn K (.ref f)=true
 kp:PySem.W.keepIn K (.ref C)=true
theorem C6(M:Mk X.K C f)(F:bv X.prog X.w X.K X.mg X.base CX k f fd ps sp)(hr:bW (k+1) X.A)(hb:jK X.K fd ps ds)(hd:aV rj ds)(hx:lK CX X E)(I:aK X ae σ H s)(r:aV vs us)(h:∀x dx,H x=none->H dx=none->dx≠x->sp (.ref x::(vs++rj)) (upd (upd H dx (.own x)) x (.ins C dx [])) (fun v H2=>v=.bJ/\Q (.ref x) H2) E):
  wpAny (model X.prog X.w) X.A (call (.ref C) us) (EP X ae σ Q) X.xe s:=by
 have hq:=h (s.heap.objs.size+1) s.heap.objs.size (I.bC.fresh (Nat.le_succ _)) (I.bC.fresh (aZ _)) (aW (jy _));have I2:=aK.made (C:=C) I;have r2:aV (V.ref (s.heap.objs.size+1)::(vs++rj)) (Value.ref (s.heap.objs.size+1)::(us++ds)):=.cons rfl (r.append hd);have hl:(Value.ref (s.heap.objs.size+1)::us++ds).length=ps.length:=by
  have e:=r2.length;rw[F.len _ _ _ _ hq] at e;exact e.symm
 refine m7 (C4 (f:=f) I.nt M.makes M.init (gZ.mp M.fn) (lC (F.run _ X.stack _ _ ⟨Value.ref (s.heap.objs.size+1)::us,[]⟩ (Value.ref (s.heap.objs.size+1)::(us++ds)) _ _ E (hr.make C us [])
  (I2.Kz.make C us []) (hb _ (Value.ref (s.heap.objs.size+1)::us) I2.nt hl) r2 hq) fun r s' F8=>?_))
 cases r with
 |error e=>exact hx ae σ _ _ e s' I2 F8
 |ok fl=>
  cases fl with
  |ret u=>
   obtain⟨v,H',I3,rv,ev,q3⟩:=I2.after F8;subst ev;exact⟨rv,⟨V.ref (s.heap.objs.size+1),H',I3,rfl,q3⟩⟩
  |next=>exact False.elim F8
  |brk=>exact False.elim F8
  |cont=>exact False.elim F8
theorem F9(M:Mk X.K C f)(F:bv X.prog X.w X.K X.mg X.base CX k f fd ps sp)(hr:bW (k+1) X.A)(hg:Gl X x)(hm:X.mg x=some (.ref C))(hb:jK X.K fd ps ds)(hd:aV rj ds)(hx:lK CX X E)(ha:PA X (e::es) t)(Bg:(x==("__debug__":Str))=false:=by decide)(he:starEach (e::es) X.env=(false,eval e X.env)::starEach es X.env:=by rfl)(xr:(backTo pos (starEach es X.env)).any (·.1)=false:=by rfl):
  PE X (.Call (.Name x p) (e::es) [] pos) (Om C sp rj E t):=by
 intro ae s σ H Q I h;refine lj (oX I hg hm ?_ Bg);refine tS (h₀:=X.base) I.ok.mod.Ni M.kp (bZ (ha pos ae s σ H _ I h) fun us s1 ⟨vs,H1,I1,r,q⟩=>⟨I1.nt,?_⟩) he xr;exact C6 M F hr hb hd hx I1 r q
end
def PK(X:Cx)(C7:List Keyword)(t:TA):Prop:=
 ∀ (pos:Pos) (ae:List (Addr×Obj)) (s:Shared) (σ:St) (H:Hp) (Q:List V->Hp->Prop),aK X ae σ H s->t σ H Q->wpAny (model X.prog X.w) X.A (evalAll ((backToKw pos (keywordEach C7 X.env)).map (·.2))) (AP X ae σ Q) X.xe s
section
variable {X:Cx} {CX:vP} {k:Nat} {f C:Addr} {fd:FuncData} {ps ks:List Str} {sp:Sp} {E:XK} {x m:Str} {p pos uz TZ:Pos} {e o:Expr} {es:List Expr} {C7:List Keyword} {te ta:TE} {t tk:TA} {nm:Option Str}
theorem KA:PK X [] lJ:=fun _ _ _ _ H Q I h=>wpAny_evalAll_nil ⟨[],H,I,.nil,h⟩
theorem F_(ha:PE X e te)(hr:PK X C7 t):PK X (⟨nm,e,TZ⟩::C7) (cH te t):=by
 intro pos ae s σ H Q I h;show wpAny _ _ (evalAll ((do let v <- eval e X.env;standAt pos;pure v)::(backToKw pos (keywordEach C7 X.env)).map (·.2))) _ _ s;refine wpAny_evalAll_cons (aI (bZ (ha ae s σ H _ I h) fun u s1 ⟨x,H1,I1,r1,q1⟩=>aI (pY (wpAny_pure ?_))));exact bZ (hr pos ae s1 σ H1 _ I1 q1) fun us s2 ⟨xs,H2,I2,r2,q2⟩=>⟨x::xs,H2,I2,.cons r1 r2,q2⟩
variable {g:List Value->List Value->List Value} {gV:List V->List V->List V}
end
structure aG(N P:List Str)(sc:Scope):Prop where
 kind:sc.kind=.function
 co:sc.isCoroutine=false
 gen:sc.isGenerator=false
 nd:N.Nodup
 pre:N.take P.length=P
 par:∀x∈P,sc.names.lookup x=some .local\/sc.names.lookup x=some .cell
 KB:∀y∈sc.names,y.2≠.free
theorem sd{kindOf:Str->Option NameKind}{x:Str}:∀ {binds:List (Str×Value)} {m:Str->Option Value},(∀v,(x,v)∉binds)->bindL kindOf binds m x=m x
 |[],_,_=>rfl
 |(n,v)::r,m,h=>by
  unfold bindL;rw[sd fun w hw=>h w (cC _ hw)];split
  .have:x≠n:=by rintro rfl;exact h v b9
   simp[this]
  .rfl
theorem sf{kindOf:Str->Option NameKind}{x:Str}:∀ {binds:List (Str×Value)} {m:Str->Option Value},(∀v,(x,v)∉binds)->bindC kindOf binds m x=m x
 |[],_,_=>rfl
 |(n,v)::r,m,h=>by
  unfold bindC;rw[sf fun w hw=>h w (cC _ hw)];split
  .rfl
  .have:x≠n:=by rintro rfl;exact h v b9
   simp[this]
theorem sg{kindOf:Str->Option NameKind}{x:Str}{v:Value}:∀ {P:List Str} {vs:List Value} {i:Nat} {m:Str->Option Value},P.Nodup->P[i]?=some x->vs[i]?=some v->kindOf x=some .local->
  bindL kindOf (P.zip vs) m x=some v
 |[],_,_,_,_,h,_,_=>by simp at h
 |_::_,[],_,_,_,_,h,_=>by simp at h
 |p::P,w::vs,0,m,nd,h1,h2,hk=>by
  simp at h1 h2;subst h1;subst h2;show bindL kindOf ((p,w)::P.zip vs) m p=_;unfold bindL;rw[sd fun v hv=>(dR.mp nd).1 (m4 hv).1,ao hk];simp
 |p::P,w::vs,i+1,m,nd,h1,h2,hk=>by
  show bindL kindOf ((p,w)::P.zip vs) m x=_;unfold bindL;exact sg (i:=i) (dR.mp nd).2 (by simpa using h1) (by simpa using h2) hk
theorem si{kindOf:Str->Option NameKind}{x:Str}{v:Value}:∀ {P:List Str} {vs:List Value} {i:Nat} {m:Str->Option Value},P.Nodup->P[i]?=some x->vs[i]?=some v->kindOf x≠some .local->
  bindC kindOf (P.zip vs) m x=some v
 |[],_,_,_,_,h,_,_=>by simp at h
 |_::_,[],_,_,_,_,h,_=>by simp at h
 |p::P,w::vs,0,m,nd,h1,h2,hk=>by
  simp at h1 h2;subst h1;subst h2;show bindC kindOf ((p,w)::P.zip vs) m p=_;unfold bindC;rw[sf fun v hv=>(dR.mp nd).1 (m4 hv).1,ap hk];simp
 |p::P,w::vs,i+1,m,nd,h1,h2,hk=>by
  show bindC kindOf ((p,w)::P.zip vs) m x=_;unfold bindC;exact si (i:=i) (dR.mp nd).2 (by simpa using h1) (by simpa using h2) hk
def start(N:List Str)(vs:List V):St:=vs.map some++List.replicate (N.length-vs.length) none
def uA(CX:vP)(P:Program)(w:World)(K:PySem.W.Frag)(mg:Str->Option Value)(base:Heap)(N:List Str)(qual:Str)(scope:Scope)(f:Addr)(cd:Value)(A:Around)(outer:List Env)(s:Shared)(H:Hp)(E:XK):Cx where
 prog:=P
 w:=w
 K:=K
 mg:=mg
 base:=base
 A:=A.deeper (envOfC qual scope s.heap.objs.size f cd)
 N:=N
 s₀:=s
 H₀:=H
 env:=envOfC qual scope s.heap.objs.size f cd
 outer:=outer
 stack:=envOfC qual scope s.heap.objs.size f cd::outer
 ex:=[]
 calm:=true
 fn:=fun _=>true
 pn:=[]
 xe:=fun e s'=>wpAny (model P w) (A.deeper (envOfC qual scope s.heap.objs.size f cd)) (leaving (envOfC qual scope s.heap.objs.size f cd) e) (fun _ On=>CX outer H s E e On) (fun e' On=>CX outer H s E e' On) s'
theorem vR{sc:Scope}{n:Nat}{x:Str}(h:sc.names.lookup x=some .cell):∃c,(cellsFrom n sc.names []).lookup x=some c:=by
 have q:=PySem.W.cellsFrom_some sc.names n [] (.inl h);exact pG.mp q
theorem Bh{CX:vP}{P:Program}{w:World}{K:PySem.W.Frag}{mg:Str->Option Value}{base:Heap}{N ps:List Str}{qual:Str}{scope:Scope}{f:Addr}{cd:Value}{A:Around}{outer:List Env}{s s1:Shared}{H:Hp}{E:XK}{us:List Value}{vs:List V}(S:aG N ps scope)(hd:A.handled=none)(e0:vQ P w K mg base A outer s H)(hl:vs.length=ps.length)(r:aV vs us)(x:InCallC s s.heap.objs.size (bindL (envOfC qual scope s.heap.objs.size f cd).kindOf (ps.zip us) fun _=>none) (cellsFrom (s.heap.objs.size+1) scope.names []) (bindC (envOfC qual scope s.heap.objs.size f cd).kindOf (ps.zip us) fun _=>none) s1):
  aK (uA CX P w K mg base N qual scope f cd A outer s H E) [] (start N vs) H s1:=by
 have xr:ps.length<=N.length:=by have:=congrArg List.length S.pre;rw[jf] at this;lia
 obtain⟨h1,tk,rfl,hk⟩:=x.done;have Nl:∀b:Addr,b∉(uA CX P w K mg base N qual scope f cd A outer s H E).ex:=fun b z=>absurd (show b∈([]:List Addr) from z) (by simp);refine⟨⟨e0.mod,S.kind,rfl,rfl,aZ _,fun y z c h1 h2=>?_,fun y hy=>?_,fun y c _ h=>?_,fun _=>hd,Around.frames_deeper e0.frames,.inr ⟨rfl,rfl⟩,fun b z=>absurd z (Nl b),e0.bs,e0.Cn,fun b _ _=>Nl b,fun b z=>absurd z (Nl b),e0.nr,e0.Ke⟩,
  rfl,e0.bare,Un.kept hk,⟨_,x.toInCall.ns,fun i y v h1 h2 h3=>?_⟩,fun y c h=>⟨_,x.cell y c h⟩,e0.bC.fresh (aZ _),fun y c h=>?_,fun p hp=>absurd (show p∈([]:List (Addr×Obj)) from hp) (by simp),e0.bC.kept hk,?_⟩
 .exact name_of_addr x.apart (jr h1) (jr h2)
 .have hy:scope.names.lookup y=some .cell\/scope.names.lookup y=some .free:=hy;rcases hy with hy|hy
  .exact vR hy
  .exact absurd rfl (S.KB _ (jr hy))
 .exact dI (x.above y c (jr h))
 .have hi:i<vs.length:=by
   unfold start at h2;by_cases hi:i<vs.length
   .exact hi
   .rw[n8 (by simpa using hi)] at h2;rw[xH] at h2;split at h2 <;> cases h2
  have ha:vs[i]?=some v:=by
   unfold start at h2;rw[ja (by simpa using hi),bo] at h2;cases e:vs[i]? with
   |none=>rw[e] at h2;cases h2
   |some a=>rw[e] at h2;cases h2;rfl
  obtain⟨u,hu,rv⟩:=r.get ha;have hp:ps[i]?=some y:=by
   rw[<-S.pre,xF (by lia)];exact h1
  have Xw:ps.Nodup:=by rw[<-S.pre];exact S.nd.sublist (tT _ _)
  refine⟨u,rv,?_⟩;rcases S.par y (dQ hp) with k|k
  .exact .inl ⟨k,sg Xw hp hu k⟩
  .obtain⟨c,e⟩:=vR (n:=s.heap.objs.size+1) k;refine .inr ⟨.inl k,c,e,?_⟩;have q:=x.cell y c e;rw[si Xw hp hu (by show scope.names.lookup y≠_;rw[k];decide)] at q;exact q
 .exact e0.bC.fresh (dI (x.above y c (jr h)))
 .unfold start;show _=N.length;rw[cr,aN,pC];lia
theorem Ji{CX:vP}{P:Program}{w:World}{K:PySem.W.Frag}{mg:Str->Option Value}{base:Heap}{k:Nat}{f:Addr}{name qual:Str}{params:Arguments}{body:List Stmt}{scope:Scope}{dV kV ml pm dM ct oc:Value}{an od:Option Addr}{xt:Array (Option Value)}{N ps:List Str}{sp:Sp}(lk:K.lookup f=some ⟨oc,od,.func (PySem.W.fnOf name qual params body scope dV kV ml pm an dM ct),xt⟩)(rV:PySem.W.codeIn K dM qual=true)(S:aG N ps scope)(len:∀vs H Q E,sp vs H Q E->vs.length=ps.length)(vS:∀ (A:Around) (outer:List Env) (s:Shared) (H:Hp) (vs:List V) (Q:VK) (E:XK),bW k (A.deeper (envOfC qual scope s.heap.objs.size f dM))->sp vs H Q E->
   ∃t,yp (uA CX P w K mg base N qual scope f dM A outer s H E) body t/\t { nx:=fun _ H'=>Q .bJ H',rt:=Q } (start N vs) H):
  bv P w K mg base CX (k+1) f (PySem.W.fnOf name qual params body scope dV kV ml pm an dM ct) ps sp:=by
 refine⟨len,fun A outer s H args us vs Q E hr e0 hb r FF=>?_⟩;have hl:=len _ _ _ _ FF;have KX:K.In s.heap:=e0.mod.Ni.keeps fun b o e=>(e0.bs b o e).1;have Zu:s.heap.NoLimit:=e0.mod.nolimit.keeps fun b o e=>(e0.bs b o e).1;have Oo:∀y∈ps.zip us,scope.names.lookup y.1=some .local\/(scope.names.lookup y.1=some .cell/\((cellsFrom (s.heap.objs.size+1) scope.names []).lookup y.1).isSome=true):=fun ⟨n,v⟩ hy=>by
  rcases S.par n (m4 hy).1 with q|q
  .exact .inl q
  .exact .inr ⟨q,PySem.W.cellsFrom_some _ _ _ (.inl q)⟩
 refine codeAny_call_function hr.depth (KX _ _ lk) rfl S.co S.gen rfl (PySem.W.codeRec_of KX rV) (hb _ _ _ _ ?_);refine wpAny_newFunctionEnv_cells S.kind Oo fun env he s1 x=>?_;subst he;refine⟨Zu.keeps x.toInCall.keep,codeAny_func ?_⟩;obtain⟨t,ht,hq⟩:=vS A outer s H vs Q E (hr.deeper _) FF;have I:aK (uA CX P w K mg base N qual scope f dM A outer s H E) [] (start N vs) H s1:=Bh S hr.hd e0 hl r x;refine ic (ht [] s1 (start N vs) H _ I hq) (fun fl s' hs=>?_) fun e s' hs=>hs;have fin:∀ {σ':St} {H':Hp} {v:V} {u:Value},aK (uA CX P w K mg base N qual scope f dM A outer s H E) [] σ' H' s'->bf v u->Q v H'->CE outer P w H s Q u s':=
  fun {σ' H' v u} J rv q=>⟨v,H',J.os,J.bare,J.base,J.bC,rv,q⟩
 cases fl with
 |ret u=>
  obtain⟨v,σ',H',J,rv,q⟩:=hs;exact fin J rv q
 |next=>
  obtain⟨σ',H',J,q⟩:=hs;exact fin (v:=V.bJ) (u:=Value.none) J rfl q
 |brk=>
  obtain⟨_,_,_,q⟩:=hs;exact False.elim q
 |cont=>
  obtain⟨_,_,_,q⟩:=hs;exact False.elim q
section
variable {X:Cx} {x:Str} {p pos:Pos} {e:Expr} {es:List Expr} {t:TA} {id T:String} {r:List V->Hp->VK->Prop}
def RV(r:List V->Hp->VK->Prop)(t:TA):TE:=fun σ H Q=>t σ H fun vs H1=>r vs H1 Q
theorem aA(hc:eO X (.builtin id) r)(hg:Gl X x)(hm:X.mg x=none)(hv:bootBuiltins x=some (.builtin id))(ha:PA X (e::es) t)(hn:x≠"__name__":=by decide)(Bg:(x==("__debug__":Str))=false:=by decide)(he:starEach (e::es) X.env=(false,eval e X.env)::starEach es X.env:=by rfl)(xr:(backTo pos (starEach es X.env)).any (·.1)=false:=by rfl):PE X (.Call (.Name x p) (e::es) [] pos) (RV r t):=by
 intro ae s σ H Q I h;refine lj (jG I hg hm hv ?_ hn Bg);exact PyProof.Rows.callWith_builtin1 (bZ (ha pos ae s σ H _ I h) fun us s1 ⟨vs,H1,I1,r1,q1⟩=>hc ae s1 σ H1 vs us Q I1 r1 q1) he xr
theorem dh(hc:eO X (.type T) r)(hg:Gl X x)(hm:X.mg x=none)(hv:bootBuiltins x=some (.type T))(ha:PA X (e::es) t)(hn:x≠"__name__":=by decide)(Bg:(x==("__debug__":Str))=false:=by decide)(he:starEach (e::es) X.env=(false,eval e X.env)::starEach es X.env:=by rfl)(xr:(backTo pos (starEach es X.env)).any (·.1)=false:=by rfl):PE X (.Call (.Name x p) (e::es) [] pos) (RV r t):=by
 intro ae s σ H Q I h;refine lj (jG I hg hm hv ?_ hn Bg);exact pF (bZ (ha pos ae s σ H _ I h) fun us s1 ⟨vs,H1,I1,r1,q1⟩=>hc ae s1 σ H1 vs us Q I1 r1 q1) he xr
end
end L2
namespace HT
open PySem PyProof.Rows
section
open PySem.SeqAt
open PySem.AutoSeq1 (wpAny_loadPart')
open PySem.MeetsSeq PySem.MeetsSeq2 PySem.MeetsSeq3
end
section
variable {prog:Program} {w:World} {A:Around} {E:Value->Shared->Prop} {s:Shared}
def vz(n d:Nat):Option Int->Nat
 |none=>d
 |some v=>if v<0 then (v+(n:Int)).toNat else min v.toNat n
end
end HT
namespace L2
open PySem PySem.Spec PyProof.Rows
abbrev TO:=St->Hp->(Option Int->Hp->Prop)->Prop
def PO(X:Cx)(e:Option Expr)(t:TO):Prop:=
 ∀ (ae:List (Addr×Obj)) (s:Shared) (σ:St) (H:Hp) (Q:Option Int->Hp->Prop),aK X ae σ H s->t σ H Q->
  wpAny (model X.prog X.w) X.A (evalPart e X.env) (fun u s'=>∃o H',aK X ae σ H' s'/\IsPart u o/\Q o H') X.xe s
def Ga:TO:=fun _ H Q=>Q none H
def Op(t:TE):TO:=fun σ H Q=>t σ H fun x H1=>∃i,x=.int i/\Q (some i) H1
theorem yF{ns:List Int}:∀ {us:List Value},aV (ns.map V.int) us->IntsAre us ns:=by
 induction ns with
 |nil=>intro us r;rw[lA] at r;cases r;exact .nil
 |cons n ns ih=>
  intro us r;rw[cX] at r;cases r with
  |cons r1 r2=>
   obtain⟨t,e⟩:=r1;subst e;exact .cons n t (ih r2)
section
variable {X:Cx} {e:Expr} {te:TE} {lo hi:Option Expr} {tl th:TO} {pos p2:Pos}
theorem zU:PO X none Ga:=by
 intro ae s σ H Q I h;rw[evalPart_none];exact wpAny_pure ⟨none,H,I,.none,h⟩
theorem zV(h:PE X e te):PO X (some e) (Op te):=by
 intro ae s σ H Q I hw;rw[evalPart_some];refine bZ (h ae s σ H _ I hw) fun u s1 ⟨x,H1,I1,r1,q1⟩=>?_;obtain⟨i,rfl,q⟩:=q1;obtain⟨t,rfl⟩:=r1;exact⟨some i,H1,I1,.int i t,q⟩
def Xx(X:Cx)(r:V->Option Int->Option Int->Hp->VK->Prop):Prop:=
 ∀ (ae:List (Addr×Obj)) (s:Shared) (σ:St) (H:Hp) (x:V) (v vl vu:Value) (lo hi:Option Int) (sl:Addr) (Q:VK),aK X ae σ H s->bf x v->s.heap.IsSliceOf sl vl vu .none->IsPart vl lo->IsPart vu hi->r x lo hi H Q->
  ∃T id,typeLookup (.type T) "__getitem__"=pure (some (.builtin id))/\s.TypeIs v T/\wpAny (model X.prog X.w) X.A (getItem v (.ref sl)) (EP X ae σ Q) X.xe s
def Zv(r:V->Option Int->Option Int->Hp->VK->Prop)(te:TE)(tl th:TO):TE:=fun σ H Q=>te σ H fun x H1=>tl σ H1 fun l H2=>th σ H2 fun u H3=>r x l u H3 Q
theorem vT(hr:Xx X r)(he:PE X e te)(hl:PO X lo tl)(hu:PO X hi th):PE X (.Subscript e (.Slice lo hi none p2) pos) (Zv r te tl th):=by
 intro ae s σ H Q I h;refine Subscript_ (bZ (he ae s σ H _ I h) fun v s1 ⟨x,H1,I1,r1,q1⟩=>?_);refine wpAny_Slice (bZ (hl ae s1 σ H1 _ I1 q1) fun vl s2 ⟨l,H2,I2,pl,q2⟩=>bZ (hu ae s2 σ H2 _ I2 q2) fun vu s3 ⟨u,H3,I3,pu,q3⟩=>?_);rw[evalPart_none];refine wpAny_pure ?_;have I4:aK X ae σ H3 { s3 with heap:=s3.heap.push { cls:=.type "slice",data:=.fields #[vl,vu,.none] } }:=I3.kept (t':=s3.toks) fun b ob q=>cq _ q;obtain⟨T,id,hT,ht,hg⟩:=hr ae { s3 with heap:=s3.heap.push { cls:=.type "slice",data:=.fields #[vl,vu,.none] } } σ H3 x v vl vu l u s3.heap.objs.size Q I4 r1 (Heap.IsSliceOf.new ..) pl pu q3;show wpAny (model X.prog X.w) X.A (subscriptTail e (.Slice lo hi none p2) v (.ref s3.heap.objs.size)) (EP X ae σ Q) X.xe { s3 with heap:=s3.heap.push { cls:=.type "slice",data:=.fields #[vl,vu,.none] } };exact tail_any (ops:=[.ref s3.heap.objs.size,v]) ht hT hg (by with_unfolding_all rfl)
def Bi(xs:List V)(lo hi:Option Int):List V:=(xs.drop (HT.vz xs.length 0 lo)).take (HT.vz xs.length xs.length hi-HT.vz xs.length 0 lo)
theorem vU(xs:List V)(lo hi:Option Int):(Bi xs lo hi).length<=xs.length:=by
 unfold Bi;rw[jf,yc];lia
end
def C8(n:Nat)(i:Int):Option Nat:=if 0<=i then (if i<n then some i.toNat else none) else if -(n:Int)<=i then some (i+n).toNat else none
def fu{α:Type}(xs:List α)(i:Int):Option α:=(C8 xs.length i).bind fun j=>xs[j]?
theorem zW(h:C8 n i=some j):seqIndex? i n=some j/\j<n/\-(n:Int)<=i/\i<n:=by
 unfold C8 at h;by_cases h0:0<=i
 .rw[ao h0] at h;by_cases h1:i<n
  .rw[ao h1] at h;have e:i.toNat=j:=aY h;exact⟨by rw[seqIndex_of h0 h1,e],by lia,by lia,h1⟩
  .rw[ap h1] at h;cases h
 .rw[ap h0] at h;by_cases h1:-(n:Int)<=i
  .rw[ao h1] at h;have e:(i+n).toNat=j:=aY h;exact⟨by rw[seqIndex_neg (by lia) h1,e],by lia,h1,by lia⟩
  .rw[ap h1] at h;cases h
theorem zX(h:fu xs i=some v):∃j,seqIndex? i xs.length=some j/\xs[j]?=some v/\j<xs.length/\-(xs.length:Int)<=i/\i<xs.length:=by
 unfold fu at h;cases e:C8 xs.length i with
 |none=>rw[e] at h;cases h
 |some j=>
  rw[e] at h;obtain⟨h1,h2,h3,h4⟩:=zW e;exact⟨j,h1,h,h2,h3,h4⟩
theorem bg{α:Type}{xs:List α}{j:Nat}{v:α}(h:xs[j]?=some v):fu xs (j:Int)=some v:=by
 have hj:j<xs.length:=(cK.mp h).1;have e:C8 xs.length (j:Int)=some j:=by
  unfold C8;rw[ao (by lia),ao (by lia)];simp
 unfold fu;rw[e];exact h
theorem mn(xs:List α)(v:α):fu (xs++[v]) (-1)=some v:=by
 have hl:(xs++[v]).length=xs.length+1:=by simp
 have e:C8 (xs++[v]).length (-1)=some xs.length:=by
  unfold C8;rw[hl,ap (by decide),ao (by lia)];congr 1;lia
 unfold fu;rw[e];show (xs++[v])[xs.length]?=some v;simp
def zY(b:Expr):Prop:=∀o i,subscripted b false o i=operate [o,i] (getItem o i)
def T4(X:Cx)(r:R2):Prop:=
 ∀ (value slice:Expr) (ae:List (Addr×Obj)) (s:Shared) (σ:St) (H:Hp) (x y:V) (v u:Value) (Q:VK),aK X ae σ H s->bf x v->bf y u->r x y H Q->
  subscripted slice false v u=operate [v,u] (getItem v u)->wpAny (model X.prog X.w) X.A (subscriptTail value slice v u) (EP X ae σ Q) X.xe s
def Zw(X:Cx)(id:String)(r:V->List V->Hp->VK->Prop):Prop:=
 ∀ (ae:List (Addr×Obj)) (s:Shared) (σ:St) (H:Hp) (x:V) (xs:List V) (v:Value) (us:List Value) (Q:VK),aK X ae σ H s->bf x v->aV xs us->r x xs H Q->
  wpAny (model X.prog X.w) X.A (call (.builtin id) (v::us)) (EP X ae σ Q) X.xe s
section
variable {X:Cx} {a b:Expr} {ta tb:TE} {pos:Pos}
theorem au(hr:T4 X r)(ha:PE X a ta)(hb:PE X b tb)(hs:zY b):PE X (.Subscript a b pos) (mf r ta tb):=by
 intro ae s σ H Q I h;exact Subscript_ (Kr ha hb I h fun v u s2 x y H2 I2 rx ry q=>hr a b ae s2 σ H2 x y v u Q I2 rx ry q (hs _ _))
def Bj(K:PySem.W.Frag):R2:=fun x y H Q=>∃p xs i v,x=.ref p/\y=.int i/\aT K H p xs/\fu xs i=some v/\Q v H
def vV(K:PySem.W.Frag):R2:=fun x y H Q=>∃p xs i v,x=.ref p/\y=.int i/\cx K H p xs/\fu xs i=some v/\Q v H
theorem az:T4 X (Bj X.K):=by
 intro value slice ae s σ H x y v u Q I rx ry h hs;obtain⟨p,xs,i,z,rfl,rfl,hq,he,q⟩:=h;cases rx;obtain⟨t,rfl⟩:=ry;obtain⟨its,r,pl,hz⟩:=I.list hq;obtain⟨j,h1,h2,h3,h4,h5⟩:=zX he;obtain⟨w,ew,Gb⟩:=r.get h2;have hl:=r.length;have hn:=ux;have fin:EP X ae σ Q w s:=⟨z,H,I,Gb,q⟩
 by_cases h0:0<=i
 .have hj:i.toNat=j:=by
   rw[seqIndex_of h0 h5] at h1;exact aY h1
  exact item_listR pl.isList h0 (by lia) (by rw[hj];simpa using ew) fin hs
 .have hj:(i+(its.toArray.size:Int)).toNat=j:=by
   rw[seqIndex_neg (by lia) h4] at h1;rw[cu,<-hl];exact aY h1
  exact subscriptTail_builtinR (x:=w) pl.isList.typeIs slot_list_getitem.lookup
   (wpAny_getItem_list_neg (Q:=fun r s'=>r=w/\EP X ae σ Q r s') pl.isList (by lia) (by rw[cu] <;> lia) (by lia) (by rw[hj];simpa using ew) ⟨rfl,fin⟩) hs
theorem aU:T4 X (vV X.K):=by
 intro value slice ae s σ H x y v u Q I rx ry h hs;obtain⟨p,xs,i,z,rfl,rfl,hq,he,q⟩:=h;cases rx;obtain⟨t,rfl⟩:=ry;obtain⟨its,r,pl,hz⟩:=I.tuple hq;obtain⟨j,h1,h2,h3,h4,h5⟩:=zX he;obtain⟨w,ew,Gb⟩:=r.get h2;have hl:=r.length;have hn:=ux;have fin:EP X ae σ Q w s:=⟨z,H,I,Gb,q⟩
 exact subscriptTail_builtinR (x:=w) pl.typeIs slot_tuple_getitem.lookup
  (getItem_tuple (j:=j) (Q:=fun r s'=>r=w/\EP X ae σ Q r s') pl (by lia) (by lia) (by rw[cu,<-hl];exact h1) (by simpa using ew) ⟨rfl,fin⟩) hs
theorem yG(its:List Value)(n j:Nat)(u:Value):Obj.mapSeq (·.setIfInBounds j u) { cls:=.type "list",data:=.seq its.toArray n }={ cls:=.type "list",data:=.seq (its.set j u).toArray n }:=by
 simp[Obj.mapSeq]
theorem aK.lst(I:aK X ae σ H s)(h:H p=some (.lst xs)):
  ∃ (its:List Value) (n:Nat),aV xs its/\s.heap.get? p=some { cls:=.type "list",data:=.seq its.toArray n }/\xs.length<=sizeLine:=by
 obtain⟨z,its,n,r,e⟩:=I.bC p _ h;exact⟨its,n,r,e,z⟩
theorem aK.KC{ae:List (Addr×Obj)}{σ:St}{H:Hp}{s:Shared}{p:Addr}{xs ys:List V}{its its':List Value}{n n':Nat}{f:Obj->Obj}(I:aK X ae σ H s)(h:H p=some (.lst xs))(ho:s.heap.get? p=some { cls:=.type "list",data:=.seq its.toArray n })(hf:f { cls:=.type "list",data:=.seq its.toArray n }={ cls:=.type "list",data:=.seq its'.toArray n' })(r:aV ys its')(hz:ys.length<=sizeLine)(t:Nat):
  aK X ae σ (upd H p (.lst ys)) { s with heap:=s.heap.update p f,toks:=t }:=by
 have e:(s.heap.update p f).get? p=some { cls:=.type "list",data:=.seq its'.toArray n' }:=by
  rw[tR f ho (by rw[hf] <;> rfl),hf]
 refine I.write (x:=p) (e:=p) (by rw[h];trivial) (.inl rfl) (fun b u hb q=>(tP _ _ (Ne.symm hb)).trans q) ⟨_,e⟩ ?_;exact⟨hz,its',n',r,e⟩
def Oq:V->V->V->Hp->(Hp->Prop)->Prop:=fun o i v H Q=>∃p xs k j,o=.ref p/\i=.int k/\H p=some (.lst xs)/\C8 xs.length k=some j/\Q (upd H p (.lst (xs.set j v)))
theorem iy:Od X Oq:=by
 intro ae s σ H o i v ov iv u Q I ro ri rv h;obtain⟨p,xs,k,j,rfl,rfl,hp,hj,q⟩:=h;cases ro;obtain⟨t,rfl⟩:=ri;obtain⟨its,n,r,ho,hz⟩:=I.lst hp;obtain⟨h1,h2,h3,h4⟩:=zW hj;have hl:=r.length;have hn:=ux;have I':aK X ae σ (upd H p (.lst (xs.set j v))) { s with heap:=s.heap.update p (Obj.mapSeq (·.setIfInBounds j u)) }:=
  I.KC hp ho (yG its n j u) (r.set rv j) (by rw[lm];exact hz) s.toks
 by_cases h0:0<=k
 .have hk:k.toNat=j:=by
   rw[seqIndex_of h0 h4] at h1;exact aY h1
  exact PySem.W.ki_setAt ho h0 (by lia) (by rw[cu,<-hl];exact h4) (by rw[hk];exact⟨_,I',q⟩)
 .have hk:(k+(its.toArray.size:Int)).toNat=j:=by
   rw[seqIndex_neg (by lia) h3] at h1;rw[cu,<-hl];exact aY h1
  exact PySem.W.ki_setBack ho (by lia) (by rw[cu,<-hl];exact h3) (by lia) (by rw[hk];exact⟨_,I',q⟩)
theorem uB(lo hi:Option Int)(n:Nat):(sliceBounds lo hi none n).1=((HT.vz n 0 lo:Nat):Int)/\(sliceBounds lo hi none n).2.1=((HT.vz n n hi:Nat):Int)/\(sliceBounds lo hi none n).2.2=1:=by
 refine⟨?_,?_,rfl⟩
 .cases lo with
  |none=>simp[sliceBounds,HT.vz]
  |some i=>
   simp only[sliceBounds,HT.vz,Option.getD_none,show (1:Int) > 0 by decide,iO];by_cases h:i<0
   .simp only[h,iO] <;> lia
   .simp only[h,fA] <;> lia
 .cases hi with
  |none=>simp[sliceBounds,HT.vz]
  |some i=>
   simp only[sliceBounds,HT.vz,Option.getD_none,show (1:Int) > 0 by decide,iO];by_cases h:i<0
   .simp only[h,iO] <;> lia
   .simp only[h,fA] <;> lia
theorem rD(its:List Value)(lo hi:Option Int):slicePick its.toArray lo hi none=((its.drop (HT.vz its.length 0 lo)).take (HT.vz its.length its.length hi-HT.vz its.length 0 lo)).toArray:=by
 obtain⟨h1,h2,h3⟩:=uB lo hi its.toArray.size;unfold slicePick;rw[h1,h2,h3];simp only[sliceRange_one,pick_run,cu] <;> rfl
def T5(K:PySem.W.Frag):V->Option Int->Option Int->Hp->VK->Prop:=fun x lo hi H Q=>∃a xs,x=.ref a/\aT K H a xs/\∀p,H p=none->Q (.ref p) (upd H p (.lst (Bi xs lo hi)))
theorem zZ:Xx X (T5 X.K):=by
 intro ae s σ H x v vl vu lo hi sl Q I rx hs pl pu h;obtain⟨a,xs,rfl,hx,q⟩:=h;cases rx;obtain⟨its,r,ht,hz⟩:=I.list hx;have dZ:=r.length;refine⟨"list",_,slot_list_getitem.lookup,ht.isList.typeIs,?_⟩;refine wpAny_getItem_list_slice ht.isList hs pl pu .none (by simp) ?_ (by rw[cu] <;> lia);rw[rD,<-dZ];refine⟨.ref s.heap.objs.size,_,I.laid (t':=s.toks) (o:=.lst (Bi xs lo hi)) (fun b ob q=>cq _ q) (aZ _) ?_,rfl,q _ (I.bC.fresh (aZ _))⟩;exact⟨br (vU xs lo hi) hz,_,0,(r.drop (HT.vz xs.length 0 lo)).take (HT.vz xs.length xs.length hi-HT.vz xs.length 0 lo),cW _ rfl⟩
def gk:V->Bool
 |.bJ=>true
 |.bl _=>true
 |.int _=>true
 |.str _=>true
 |_=>false
def uC:V->V->Bool
 |.bJ,.bJ=>true
 |.bl a,.bl b=>a==b
 |.bl a,.int b=>(if a then 1 else 0)==b
 |.int a,.bl b=>a==(if b then 1 else 0)
 |.int a,.int b=>a==b
 |.str a,.str b=>a==b
 |_,_=>false
theorem C9(ry:bf y u)(rx:bf x v)(fy:gk y=true)(fx:gk x=true):SeqAt.EqAt A s u v (uC y x):=by
 cases y with
 |bJ=>
  cases ry;cases x with
  |bJ=>cases rx;exact SeqAt.EqAt.same _
  |bl b=>cases rx;exact SeqAt.EqAt.none_bool b
  |int b=>obtain⟨t,rfl⟩:=rx;exact SeqAt.EqAt.none_int b t
  |str b=>obtain⟨t,rfl⟩:=rx;exact SeqAt.EqAt.none_str b t
  |_=>exact absurd (show false=true from fx) cj
 |bl a=>
  cases ry;cases x with
  |bJ=>cases rx;exact SeqAt.EqAt.bool_none a
  |bl b=>cases rx;exact SeqAt.EqAt.bool_bool a b
  |int b=>obtain⟨t,rfl⟩:=rx;exact SeqAt.EqAt.bool_int a b t
  |str b=>obtain⟨t,rfl⟩:=rx;exact SeqAt.EqAt.bool_str a b t
  |_=>exact absurd (show false=true from fx) cj
 |int a=>
  obtain⟨t',rfl⟩:=ry;cases x with
  |bJ=>cases rx;exact SeqAt.EqAt.int_none a t'
  |bl b=>cases rx;exact SeqAt.EqAt.int_bool a t' b
  |int b=>obtain⟨t,rfl⟩:=rx;exact SeqAt.EqAt.int_int a t' b t
  |str b=>obtain⟨t,rfl⟩:=rx;exact SeqAt.EqAt.int_str a t' b t
  |_=>exact absurd (show false=true from fx) cj
 |str a=>
  obtain⟨t',rfl⟩:=ry;cases x with
  |bJ=>cases rx;exact SeqAt.EqAt.str_none a t'
  |bl b=>cases rx;exact SeqAt.EqAt.str_bool a t' b
  |int b=>obtain⟨t,rfl⟩:=rx;exact SeqAt.EqAt.str_int a t' b t
  |str b=>obtain⟨t,rfl⟩:=rx;exact SeqAt.EqAt.str_str a t' b t
  |_=>exact absurd (show false=true from fx) cj
 |_=>exact absurd (show false=true from fy) cj
def uD(x:V)(u:Value):Bool:=match u with
 |.none=>uC .bJ x
 |.bool b=>uC (.bl b) x
 |.int i _=>uC (.int i) x
 |.str z _=>uC (.str z) x
 |_=>false
theorem C_(r:bf y u)(f:gk y=true):uD x u=uC y x:=by
 cases y with
 |bJ=>cases r;rfl
 |bl b=>cases r;rfl
 |int i=>obtain⟨t,rfl⟩:=r;rfl
 |str z=>obtain⟨t,rfl⟩:=r;rfl
 |_=>exact absurd (show false=true from f) cj
theorem j6:∀ {xs:List V} {us:List Value},aV xs us->xs.all gk=true->us.any (uD x)=xs.any fun y=>uC y x
 |_,_,.nil,_=>rfl
 |y::xs,u::us,.cons r t,f=>by
  rw[lw,eM] at f;rw[jA,jA,C_ r f.1,j6 t f.2]
theorem iz(rx:bf x v)(fx:gk x=true):∀ {xs:List V} {us:List Value},aV xs us->xs.all gk=true->∀u∈us,SeqAt.EqAt A s u v (uD x u)
 |_,_,.nil,_=>fun u hu=>by cases hu
 |y::xs,u::us,.cons r t,f=>fun u' hu=>by
  rw[lw,eM] at f;rcases bL.mp hu with rfl|hu
  .rw[C_ r f.1];exact C9 r rx f.1 fx
  .exact iz rx fx t f.2 u' hu
def Da(x:V)(xs:List V):Bool:=xs.any fun y=>uC y x
def RW(K:PySem.W.Frag)(Os:Bool):R2:=fun x y H Q=>∃p xs,y=.ref p/\(aT K H p xs\/cx K H p xs)/\gk x=true/\xs.all gk=true/\Q (.bl (if Os then !Da x xs else Da x xs)) H
theorem nC:me X (compareOp .In) (RW X.K false):=by
 intro ae s σ H x y v u Q I rx ry h;obtain⟨p,xs,rfl,hq,fx,fs,q⟩:=h;cases ry;rcases hq with hq|hq
 .obtain⟨its,r,pl,hz⟩:=I.list hq;refine SeqAt.in_listAt (uD x) pl.isList (fun w hw=>iz rx fx r fs w (by simpa using hw)) ⟨.bl _,H,I,rfl,?_⟩;rw[show its.toArray.any (uD x)=its.any (uD x) by simp,j6 r fs];exact q
 .obtain⟨its,r,pl,hz⟩:=I.tuple hq;refine SeqAt.in_tupleAt (uD x) pl (fun w hw=>iz rx fx r fs w (by simpa using hw)) ⟨.bl _,H,I,rfl,?_⟩;rw[show its.toArray.any (uD x)=its.any (uD x) by simp,j6 r fs];exact q
theorem uE:me X (compareOp .NotIn) (RW X.K true):=by
 intro ae s σ H x y v u Q I rx ry h;obtain⟨p,xs,rfl,hq,fx,fs,q⟩:=h;cases ry;rcases hq with hq|hq
 .obtain⟨its,r,pl,hz⟩:=I.list hq;refine SeqAt.notIn_listAt (uD x) pl.isList (fun w hw=>iz rx fx r fs w (by simpa using hw)) ⟨.bl _,H,I,rfl,?_⟩;rw[show its.toArray.any (uD x)=its.any (uD x) by simp,j6 r fs];exact q
 .obtain⟨its,r,pl,hz⟩:=I.tuple hq;refine SeqAt.notIn_tupleAt (uD x) pl (fun w hw=>iz rx fx r fs w (by simpa using hw)) ⟨.bl _,H,I,rfl,?_⟩;rw[show its.toArray.any (uD x)=its.any (uD x) by simp,j6 r fs];exact q
theorem aH:eO X (.builtin "len") (fun xs H Q=>∃p ys,xs=[.ref p]/\(aT X.K H p ys\/cx X.K H p ys)/\Q (.int ys.length) H):=by
 intro ae s σ H xs us Q I r h;obtain⟨p,ys,rfl,hq,q⟩:=h;obtain⟨u,rfl,rx⟩:=qg r;cases rx;have hn:=ux;rcases hq with hq|hq
 .obtain⟨its,r',pl,hz⟩:=I.list hq;have dZ:=r'.length;exact Calls.call_len_list pl.isList (by simp only[cu] <;> lia) ⟨.int ys.length,H,I.tok _,⟨s.toks+1,by rw[cu,dZ]⟩,q⟩
 .obtain⟨its,r',pl,hz⟩:=I.tuple hq;have dZ:=r'.length;exact len_tuple pl (by simp only[cu] <;> lia) ⟨.int ys.length,H,I.tok _,⟨s.toks+1,by rw[cu,dZ]⟩,q⟩
theorem fJ:eO X (.type "tuple") (fun xs H Q=>∃p ys,xs=[.ref p]/\((aT X.K H p ys/\∀l,H l=none->Q (.ref l) (upd H l (.tup ys)))\/(cx X.K H p ys/\Q (.ref p) H))):=by
 intro ae s σ H xs us Q I r h;obtain⟨p,ys,rfl,h⟩:=h;obtain⟨u,rfl,rx⟩:=qg r;cases rx;rcases h with ⟨hq,q⟩|⟨hq,q⟩
 .obtain⟨its,r',pl,hz⟩:=I.list hq;have dZ:=r'.length;refine call_tuple_list pl.isList (fun h' kp=>?_) (by simp only[cu] <;> lia);have I1:aK X ae σ H { s with heap:=h' }:=I.kept (t':=s.toks) kp;have I2:aK X ae σ (upd H h'.objs.size (.tup ys)) { s with heap:=h'.push { cls:=.type "tuple",data:=.seq its.toArray } }:=
   I1.laid (t':=s.toks) (fun b o e=>cq _ e) (aZ _) (show bR X.prog X.w _ _ _ (.tup ys) from ⟨hz,its,r',m_.new _ _⟩)
  exact⟨.ref h'.objs.size,_,I2,rfl,q _ (I1.bC.fresh (aZ _))⟩
 .obtain⟨its,r',pl,hz⟩:=I.tuple hq;exact call_tuple_same pl ⟨.ref p,H,I,rfl,q⟩
def Xy(K:PySem.W.Frag)(T:String)(x:V)(H:Hp):Prop:=match x with
 |.str _=>T="str"
 |.int _=>T="int"
 |.ref p=>(T="list"/\∃xs,aT K H p xs)\/(T="tuple"/\∃o,K.lookup p=some o/\o.cls=.type "tuple"/\o.dict=none)\/
   (T="dict"/\((∃kvs,H p=some (.dK kvs))\/∃kvs,H p=some (.dT kvs)))\/(T="set"/\∃S n,H p=some (.set S n))
 |_=>False
theorem KD(I:aK X ae σ H s)(r:bf x v)(ty:Xy X.K T x H):
  s.TypeIs v T/\∀a,v=.ref a->∃ob,s.heap.get? a=some ob/\ob.dict=none:=by
 cases x with
 |str z=>
  obtain⟨t,rfl⟩:=r;cases (show T="str" from ty);exact⟨typeIs_str s z t,fun _ e=>nomatch e⟩
 |int i=>
  obtain⟨t,rfl⟩:=r;cases (show T="int" from ty);exact⟨typeIs_int s i t,fun _ e=>nomatch e⟩
 |ref p=>
  cases r;rcases ty with ⟨rfl,xs,hq⟩|⟨rfl,o,hk,hc,hd⟩|⟨rfl,hk⟩|⟨rfl,S,n,hk⟩
  .obtain⟨its,_,pl,_⟩:=I.list hq;refine⟨pl.isList.typeIs,fun a e=>?_⟩;cases e;obtain⟨o,n,e,c,hd,_⟩:=pl;exact⟨o,e,hd⟩
  .refine⟨⟨o,I.nt p o hk,hc⟩,fun a e=>?_⟩;cases e;exact⟨o,I.nt _ o hk,hd⟩
  .have z:∃o,s.heap.get? p=some o/\o.ExactDict:=by
    rcases hk with ⟨kvs,hk⟩|⟨kvs,hk⟩
    .obtain⟨_,_,_,_,o,_,_,e,ex,_⟩:=I.bC p _ hk;exact⟨o,e,ex⟩
    .obtain⟨_,_,_,_,o,_,_,e,ex,_⟩:=I.bC p _ hk;exact⟨o,e,ex⟩
   obtain⟨o,e,ex⟩:=z;refine⟨⟨o,e,ex.1⟩,fun a e2=>?_⟩;cases e2;exact⟨o,e,ex.2.1⟩
  .obtain⟨o,_,_,_,e,ex,_⟩:=I.bC p _ hk;refine⟨⟨o,e,ex.1⟩,fun a e2=>?_⟩;cases e2;exact⟨o,e,ex.2.1⟩
 |_=>exact False.elim ty
def Zx(K:PySem.W.Frag)(T:String)(r:V->List V->Hp->VK->Prop)(to:TE)(t:TA):TE:=fun σ H Q=>to σ H fun x H1=>Xy K T x H1/\t σ H1 fun xs H2=>r x xs H2 Q
variable {o e:Expr} {es:List Expr} {to:TE} {t:TA} {name:Str} {uz uF:Pos} {T id:String} {r:V->List V->Hp->VK->Prop}
theorem iA(pa:PlainAttrs T)(slot:Slot T name id)(Zy:typeOf (.builtin id)=pure (.type "method_descriptor"))(hm:Zw X id r)(ho:PE X o to)(ha:PA X (e::es) t)(Ot:attributeBase o name X.env (eval o X.env)=eval o X.env:=by rfl)(T6:((backTo uF (starEach (e::es) X.env)).all (fun x=>!x.1)&&(backToKw uF (keywordEach [] X.env)).all (fun x=>x.1.isSome)
   && decide ((e::es).length+([]:List Keyword).length+(if ([]:List Keyword).isEmpty then 0 else 1)<30))=true:=by rfl)(Ou:(uz.endLine==uF.line)=true:=by rfl)(hs:starEach (e::es) X.env=(false,eval e X.env)::starEach es X.env:=by rfl)(yH:(backTo uF (starEach es X.env)).any (·.1)=false:=by rfl):
  PE X (.Call (.Attribute o name uz) (e::es) [] uF) (Zx X.K T r to t):=by
 intro ae s σ H Q I h;refine wpAny_Call_method_late Ot T6 Ou rfl (bZ (ho ae s σ H _ I h) fun v s1 ⟨x,H1,I1,r1,ty,q1⟩=>?_);obtain⟨h1,h2⟩:=KD I1 r1 ty;refine⟨T,id,pa,slot,Zy,h1,h2,?_⟩;have hA:=ha uF ae s1 σ H1 _ I1 q1;rw[hs] at hA |-;refine Calls.callWith_builtin (by show (false||(backTo uF (starEach es X.env)).any (·.1))=false;rw[yH] <;> rfl) (Calls.evalArgs_plain ?_);exact bZ hA fun us s2 ⟨vs,H2,I2,r2,q2⟩=>hm ae s2 σ H2 x vs v us Q I2 r1 r2 q2
end
def RX(X:Cx)(id:String)(r:V->List V->Hp->VK->Prop):Prop:=
 ∀ (ae:List (Addr×Obj)) (s:Shared) (σ:St) (H:Hp) (x:V) (xs:List V) (v:Value) (us:List Value) (Q:VK),aK X ae σ H s->bf x v->aV xs us->r x xs H Q->
  wpAny (model X.prog X.w) X.A (call (.builtin id) (v::us)) (EP X ae σ Q) X.xe s
theorem aV.one{x:V}{us:List Value}(h:aV [x] us):∃u,us=[u]/\bf x u:=by
 cases h with
 |cons r h=>cases h;exact⟨_,rfl,r⟩
theorem aV.two{x y:V}{us:List Value}(h:aV [x,y] us):∃u v,us=[u,v]/\bf x u/\bf y v:=by
 cases h with
 |cons r h=>
  cases h with
  |cons q h=>cases h;exact⟨_,_,rfl,r,q⟩
theorem aV.rep(h:aV xs us):∀k:Nat,aV (List.replicate k xs).flatten (List.replicate k us).flatten
 |0=>.nil
 |k+1=>by
  rw[pE,pE,pR,pR];exact aV.append h (aV.rep h k)
theorem sj(its:List Value):∀ (k:Nat) (dG:List Value),
  List.foldl (fun x1 x2=>x1++x2) dG.toArray (List.replicate k its.toArray)=(dG++(List.replicate k its).flatten).toArray
 |0,dG=>by simp
 |k+1,dG=>by
  have e:dG.toArray++its.toArray=(dG++its).toArray:=by simp
  have e2:(dG++its)++(List.replicate k its).flatten=dG++(List.replicate (k+1) its).flatten:=by
   rw[pE,pR,jc]
  rw[<-e2,<-sj its k (dG++its),<-e,pE,t9]
section
variable {X:Cx} {ae:List (Addr×Obj)} {σ:St} {H:Hp} {s:Shared} {l b:Addr} {xs ys zs:List V}
theorem aK.KE{its its':List Value}{n:Nat}{f:Array Value->Array Value}{t':Nat}(I:aK X ae σ H s)(hH:H l=some (.lst xs))(e:s.heap.get? l=some { cls:=.type "list",data:=.seq its.toArray n })(hf:f its.toArray=its'.toArray)(hv:aV ys its')(hz:ys.length<=sizeLine):
  aK X ae σ (upd H l (.lst ys)) { s with heap:=s.heap.update l (Obj.mapSeq f),toks:=t' }:=by
 have q:=PySem.IsL.update e f;rw[hf] at q;refine I.write (x:=l) (e:=l) (by rw[hH];exact trivial) (.inl rfl) (fun b' u hb hu=>(tP s.heap (Obj.mapSeq f) (Ne.symm hb)).trans hu) ⟨_,q⟩ ?_;exact⟨hz,its',_,hv,q⟩
theorem aK.Ov(I:aK X ae σ H s)(hv:aV ys its)(hz:ys.length<=sizeLine):
  aK X ae σ (upd H s.heap.objs.size (.lst ys)) { s with heap:=s.heap.push { cls:=.type "list",data:=.seq its.toArray },toks:=t' }:=
 I.laid (fun _ _ q=>cq _ q) (aZ _) ⟨hz,its,0,hv,cW _ rfl⟩
theorem aK.fresh(I:aK X ae σ H s):H s.heap.objs.size=none:=I.bC.fresh (aZ _)
theorem aK.vW(I:aK X ae σ H s)(hH:H l=some (.lst xs)):xs.length<=sizeLine/\∃ (its:List Value) (n:Nat),aV xs its/\xs.length=its.length/\s.heap.get? l=some { cls:=.type "list",data:=.seq its.toArray n }:=by
 obtain⟨z,its,n,r,e⟩:=I.bC l _ hH;exact⟨z,its,n,r,r.length,e⟩
theorem vX(h:n<=sizeLine):Builtin.List.listTooLong n=false:=by
 unfold Builtin.List.listTooLong;exact cE (by lia)
end
section
variable {X:Cx}
def Gc:V->List V->Hp->VK->Prop:=fun x vs H Q=>∃l xs y,x=.ref l/\vs=[y]/\H l=some (.lst xs)/\xs.length<sizeLine/\Q .bJ (upd H l (.lst (xs++[y])))
theorem dj:RX X "list.append" Gc:=by
 intro ae s σ H x vs v us Q I rx rv h;obtain⟨l,xs,y,rfl,rfl,hH,hz,q⟩:=h;cases rx;obtain⟨u,rfl,ru⟩:=rv.one;obtain⟨z,its,n,r,hl,e⟩:=I.vW hH;refine lE F.slot_list_append ⟨_,e,rfl⟩ F.entry_list_append (F.args_list_append_2 _ _) (PySem.list_append l its.toArray n u (by rw[cu];lia)) ⟨e,?_⟩;refine⟨.bJ,_,I.KE (its':=its++[u]) hH e (by simp) (r.append (.cons ru .nil)) ?_,rfl,q⟩;rw[cr,pK];lia
def Ge:V->List V->Hp->VK->Prop:=fun x vs H Q=>∃l b xs zs,x=.ref l/\vs=[.ref b]/\H l=some (.lst xs)/\H b=some (.lst zs)/\xs.length+zs.length<=sizeLine/\Q .bJ (upd H l (.lst (xs++zs)))
theorem Bk:RX X "list.extend" Ge:=by
 intro ae s σ H x vs v us Q I rx rv h;obtain⟨l,b,xs,zs,rfl,rfl,hH,hB,hz,q⟩:=h;cases rx;obtain⟨u,rfl,ru⟩:=rv.one;cases ru;obtain⟨z,its,n,r,hl,e⟩:=I.vW hH;obtain⟨z2,Gf,n2,r2,Zz,e2⟩:=I.vW hB;have hsz:its.toArray.size+Gf.toArray.size<=sizeLine:=by rw[cu,cu];lia
 have Db:¬ (!its.toArray.isEmpty&&Builtin.List.listTooLong (its.toArray.size+Gf.toArray.size))=true:=by
  rw[vX hsz,ua];exact cj
 refine lE F.slot_list_extend ⟨_,e,rfl⟩ F.entry_list_extend (F.args_list_extend_2 _ _)
  (AutoSeq1.list_extend_list_list_0 l its.toArray n b Gf.toArray n2 Db (by rw[cu];lia) (by lia)) ⟨e,e2,?_⟩
 refine⟨.bJ,_,I.KE (its':=its++Gf) hH e (by simp) (r.append r2) ?_,rfl,q⟩;rw[cr];lia
def T7:R2:=fun x y H Q=>∃l k xs,x=.ref l/\y=.int k/\H l=some (.lst xs)/\-(2 ^ 63)<=k/\k<2 ^ 63/\xs.length*k.toNat<=sizeLine/\
 ∀p,H p=none->Q (.ref p) (upd H p (.lst (List.replicate k.toNat xs).flatten))
theorem Gg(xs:List α)(k:Nat):(List.replicate k xs).flatten.length=k*xs.length:=by
 induction k with
 |zero=>simp
 |succ k ih=>rw[pE,pR,cr,ih,Nat.succ_mul,Nat.add_comm]
theorem KG:me X (binaryOp .Mult) T7:=by
 intro ae s σ H x y v u Q I rx ry h;obtain⟨l,k,xs,rfl,rfl,hH,h1,h2,hz,q⟩:=h;cases rx;obtain⟨t,rfl⟩:=ry;obtain⟨z,its,n,r,hl,e⟩:=I.vW hH;have dZ:its.toArray.size*k.toNat<=sizeLine:=by rw[cu,<-hl];exact hz
 have T8:¬ its.toArray.size*k.toNat > (2 ^ 63-1) / 8:=by
  have:(sizeLine:Nat)<=(2 ^ 63-1) / 8:=by decide
  lia
 have T9:¬ (!Builtin.List.listFitsIndex k)=true:=by
  rw[fitsIndex_both h1 h2];exact cj
 have Db:¬ Builtin.List.listTooLong (its.toArray.size*k.toNat)=true:=by
  rw[vX dZ];exact cj
 have nE:List.foldl (fun x1 x2=>x1++x2) #[] (List.replicate (if its.toArray.isEmpty=true then 0 else k.toNat) its.toArray)=(List.replicate k.toNat its).flatten.toArray:=by
  have f0:∀m:Nat,List.foldl (fun x1 x2=>x1++x2) #[] (List.replicate m its.toArray)=(List.replicate m its).flatten.toArray:=fun m=>by
   have:=sj its m [];rw[List.nil_append] at this;exact this
  rw[f0];cases its with
  |nil=>simp
  |cons a r'=>rw[ap (by simp)]
 refine wpAny_binaryOp_repeat_ref (T:="list") (U:="int") (by decide) ⟨_,e,rfl⟩ (fun s'=>typeIs_int s' k t) noFill_list_mul F.fills_int_mul F.slot_int_rmul repeat_list F.slot_int_index.lookup
  (lE F.slot_int_rmul (typeIs_int s k t) F.entry_int_rmul (F.args_int_rmul_2 _ _) (int___rmul___int_list k t l its.toArray n)
   ⟨e,rfl,⟨_,e,rfl⟩,lE F.slot_list_mul ⟨_,e,rfl⟩ F.entry_list_mul (F.args_list_mul_2 _ _) (AutoListH.list___mul___list_int_3 l its.toArray n k t T9 T8 Db) ⟨e,?_⟩⟩)
 rw[nE];exact⟨.ref _,_,I.Ov (t':=s.toks) (r.rep k.toNat) (by rw[Gg,Nat.mul_comm];exact hz),rfl,q _ I.fresh⟩
end
section
variable {prog:Program} {w:World} {A:Around} {E:Value->Shared->Prop} {s:Shared}
end
section
variable {X:Cx}
end
end L2
namespace Xz
open PySem PySem.W PySem.Calls PyProof.Rows
theorem oK:∀ (ns:List Int) (vs:List Value),WellAll P h vs (ns.map WData.int)->IntsAre vs ns:=by
 intro ns;induction ns with
 |nil=>
  intro vs w;rw[lA] at w;cases w;exact .nil
 |cons n ns ih=>
  intro vs w;rw[cX] at w;cases w with
  |cons a b=>
   cases a;exact .cons _ _ (ih _ b)
theorem Bm{l:OpenLaw}{n:Nat}(hn:l.most=some n){P:Params}{h:Heap}{args:List WData}{Dc:List Value}(Gh:l.row.toRowW.claim.pre args=true)(T_:WellAll P h Dc args):
  ∃a vs ns,Dc=[Value.ref a]/\args=[WData.list (ns.map WData.int)]/\h.get? a=some { cls:=.type "list",data:=.seq vs.toArray }/\IntsAre vs ns/\ns.length<=n:=by
 have ZA:WShape.hasAll [] args [.list .int]=true:=(pre_splitW Gh).1;have hc:l.pre.holds [] { args:=args }=true:=(pre_splitW Gh).2;obtain⟨d,r,rfl,h1,h2⟩:=hasAllW_cons ZA;obtain rfl:=hasAllW_nil h2;obtain⟨xs,rfl,h3⟩:=hasW_list h1;obtain⟨ns,rfl⟩:=items_int h3;have dZ:ns.length<=n:=by
  unfold OpenLaw.pre at hc;have h4:(WTm.not (.lt (.lit (.int (n:Int))) (.len (.arg 0)))).holds [] { args:=[.list (ns.map .int)] }=true:=by
   have h4:=(holds_andW hc).1;rw[hn] at h4;exact h4
  have h5:=condW_of h4 (w_not (w_lt w_lit (w_len_list (w_arg rfl))));rw[aN] at h5;refine Nat.le_of_not_lt fun q=>?_;have q':(n:Int)<((ns.length:Nat):Int):=by lia
  first
   |(rw[bK q'] at h5;exact absurd h5 (by decide))
   |(simp at h5;lia)
 cases T_ with
 |cons w1 w2=>
  cases w2;cases w1 with
  |list ho rE=>exact⟨_,_,ns,rfl,rfl,ho,oK ns _ rE,dZ⟩
theorem Bn(l:OpenLaw)(args:List WData):l.row.toRowW.claim.post args (.bool true) args=true:=
 postW_of (r:=l.row.toRowW) (X:=(true==true))
  (show WShape.has [] (.bool true) .bool=true by first|rfl|decide|simp[WShape.has,WShape.arms,WShape.armsAll])
  (show (WTm.eq .res (.lit (.bool true))).value [] { args:=args,res:=some (.bool true),after:=args }=some (.bool (true==true)) from w_eq_bool (w_res rfl) w_lit) rfl
theorem vY{l:OpenLaw}{n:Nat}{q:Program}{sk:List Str}{XP:(Str->Option Value)->Heap->Prop}{YP:World->Heap->Prop}{d:DefRec}(hn:l.most=some n)(Ow:d.params.defaults=[])(call:∀ (w:World) (s₀ s₁:Shared) (mg mb:Str->Option Value) (fa:Addr) (o:Obj) (pm cd ml:Value) (a:Addr) (vs:List Value) (ns:List Int),
   Ground q sk [] XP w s₀ mg mb s₁.heap->YP w s₁.heap->
   s₁.heap.get? fa=some o->o.data=.func (docDef d.name d.params d.body d.scope pm cd ml)->s₁.heap.CodeRec cd d.name->mg d.name=some (.ref fa)->
   s₁.heap.get? a=some { cls:=.type "list",data:=.seq vs.toArray }->IntsAre vs ns->ns.length<=n->s₁.gens=#[]->
   codeAny (model l.prog w) callerA (.call (.ref fa) ⟨[.ref a],[]⟩) (fun r s'=>r=.ok (.ret (.bool true))/\OldK s₁.heap s'.heap/\s'.os=s₁.os/\AllBare s'.gens) s₁):
  WalkO q sk XP YP l.row.toRowW d [] (fun f vs=>PySem.call f vs):=by
 intro w s₀ s₁ mg mb G Y fa o pm cd ml dV kV ho hd rV hD Ox hg args Dc as Gh ZB hrd T_ vZ;obtain rfl:dV=.none:=Dflts.none hD Ow;obtain rfl:kV=.none:=Dflts.noKw hD;obtain⟨a,vs,ns,rfl,rfl,KH,Dd,dZ⟩:=Bm hn Gh T_;refine enter_call (lC (call w s₀ s₁ mg mb fa o pm cd ml a vs ns G Y ho (fd_plain hd) rV Ox KH Dd dZ hg) fun r s' hq=>?_);obtain⟨rfl,h2,h3,h4⟩:=hq;exact⟨.inl ⟨.bool true,.bool true,[],rfl,fun _=>rfl,.bool true,Bn l _,fun _=>⟨List.Pairwise.nil,fun _ hm=>(nomatch hm)⟩⟩,h2,h3,h4⟩
section
variable {prog:Program} {w:World} {A:Around} {E:Value->Shared->Prop} {s:Shared} {K:Frag}
end
end Xz
namespace L2
open PySem PySem.Spec PyProof.Rows
theorem sn:∀ {vs:List Value} {ns:List Int},IntsAre vs ns->aV (ns.map V.int) vs
 |_,_,.nil=>.nil
 |_,_,.cons n t h=>.cons ⟨t,rfl⟩ (sn h)
def o5(s:Stmt)(j:Nat):Stmt:=match s with
 |.ClassDef _ _ _ body _ _ _ _ _ _ _=>body.getD j (.Pass ⟨0,0,0,0⟩)
 |_=>.Pass ⟨0,0,0,0⟩
def cQ(s:Stmt):Arguments:=match s with
 |.FunctionDef _ a _ _ _ _ _ _ _ _=>a
 |_=>{ posonlyargs:=[],args:=[],vararg:=none,kwonlyargs:=[],kw_defaults:=[],kwarg:=none,defaults:=[] }
def bT(s:Stmt):List Stmt:=match s with
 |.FunctionDef _ _ b _ _ _ _ _ _ _=>b
 |_=>[]
def am(s:Stmt):Scope:=match s with
 |.FunctionDef _ _ _ _ _ _ sc _ _ _=>sc
 |_=>{ kind:=.function,names:=[],isGenerator:=false,isCoroutine:=false }
abbrev a9:vP:=fun _ _ _ _ _ _=>False
abbrev E0:XK:=fun _ _ _=>False
theorem aP:lK a9 X E0:=fun _ _ _ _ _ _ _ h=>h.elim
structure fR(K:PySem.W.Frag)(x qual:Str)(st:Stmt)(f:Addr)(fd:FuncData):Prop where
 ex:∃ (oc:Value) (od:Option Addr) (kV ml pm:Value) (an:Option Addr) (dM ct:Value) (xt:Array (Option Value)),
  fd=PySem.W.fnOf x qual (cQ st) (bT st) (am st) .none kV ml pm an dM ct/\K.lookup f=some ⟨oc,od,.func fd,xt⟩/\PySem.W.codeIn K dM qual=true
 kp:PySem.W.keepIn K (.ref f)=true
section
variable {P:Program} {w:World} {K:PySem.W.Frag} {mg:Str->Option Value} {base:Heap}
theorem fR.ok{x qual:Str}{st:Stmt}{f:Addr}{fd:FuncData}{N ps:List Str}{k:Nat}{sp:Sp}(F:fR K x qual st f fd)(S:aG N ps (am st))(len:∀vs H Q E,sp vs H Q E->vs.length=ps.length)(vS:∀ (dM:Value) (A:Around) (outer:List Env) (s:Shared) (H:Hp) (vs:List V) (Q:VK) (E:XK),bW k (A.deeper (envOfC qual (am st) s.heap.objs.size f dM))->sp vs H Q E->
   ∃t,yp (uA a9 P w K mg base N qual (am st) f dM A outer s H E).Je (bT st) t/\t { nx:=fun _ H'=>Q .bJ H',rt:=Q } (start N vs) H):bv P w K mg base a9 (k+1) f fd ps sp:=by
 obtain⟨oc,od,kV,ml,pm,an,dM,ct,xt,rfl,lk,rV⟩:=F.ex;refine Ji lk rV S len fun A outer s H vs Q E hr FF=>?_;obtain⟨t,h,q⟩:=vS dM A outer s H vs Q E hr FF;exact⟨t,h.Je,q⟩
theorem fR.binds{x qual:Str}{st:Stmt}{f:Addr}{fd:FuncData}{ps:List Str}(F:fR K x qual st f fd)(h:∀ (kV ml pm:Value) (an:Option Addr) (dM ct:Value) (us:List Value),us.length=ps.length->bindArgs (PySem.W.fnOf x qual (cQ st) (bT st) (am st) .none kV ml pm an dM ct) ⟨us,[]⟩=pure (ps.zip us)):jK K fd ps []:=by
 obtain⟨oc,od,kV,ml,pm,an,dM,ct,xt,rfl,lk,rV⟩:=F.ex;exact .all (h kV ml pm an dM ct)
theorem uG{x qual:Str}{st:Stmt}{f:Addr}{oc:Value}{od an:Option Addr}{xt:Array (Option Value)}{kV ml pm dM ct:Value}(l:K.lookup f=some ⟨oc,od,.func (PySem.W.fnOf x qual (cQ st) (bT st) (am st) .none kV ml pm an dM ct),xt⟩)(c:PySem.W.codeIn K dM qual=true)(k:PySem.W.keepIn K (.ref f)=true):fR K x qual st f (PySem.W.fnOf x qual (cQ st) (bT st) (am st) .none kV ml pm an dM ct):=⟨⟨oc,od,kV,ml,pm,an,dM,ct,xt,rfl,l,c⟩,k⟩
end
section
variable {X:Cx}
theorem pv(i:Nat)(hN:X.N[i]?=some x:=by rfl)(hv:NX X.env.scope x:=by first|exact Or.inl rfl|exact Or.inr (Or.inl rfl)|exact Or.inr (Or.inr rfl))(hd:(x==("__debug__":Str))=false:=by decide)(rV:(x==("__classdict__":Str))=false:=by decide):PE X (.Name x pos) (be i):=Ki hN hv hd rV
end
theorem lL{A B:Prop}(h:B):if false=true then A else B:=by
 rw[ap cj];exact h
theorem Gi{A B:Prop}(h:A):if true=true then A else B:=by
 rw[ao rfl];exact h
theorem bN{c A B:Prop}[Decidable c](h1:c->A)(h2:¬ c->B):if c then A else B:=by
 by_cases h:c
 .rw[ao h];exact h1 h
 .rw[ap h];exact h2 h
def aE(H H':Hp):Prop:=∀b o,H b=some o->H' b=some o
theorem aE.refl(H:Hp):aE H H:=fun _ _ h=>h
theorem aE.trans(a:aE H H1)(b:aE H1 H2):aE H H2:=fun c o h=>b c o (a c o h)
theorem aE.free(e:aE H H')(h:H' l=Option.none):H l=Option.none:=by
 cases q:H l with
 |none=>rfl
 |some o=>
  rw[e l o q] at h;cases h
def Jj(src:List (Option Nat))(σ:St):St:=src.map fun o=>match o with|some j=>σ.getD j none|none=>none
theorem Gj{src:List (Option Nat)}{σ:St}{i:Nat}{v:V}(h:(Jj src σ)[i]?=some (some v)):∃j,src[i]?=some (some j)/\σ[j]?=some (some v):=by
 unfold Jj at h;rw[bo] at h;cases e:src[i]? with
 |none=>rw[e] at h;cases h
 |some o=>
  rw[e] at h;cases o with
  |none=>cases h
  |some j=>
   refine⟨j,rfl,?_⟩;have h':σ.getD j none=some v:=aY h;rw[bP] at h';cases e2:σ[j]? with
   |none=>rw[e2] at h';cases h'
   |some o=>rw[e2] at h';rw[show o=some v from h']
structure gB(NB:List Str)(src:List (Option Nat))(scope:Scope)(X:Cx):Prop where
 kind:scope.kind=.function
 nd:NB.Nodup
 len:src.length=NB.length
 cells:∀y∈scope.names,y.2=.cell->scope.names.lookup y.1=some .cell
 names:∀y∈scope.names,y.2=.local->scope.names.lookup y.1=some .local
 free:∀y∈scope.names,y.2=.free->X.env.scope.names.lookup y.1=some .cell\/X.env.scope.names.lookup y.1=some .free
 src:∀ (i:Nat) (x:Str) (j:Nat),NB[i]?=some x->src[i]?=some (some j)->X.N[j]?=some x/\scope.names.lookup x=some .free
def uH(scope:Scope)(x:Str):Bool:=match scope.names.lookup x with
 |some .cell=>true
 |_=>false
theorem v_:uH scope x=true↔scope.names.lookup x=some .cell:=by
 unfold uH;split
 .rename_i h;exact⟨fun _=>h,fun _=>rfl⟩
 .rename_i h;exact⟨fun z=>(by cases z),fun z=>absurd z h⟩
def z4(X:Cx)(NB:List Str)(scope:Scope)(cl:List (Str×Addr))(C:Addr)(s₃:Shared)(H₃:Hp)(fp:List Addr):Cx:=
 { X with N:=NB,s₀:=s₃,H₀:=H₃,env:=compEnvC scope cl C X.env,outer:=X.stack,stack:=X.stack,ex:=fp,fn:=uH scope,pn:=[],xe:=fun _ _=>False }
theorem lM:∀ (names:List (Str×NameKind)) (dG:List (Str×Addr)),(∀y∈names,y.2=NameKind.free->∃c,env.cells.lookup y.1=some c)->(∀x c,dG.lookup x=some c->env.cells.lookup x=some c)->
  ∃cl,(forIn names dG fun x r=>(if (x.2==NameKind.free)=true then (do let a <- cellOf env x.1;pure (ForInStep.yield ((x.1,a)::r))) else pure (ForInStep.yield r):Sem (ForInStep (List (Str×Addr)))))=(pure cl:Sem (List (Str×Addr)))/\
   (∀x c,cl.lookup x=some c->env.cells.lookup x=some c)/\(∀x c,dG.lookup x=some c->∃c',cl.lookup x=some c')/\∀x,(x,NameKind.free)∈names->∃c,cl.lookup x=some c
 |[],dG,_,ha=>⟨dG,by rw[List.forIn_nil],ha,fun x c h=>⟨c,h⟩,fun x h=>nomatch h⟩
 |(n,k)::r,dG,hf,ha=>by
  by_cases hk:k=NameKind.free
  .subst hk;obtain⟨c,hc⟩:=hf (n,NameKind.free) b9 rfl;have Ua:∀x c',((n,c)::dG).lookup x=some c'->env.cells.lookup x=some c':=fun x c' h=>by
    rw[fv] at h;cases hx:x==n with
    |true=>
     rw[hx] at h;cases h;have:x=n:=by simpa using hx
     rw[this];exact hc
    |false=>rw[hx] at h;exact ha x c' h
   obtain⟨cl,e1,e2,e3,e4⟩:=lM r ((n,c)::dG) (fun y hy=>hf y (cC _ hy)) Ua;refine⟨cl,?_,e2,fun x c' h=>?_,fun x h=>?_⟩
   .rw[List.forIn_cons];have ec:cellOf env n=pure c:=by unfold cellOf;rw[hc]
    have e0:(if ((n,NameKind.free).2==NameKind.free)=true then (do let a <- cellOf env (n,NameKind.free).1;pure (ForInStep.yield (((n,NameKind.free).1,a)::dG))) else pure (ForInStep.yield dG):Sem (ForInStep (List (Str×Addr))))=pure (ForInStep.yield ((n,c)::dG)):=by
     rw[ao (show (NameKind.free==NameKind.free)=true by decide)];show cellOf env n >>= _=_;rw[ec];rfl
    rw[e0];exact e1
   .cases hx:x==n with
    |true=>exact e3 x c (by rw[fv,hx])
    |false=>exact e3 x c' (by rw[fv,hx];exact h)
   .rcases bL.mp h with h|h
    .cases h;exact e3 n c (by rw[fv];simp)
    .exact e4 x h
  .obtain⟨cl,e1,e2,e3,e4⟩:=lM r dG (fun y hy=>hf y (cC _ hy)) ha;refine⟨cl,?_,e2,e3,fun x h=>?_⟩
   .rw[List.forIn_cons];have hb:(k==NameKind.free)=false:=by simpa using hk
    have e0:(if ((n,k).2==NameKind.free)=true then (do let a <- cellOf env (n,k).1;pure (ForInStep.yield (((n,k).1,a)::dG))) else pure (ForInStep.yield dG):Sem (ForInStep (List (Str×Addr))))=pure (ForInStep.yield dG):=by
     rw[ap (by show ¬ (k==NameKind.free)=true;rw[hb];decide)]
    rw[e0];exact e1
   .rcases bL.mp h with h|h
    .cases h;exact absurd rfl hk
    .exact e4 x h
theorem lN(ok:X.Ok)(S:gB NB src scope X):
  ∃cl,closureFor scope X.env=pure cl/\(∀x c,cl.lookup x=some c->X.env.cells.lookup x=some c)/\∀x,(x,NameKind.free)∈scope.names->∃c,cl.lookup x=some c:=by
 obtain⟨cl,e1,e2,_,e4⟩:=lM (env:=X.env) scope.names [] (fun y hy hk=>ok.has y.1 (S.free y hy hk)) (fun x c h=>nomatch h);refine⟨cl,?_,e2,e4⟩;unfold closureFor;simp only[bind_pure];exact e1
theorem uI(h:scope.names.lookup x=some .free):(relabel scope env).names.lookup x=some .cell\/(relabel scope env).names.lookup x=some .free:=by
 have go:∀names:List (Str×NameKind),names.lookup x=some .free->
   (names.map fun (n,k)=>if (k==NameKind.free&&env.scope.kind==.function&&env.kindOf n==some .cell) then (n,NameKind.cell) else (n,k)).lookup x=some .cell\/
   (names.map fun (n,k)=>if (k==NameKind.free&&env.scope.kind==.function&&env.kindOf n==some .cell) then (n,NameKind.cell) else (n,k)).lookup x=some .free:=by
  intro names;induction names with
  |nil=>intro h;simp at h
  |cons y r ih=>
   intro h;obtain⟨n,k⟩:=y;rw[fv] at h;rw[cX];cases hx:x==n with
   |true=>
    rw[hx] at h;cases h;by_cases hc:(NameKind.free==NameKind.free&&env.scope.kind==.function&&env.kindOf n==some .cell)=true
    .left;show List.lookup x ((if _ then _ else _)::_)=_;rw[ao hc,fv,hx]
    .right;show List.lookup x ((if _ then _ else _)::_)=_;rw[ap hc,fv,hx]
   |false=>
    rw[hx] at h;by_cases hc:(k==NameKind.free&&env.scope.kind==.function&&env.kindOf n==some .cell)=true
    .show List.lookup x ((if _ then _ else _)::_)=_\/List.lookup x ((if _ then _ else _)::_)=_;rw[ao hc,fv,hx];exact ih h
    .show List.lookup x ((if _ then _ else _)::_)=_\/List.lookup x ((if _ then _ else _)::_)=_;rw[ap hc,fv,hx];exact ih h
 exact go scope.names h
theorem mq(h:(relabel scope env).names.lookup x=some k)(hk:k=.cell\/k=.free):(x,NameKind.free)∈scope.names\/(x,NameKind.cell)∈scope.names:=by
 have m:=jr h;obtain⟨⟨n,k'⟩,hm,e⟩:=bQ.mp m;by_cases q:(k'==NameKind.free&&env.scope.kind==.function&&env.kindOf n==some .cell)=true
 .have e':(n,NameKind.cell)=(x,k):=by simpa [q] using e
  have k1:k'=NameKind.free:=by
   simp only[eM,gZ] at q;exact q.1.1
  cases e';left;rw[<-k1];exact hm
 .have e':(n,k')=(x,k):=by simpa [q] using e
  cases e';rcases hk with z|z
  .subst z;exact .inr hm
  .subst z;exact .inl hm
theorem nF:∀ (names:List (Str×NameKind)) (h:Heap) (dG:List (Str×Addr)) (x:Str) (c:Addr),(cellsFrom h.objs.size names dG).lookup x=some c->dG.lookup x=some c\/(h.objs.size<=c/\(pushCells h names).IsCell c none)
 |[],_,_,_,_,e=>.inl e
 |(name,kind)::r,h,dG,x,c,e=>by
  unfold cellsFrom at e;unfold pushCells;split at e
  .rename_i hk;rw[ao hk];have hsz:(h.push { cls:=.type "cell",data:=.cell none }).objs.size=h.objs.size+1:=iK ..;rw[<-hsz] at e;rcases nF r _ _ x c e with z|⟨z1,z2⟩
   .rw[fv] at z;cases hx:x==name with
    |true=>
     rw[hx] at z;cases z;exact .inr ⟨aZ _,_,pushCells_keeps r _ _ _ (cW _ rfl),rfl⟩
    |false=>rw[hx] at z;exact .inl z
   .exact .inr ⟨by lia,z2⟩
  .rename_i hk;rw[ap hk];exact nF r h dG x c e
theorem sq:∀ (names:List (Str×NameKind)) (n:Nat) (dG:List (Str×Addr)) (x:Str),(x,NameKind.cell)∈names->∃c,n<=c/\(cellsFrom n names dG).lookup x=some c:=by
 have up:∀ (names:List (Str×NameKind)) (n m:Nat) (dG:List (Str×Addr)) (x:Str) (c:Addr),dG.lookup x=some c->m<=c->m<=n->∃c',m<=c'/\(cellsFrom n names dG).lookup x=some c':=by
  intro names;induction names with
  |nil=>intro n m dG x c e h _;exact⟨c,h,e⟩
  |cons y r ih=>
   intro n m dG x c e h hm;obtain⟨name,kind⟩:=y;unfold cellsFrom;split
   .cases hx:x==name with
    |true=>exact ih (n+1) m _ x n (by rw[fv,hx]) hm (by lia)
    |false=>exact ih (n+1) m _ x c (by rw[fv,hx];exact e) h (by lia)
   .exact ih n m dG x c e h hm
 intro names;induction names with
 |nil=>intro n dG x h;cases h
 |cons y r ih=>
  intro n dG x h;obtain⟨name,kind⟩:=y;unfold cellsFrom;rcases bL.mp h with z|z
  .cases z;rw[ao (by decide)];exact up r (n+1) n _ x n (by rw[fv];simp) (aZ _) (by lia)
  .split
   .obtain⟨c,h1,h2⟩:=ih (n+1) ((name,n)::dG) x z;exact⟨c,by lia,h2⟩
   .exact ih n dG x z
theorem j7:∀ (names:List (Str×NameKind)) (n:Nat) (dG:List (Str×Addr)) (x:Str) (c:Addr),dG.lookup x=some c->(x,NameKind.cell)∉names->(cellsFrom n names dG).lookup x=some c
 |[],_,_,_,_,e,_=>e
 |(name,kind)::r,n,dG,x,c,e,h=>by
  have hr:(x,NameKind.cell)∉r:=fun z=>h (cC _ z);unfold cellsFrom;split
  .rename_i hk;have jp:(x==name)=false:=by
    cases hx:x==name with
    |false=>rfl
    |true=>
     have e1:x=name:=by simpa using hx
     have e2:kind=.cell:=by simpa using hk
     exact absurd (by rw[e1,e2];exact b9) h
   exact j7 r (n+1) _ x c (by rw[fv,jp];exact e) hr
  .exact j7 r n dG x c e hr
theorem nG:∀ (names:List (Str×NameKind)) (n:Nat) (dG:List (Str×Addr)),(∀x y c,dG.lookup x=some c->dG.lookup y=some c->x=y)->(∀x c,dG.lookup x=some c->c<n)->∀x y c,(cellsFrom n names dG).lookup x=some c->(cellsFrom n names dG).lookup y=some c->x=y
 |[],_,_,hi,_=>hi
 |(name,kind)::r,n,dG,hi,hl=>by
  unfold cellsFrom;split
  .refine nG r (n+1) _ (fun x y c h1 h2=>?_) (fun x c h=>?_)
   .rw[fv] at h1 h2;cases hx:x==name <;> cases hy:y==name <;> rw[hx] at h1 <;> rw[hy] at h2
    .exact hi x y c h1 h2
    .cases h2;exact absurd (hl x _ h1) (jj _)
    .cases h1;exact absurd (hl y _ h2) (jj _)
    .have e1:x=name:=by simpa using hx
     have e2:y=name:=by simpa using hy
     rw[e1,e2]
   .rw[fv] at h;cases hx:x==name <;> rw[hx] at h
    .exact fc (hl x c h)
    .cases h;exact jy _
  .exact nG r n dG hi hl
section
variable {X:Cx} {ae:List (Addr×Obj)} {σ:St} {H:Hp} {s:Shared} {NB:List Str} {src:List (Option Nat)} {scope:Scope} {cl:List (Str×Addr)} {fp:List Addr} {h₁:Heap} {t₁:Nat}
theorem Gk(I:aK X ae σ H s)(S:gB NB src scope X)(c1:∀x c,cl.lookup x=some c->X.env.cells.lookup x=some c)(c2:∀x,(x,NameKind.free)∈scope.names->∃c,cl.lookup x=some c)(hf:∀b∈fp,kD X ae H b)(KI:∀b∈fp,b<s.heap.objs.size){m:Str->Option Value}(hn:h₁.Ns s.heap.objs.size m)(hk:∀b o,s.heap.get? b=some o->h₁.get? b=some o)(nE:∀x c,(cellsFrom (s.heap.objs.size+1) scope.names cl).lookup x=some c->cl.lookup x=some c\/(s.heap.objs.size<c/\h₁.IsCell c none)):
  aK (z4 X NB scope (cellsFrom (s.heap.objs.size+1) scope.names cl) s.heap.objs.size s H fp) [] (Jj src σ) H { s with heap:=h₁,toks:=t₁ }:=by
 have Nk:∀b∈A_ X.stack,b∈X.env.locals::X.fs:=I.p_;have qh:∀x c,cl.lookup x=some c->∃v,s.heap.IsCell c v:=fun x c e=>I.cell x c (c1 x c e);have Ub:∀x c,cl.lookup x=some c->c<s.heap.objs.size:=fun x c e=>by obtain⟨v,o,ho,_⟩:=qh x c e;exact aX ho
 refine⟨⟨I.ok.mod,S.kind,I.ok.glob,I.ok.blt,aZ _,nG _ _ _ (fun x y c e1 e2=>I.ok.inj x y c (c1 x c e1) (c1 y c e2)) (fun x c e=>fc (Ub x c e)),fun x hx=>?_,fun x c z e=>?_,I.ok.hd,I.ok.frames,.inl rfl,fun b hb=>⟨?_,fun x c e=>?_⟩,I.bs,br I.ok.Cn I.sz,fun b o e hb=>?_,fun b hb=>?_,I.stack,I.oW⟩,
  rfl,I.bare,Un.kept hk,⟨m,hn,fun i x v e1 e2 e3=>?_⟩,fun x c e=>?_,I.bC.fresh (aZ _),fun x c e=>?_,fun p hp=>absurd (show p∈([]:List (Addr×Obj)) from hp) (by simp),I.bC.kept hk,?_⟩
 .have Uc:(x,NameKind.free)∈scope.names\/(x,NameKind.cell)∈scope.names:=by
   rcases hx with hx|hx
   .exact mq hx (.inl rfl)
   .exact mq hx (.inr rfl)
  by_cases hc:(x,NameKind.cell)∈scope.names
  .obtain⟨c,_,e⟩:=sq scope.names (s.heap.objs.size+1) cl x hc;exact⟨c,e⟩
  .rcases Uc with z|z
   .obtain⟨c,e⟩:=c2 x z;exact⟨c,j7 _ _ _ _ _ e hc⟩
   .exact absurd z hc
 .have hm:=jr (v_.mp z);obtain⟨c',h1,h2⟩:=sq scope.names (s.heap.objs.size+1) cl x hm;have e':(cellsFrom (s.heap.objs.size+1) scope.names cl).lookup x=some c:=e;rw[h2] at e';cases e';exact Nat.le_of_succ_le h1
 .exact aW (KI b hb)
 .rcases nE x c e with z|⟨z,_⟩
  .exact(hf b hb).2.2.2.2.1 x c (c1 x c z)
  .exact jC (pX (KI b hb) z)
 .rcases(hf b hb).2.2.2.1 with z|z
  .exact I.ok.CO b o e z
  .exact absurd (bU (aX e) (br I.ok.Cn z)) (jj _)
 .intro z;rcases bL.mp (Nk b z) with e|e
  .exact(hf b hb).2.1 e
  .exact(hf b hb).2.2.1 e
 .obtain⟨j,hj,hv⟩:=Gj e2;obtain⟨hN,hF⟩:=S.src i x j e1 hj;obtain⟨m0,hn0,ZC⟩:=I.loc;have Gm:=jr hF;have kx:=S.free _ Gm rfl;have TF:NX X.env.scope x:=by
   rcases kx with z|z
   .exact .inr (.inl z)
   .exact .inr (.inr z)
  obtain⟨u,r,l⟩:=ZC j x v hN hv TF;refine⟨u,r,.inr ⟨uI hF,?_⟩⟩;obtain⟨c,hc⟩:=c2 x Gm;have ZD:(x,NameKind.cell)∉scope.names:=fun z=>by
   have:=S.cells _ z rfl;rw[hF] at this;cases this
  refine⟨c,j7 _ _ _ _ _ hc ZD,?_⟩;rcases l with ⟨ZE,_⟩|⟨_,c',e,z⟩
  .have Oy:X.env.scope.names.lookup x=some .local:=ZE;rcases kx with z|z <;> (rw[z] at Oy;cases Oy)
  .rw[c1 x c hc] at e;cases e;obtain⟨o,ho,hd⟩:=z;exact⟨o,hk _ _ ho,hd⟩
 .rcases nE x c e with z|⟨_,z⟩
  .obtain⟨v,o,ho,hd⟩:=qh x c z;exact⟨v,o,hk _ _ ho,hd⟩
  .exact⟨none,z⟩
 .rcases nE x c e with z|⟨z,_⟩
  .exact I.jF x c (c1 x c z)
  .exact I.bC.fresh (dI z)
 .show (Jj src σ).length=NB.length;unfold Jj;rw[aN];exact S.len
theorem aK.Oz(I:aK X ae σ H s)(J:aK (z4 X NB scope cl C s H fp) [] σB H' s')(hf:∀b∈fp,kD X ae H b):aK X ae σ H' s':=by
 refine I.Jb (ch:=fp) J.os J.base J.bC J.bare fun b hb=>?_;obtain⟨_,f1,_,f3,f4,f5⟩:=hf b hb;exact⟨f3,f1,f4,f5⟩
end
def Nm(X:Cx)(z5:List Expr)(t:TT):Prop:=
 ∀ (ae:List (Addr×Obj)) (s:Shared) (σ:St) (H:Hp) (Q:Bool->Hp->Prop),aK X ae σ H s->t σ H Q->
  wpAny (model X.prog X.w) X.A (forIn z5 true fun c r=>if r=true then do let ok <- isTrue c X.env (eval c X.env);pure (ForInStep.yield ok) else pure (ForInStep.yield r)) (TP X ae σ Q) X.xe s
def Ud:TT:=fun _ H Q=>Q true H
theorem fg:Nm X [] Ud:=fun _ _ _ H _ I h=>wpAny_tests_nil ⟨H,I,h⟩
theorem fh(h:PT X c t):Nm X [c] t:=fun ae s σ H Q I q=>wpAny_tests_one (h ae s σ H Q I q)
def g8(J:It)(g:TG)(tt:TT)(te:TE)(D:Addr)(fin:Hp->Prop)(σB:St)(H1:Hp):Prop:=
 ∃W:Nat->Nat->St->Hp->Prop,(∃m,W 0 m σB H1)/\∀i m σ H,W i m σ H->(J.stop i H/\fin H)\/(J.go i H/\∀x H',J.Jf i H x H'->g x σ H' fun σ2 H2=>tt σ2 H2 fun b H3=>
  if b=true then te σ2 H3 fun v H4=>∃ys,H4 D=some (.lst ys)/\ys.length<sizeLine/\∃m',m'<m/\W (i+1) m' σ2 (upd H4 D (.lst (ys++[v]))) else ∃m',m'<m/\W (i+1) m' σ2 H3)
def yI(G:Hp->Prop)(J:It)(g:TG)(tt:TT)(te:TE)(D:Addr)(fin:Hp->Prop)(σB:St)(H1:Hp):Prop:=
 ∃W:Nat->Nat->St->Hp->Prop,(∃m,W 0 m σB H1)/\∀i m σ H,W i m σ H->G H/\((J.stop i H/\fin H)\/(J.go i H/\∀x H',J.Jf i H x H'->g x σ H' fun σ2 H2=>tt σ2 H2 fun b H3=>
  if b=true then te σ2 H3 fun v H4=>∃ys,H4 D=some (.lst ys)/\ys.length<sizeLine/\∃m',m'<m/\W (i+1) m' σ2 (upd H4 D (.lst (ys++[v]))) else ∃m',m'<m/\W (i+1) m' σ2 H3))
theorem g8.g{J:It}{g:TG}{tt:TT}{te:TE}{D:Addr}{fin:Hp->Prop}{σB:St}{H1:Hp}(h:g8 J g tt te D fin σB H1):yI (fun _=>True) J g tt te D fin σB H1:=let ⟨W,a,b⟩:=h;⟨W,a,fun i m σ H w=>⟨trivial,b i m σ H w⟩⟩
theorem Bo(hx:B.xe=fun _ _=>False)(hc:∀H,G H->B.calm=true\/J.RP B.A H)(T:ut B.prog B.w B.K tg J fp it tn)(hg:PG B tg g)(ht:Nm B z5 tt)(he:PE B Cp te)(I:aK B [] σB H1 s)(st:tn 0 s.heap)(hf:∀b∈fp,kD B [] H1 b)(hw:yI G J g tt te D fin σB H1)(hR:∀σ' H' s',aK B [] σ' H' s'->fin H'->R (.ok .next) s'):
  codeAny (model B.prog B.w) B.A (.compLoop (.ListComp Cp [⟨tg,jn,z5,0⟩] scope pos) 0 (.ref it) (.ref D) B.env) R s:=by
 obtain⟨W,⟨m0,w0⟩,CW⟩:=hw;have yv:∀ {H':Hp},(∀b∈fp,H' b=none)->∀b∈fp,kD B [] H' b:=fun hn b hb=>⟨hn b hb,(hf b hb).2⟩
 refine codeAny_loop rfl (fun n s'=>∃i σ' H',aK B [] σ' H' s'/\tn i s'.heap/\(∀b∈fp,H' b=none)/\W i n σ' H') ?_ m0 ⟨0,σB,H1,I,st,fun b hb=>(hf b hb).1,w0⟩;rintro n s3 ⟨i,σ3,H3,I3,uv,Kq,w3⟩;show wpAny _ B.A ((compTurn (.ListComp Cp [⟨tg,jn,z5,0⟩] scope pos) 0 (.ref it) (.ref D) B.env).onRaise (fun x=>do noteFrame x B.env;theTreesLotGoes x)) _ _ s3;refine wpAny_noted ?_;rw[compTurn_list];have nx:∀ {α:Type} {t:Sem α} {Q:α->Shared->Prop} {E':Value->Shared->Prop} {s:Shared},wpAny (model B.prog B.w) B.A t Q B.xe s->wpAny (model B.prog B.w) B.A t Q E' s:=fun h=>
  ic h (fun _ _ q=>q) fun _ _ z=>by rw[hx] at z;exact z.elim
 obtain⟨hG,OA⟩:=CW i n σ3 H3 w3;rcases OA with ⟨stop,qn⟩|⟨go,step⟩
 .refine aI (pY (aI (bZ (T.done B rfl rfl rfl i [] s3 σ3 H3 _ (hc _ hG) I3 (yv Kq) uv stop) fun r s4 ⟨hr,I4⟩=>?_)));subst hr;exact wpAny_pure (hR σ3 H3 s4 I4 qn)
 .refine aI (pY (aI (bZ (T.item B rfl rfl rfl i [] s3 σ3 H3 _ (hc _ hG) I3 (yv Kq) uv go) fun r s4 ⟨u,hr,h4⟩=>?_)));subst hr;refine aI (bZ h4 fun _ s5 ⟨x,H5,I5,r5,y5,zO,TN⟩=>?_);have TQ:=I5.pinned (yv TN) (T.obj _ _ zO);refine aI (nx (bZ (hg _ s5 σ3 H5 x u _ TQ r5 (step x H5 y5)) fun _ s6 ⟨σ6,H6,I6,q6⟩=>?_));have back:∀ {σ7:St} {H7:Hp} {s7:Shared} {m':Nat},aK B ([]++qd fp s5.heap) σ7 H7 s7->m'<n->W (i+1) m' σ7 H7->∃m,m<n/\∃i σ' H',aK B [] σ' H' s7/\tn i s7.heap/\(∀b∈fp,H' b=none)/\W i m σ' H':=fun {σ7 H7 s7 m'} I7 hm w7=>by
   refine⟨m',hm,i+1,σ7,H7,I7.md,T.keep _ _ _ zO fun b hb o e=>(I7.pin (b,o) (io _ (io _ (iS hb e)))).1,fun b hb=>?_,w7⟩;obtain⟨o,e,d⟩:=T.obj _ _ zO b hb;exact(I7.pin (b,o) (io _ (io _ (iS hb e)))).2.1
  refine aI (nx (bZ (ht _ s6 σ6 H6 _ I6 q6) fun ok s7 ⟨H7,I7,q7⟩=>?_));cases ok with
  |false=>
   rw[ap cj] at q7;obtain⟨m',hm,w7⟩:=q7;exact wpAny_pure ⟨rfl,back I7 hm w7⟩
  |true=>
   rw[ao rfl] at q7;refine aI (aI (nx (bZ (he _ s7 σ6 H7 _ I7 q7) fun v s8 ⟨y,H8,I8,r8,ys,hD,hl,m',hm,w8⟩=>?_)));refine aI (nx (bZ (dj _ s8 σ6 H8 (.ref D) [y] (.ref D) [v] (fun _ H9=>H9=upd H8 D (.lst (ys++[y]))) I8 rfl (.cons r8 .nil) ⟨D,ys,y,rfl,rfl,hD,hl,rfl⟩) fun _ s9 ⟨_,H9,I9,_,e9⟩=>?_));subst e9;exact wpAny_pure (wpAny_pure ⟨rfl,back I9 hm w8⟩)
theorem uJ(hQ:Q { scope:=scope,locals:=s.heap.objs.size,globals:=globals,cells:=cellsFrom (s.heap.objs.size+1) scope.names cl,qual:=qual,func:=none,code:=outer.code,frame:=outer.frame,builtins:=outer.builtins }
   { s with heap:=pushCells (s.heap.push { cls:=.type "dict",data:=.dict #[] }) scope.names }):
  wpAny M A (newFunctionEnv scope globals cl [] qual none .none (some outer)) Q E s:=by
 simp only[newFunctionEnv,Option.isSome_some,iO];refine aI (wpAny_alloc ?_);refine aI (wpAny_layCells _ (fun name kind cells=>by cases ZF:kind==NameKind.cell <;> simp[ZF]) _ _ _ _ ?_);rw[show ({ s with heap:=s.heap.push { cls:=.type "dict",data:=.dict #[] } }:Shared).heap.objs.size=s.heap.objs.size+1 from iK ..];refine aI ?_;rw[List.forIn_nil];exact wpAny_pure (wpAny_pure hQ)
section
variable {X:Cx} {Cp tg jn:Expr} {z5:List Expr} {scope:Scope} {pos:Pos} {wi:TI} {g:TG} {tt:TT} {te:TE} {NB:List Str} {src:List (Option Nat)}
def Jk(src:List (Option Nat))(wi:TI)(g:TG)(tt:TT)(te:TE):TE:=fun σ H Q=>wi σ H fun J H1=>∀D,H1 D=none->g8 J g tt te D (fun H'=>Q (.ref D) H') (Jj src σ) (upd H1 D (.lst []))
theorem qk{ae:List (Addr×Obj)}{σ:St}{H2:Hp}{s2:Shared}{J:It}{fp:List Addr}{it:Addr}{tn:Nat->Heap->Prop}{cl:List (Str×Addr)}{fin:Addr->Hp->Prop}{E':Value->Shared->Prop}{RR:Value->Addr->Result->Shared->Prop}{G:Hp->Prop}(S:gB NB src scope X)(hc:∀H,G H->X.calm=true\/J.RP X.A H)(c1:∀x c,cl.lookup x=some c->X.env.cells.lookup x=some c)(c2:∀x,(x,NameKind.free)∈scope.names->∃c,cl.lookup x=some c)(hg:∀cl C s₃ H₃ fp,PG (z4 X NB scope cl C s₃ H₃ fp) tg g)(ht:∀cl C s₃ H₃ fp,Nm (z4 X NB scope cl C s₃ H₃ fp) z5 tt)(he:∀cl C s₃ H₃ fp,PE (z4 X NB scope cl C s₃ H₃ fp) Cp te)(I2:aK X ae σ H2 s2)(T:ut X.prog X.w X.K tg J fp it tn)(gU:tn 0 s2.heap)(f2:∀b∈fp,kD X ae H2 b)(hw:∀D,H2 D=none->yI G J g tt te D (fin D) (Jj src σ) (upd H2 D (.lst [])))(hR:∀D C H' s',kD X ae H' C->aK X ae σ H' s'->(∃m,s'.heap.Ns C m)->fin D H'->RR (.ref D) C (.ok .next) s'):
  wpAny (model X.prog X.w) X.A (newList []) (fun dG s₃=>wpAny (model X.prog X.w) X.A (newFunctionEnv scope X.env.globals cl [] X.env.qual none .none (some X.env)) (fun OB s₄=>
   codeAny (model X.prog X.w) X.A (.compStart (.ListComp Cp [⟨tg,jn,z5,0⟩] scope pos) 0 (.ref it) dG { OB with scope:=relabel scope X.env }) (RR dG OB.locals) s₄) E' s₃) E' s2:=by
 refine pU (uJ ?_);have I3:=I2.Ov (ys:=[]) (its:=[]) (t':=s2.toks) .nil (dg _);have hD:H2 s2.heap.objs.size=none:=I2.fresh;have fo:∀b∈fp,b<s2.heap.objs.size:=fun b hb=>by obtain⟨o,e,_⟩:=T.obj _ _ gU b hb;exact aX e
 have up:∀ {b:Addr},b∈fp->upd H2 s2.heap.objs.size (.lst []) b=H2 b:=fun {b} hb=>ak (aW (fo b hb));have f3:∀b∈fp,kD X ae (upd H2 s2.heap.objs.size (.lst [])) b:=fun b hb=>⟨by rw[up hb];exact(f2 b hb).1,(f2 b hb).2⟩
 have hsz:(s2.heap.push { cls:=.type "list",data:=.seq ([]:List Value).toArray }).objs.size=s2.heap.objs.size+1:=by rw[iK]
 generalize ZG:({ s2 with heap:=s2.heap.push { cls:=.type "list",data:=.seq ([]:List Value).toArray } }:Shared)=s3 at I3 |-;have XA:s3.heap=s2.heap.push { cls:=.type "list",data:=.seq ([]:List Value).toArray }:=by rw[<-ZG]
 have XB:∀b∈fp,b<s3.heap.objs.size:=fun b hb=>by rw[XA,hsz];exact fc (fo b hb)
 have OC:(s3.heap.push { cls:=.type "dict",data:=.dict #[] }).objs.size=s3.heap.objs.size+1:=iK ..;have nE:∀x c,(cellsFrom (s3.heap.objs.size+1) scope.names cl).lookup x=some c->cl.lookup x=some c\/(s3.heap.objs.size<c/\(pushCells (s3.heap.push { cls:=.type "dict",data:=.dict #[] }) scope.names).IsCell c none):=fun x c e=>by
  rw[<-OC] at e;rcases nF _ _ _ _ _ e with z|⟨z1,z2⟩
  .exact .inl z
  .exact .inr ⟨by rw[OC] at z1;exact z1,z2⟩
 have OD:=(Heap.Ns.new s3.heap (.type "dict")).keeps (pushCells_keeps scope.names _);have keep:∀b o,s3.heap.get? b=some o->(pushCells (s3.heap.push { cls:=.type "dict",data:=.dict #[] }) scope.names).get? b=some o:=fun b o e=>pushCells_keeps _ _ b o (cq _ e);generalize hh1:pushCells (s3.heap.push { cls:=.type "dict",data:=.dict #[] }) scope.names=h₁ at nE OD keep |-;have IB:aK (z4 X NB scope (cellsFrom (s3.heap.objs.size+1) scope.names cl) s3.heap.objs.size s3 (upd H2 s2.heap.objs.size (.lst [])) fp) [] (Jj src σ) (upd H2 s2.heap.objs.size (.lst [])) { s3 with heap:=h₁,toks:=s3.toks }:=
  Gk I3 S c1 c2 f3 XB OD keep nE
 have XC:tn 0 h₁:=T.keep 0 s2.heap h₁ gU fun b hb o e=>keep b o (by rw[XA];exact cq _ e);have fB:∀b∈fp,kD (z4 X NB scope (cellsFrom (s3.heap.objs.size+1) scope.names cl) s3.heap.objs.size s3 (upd H2 s2.heap.objs.size (.lst [])) fp) [] (upd H2 s2.heap.objs.size (.lst [])) b:=fun b hb=>by
  refine⟨(f3 b hb).1,aW (XB b hb),fun z=>?_,.inl hb,fun x c e=>(IB.ok.Ti b hb).2 x c e,fun p hp=>absurd (show p∈([]:List (Addr×Obj)) from hp) (by simp)⟩;rcases bL.mp (I3.p_ b z) with e|e
  .exact(f3 b hb).2.1 e
  .exact(f3 b hb).2.2.1 e
 have loop:codeAny (model X.prog X.w) X.A (.compLoop (.ListComp Cp [⟨tg,jn,z5,0⟩] scope pos) 0 (.ref it) (.ref s2.heap.objs.size) (compEnvC scope (cellsFrom (s3.heap.objs.size+1) scope.names cl) s3.heap.objs.size X.env)) (RR (.ref s2.heap.objs.size) s3.heap.objs.size)
   { s3 with heap:=h₁,toks:=s3.toks }:=by
  refine Bo (B:=z4 X NB scope (cellsFrom (s3.heap.objs.size+1) scope.names cl) s3.heap.objs.size s3 (upd H2 s2.heap.objs.size (.lst [])) fp) rfl hc T (hg _ _ _ _ _) (ht _ _ _ _ _) (he _ _ _ _ _) IB XC fB (hw _ hD) fun σ' H' s' J' q=>?_;obtain⟨m,hm,_⟩:=J'.loc;exact hR _ _ H' s' (I3.vL (aZ _) J'.free) (I3.Oz J' f3) ⟨m,hm⟩ q
 exact codeAny_compStart_list loop (T.self _ 0 _ _ _ XC loop)
theorem cR(S:gB NB src scope X)(hc:X.calm=true)(hi:PI X tg jn wi)(hg:∀cl C s₃ H₃ fp,PG (z4 X NB scope cl C s₃ H₃ fp) tg g)(ht:∀cl C s₃ H₃ fp,Nm (z4 X NB scope cl C s₃ H₃ fp) z5 tt)(he:∀cl C s₃ H₃ fp,PE (z4 X NB scope cl C s₃ H₃ fp) Cp te)(hs:∀x,foldedSetIterable jn X.env x=pure x:=by intro _;rfl):PE X (.ListComp Cp [⟨tg,jn,z5,0⟩] scope pos) (Jk src wi g tt te):=by
 intro ae s σ H Q I h;obtain⟨cl,Jl,c1,c2⟩:=lN I.ok S;rw[eval_ListComp];refine wpAny_comprehension_free (use:=none) (cl:=cl) rfl hs Jl S.kind S.names (bZ (hi ae s σ H _ I h) fun v s1 h1=>bZ h1 fun RQ s2 h2=>?_);obtain⟨it,fp,tn,J,H2,e,I2,T,gU,f2,hw⟩:=h2;subst e;refine qk (RR:=fun dG C=>compPost (model X.prog X.w) X.A X.xe none (EP X ae σ Q) dG C) S (G:=fun _=>True) (fun _ _=>.inl hc) c1 c2 hg ht he I2 T gU f2 (fun D hD=>(hw D hD).g) fun D C H' s' fC I' hm q=>?_;obtain⟨m,hm⟩:=hm;refine⟨m,hm,fun h' sb=>⟨.ref D,H',?_,rfl,q⟩⟩;obtain⟨g0,g1,_,g3,g4,g5⟩:=fC;exact I'.turned (t':=s'.toks) (fun b o hb e=>(sb.2 b hb).trans e) g0 g1 g3 g4 g5
theorem gG{i:Nat}{y:Str}{py OE:Pos}(S:gB NB src scope X)(hc:X.calm=true)(hi:PI X tg jn wi)(hg:∀cl C s₃ H₃ fp,PG (z4 X NB scope cl C s₃ H₃ fp) tg g)(ht:∀cl C s₃ H₃ fp,Nm (z4 X NB scope cl C s₃ H₃ fp) z5 tt)(he:∀cl C s₃ H₃ fp,PE (z4 X NB scope cl C s₃ H₃ fp) Cp te)(hN:X.N.Nodup)(ZH:X.N[i]?=some y)(hy:X.env.scope.names.lookup y=some .local)(ZI:swapsWith (.ListComp Cp [⟨tg,jn,z5,0⟩] scope pos) (some (.Name y py)) OE.line X.env=pure true)(hs:∀x,foldedSetIterable jn X.env x=pure x:=by intro _;rfl):
  PS X (.Assign [.Name y py] (.ListComp Cp [⟨tg,jn,z5,0⟩] scope pos) OE) (Kn (Jk src wi g tt te) (bD i)):=by
 intro ae s σ H D0 I h;obtain⟨cl,Jl,c1,c2⟩:=lN I.ok S;rw[exec_Assign_Name_used _ _ _ _ ZI];refine aI (pY (aI ?_));show wpAny _ X.A (do let _ <- comprehension (.ListComp Cp [⟨tg,jn,z5,0⟩] scope pos) scope X.env _ (newList []) false (eval jn X.env) (some (assign (.Name y py) X.env))) _ _ s;refine aI (ic (wpAny_comprehension_free (use:=some (assign (.Name y py) X.env)) (Q:=fun _ s'=>SP X ae D0 .next s') (cl:=cl) rfl hs Jl S.kind S.names
  (bZ (hi ae s σ H _ I h) fun v s1 h1=>bZ h1 fun RQ s2 h2=>?_)) (fun _ s' hq=>wpAny_pure (wpAny_pure hq)) fun _ _ e=>e)
 obtain⟨it,fp,tn,J,H2,e,I2,T,gU,f2,hw⟩:=h2;subst e;refine qk (RR:=fun dG C=>compPost (model X.prog X.w) X.A X.xe (some (assign (.Name y py) X.env)) (fun _ s'=>SP X ae D0 .next s') dG C) S (G:=fun _=>True) (fun _ _=>.inl hc) c1 c2 hg ht he I2 T gU f2 (fun D hD=>(hw D hD).g) fun D C H' s' fC I' hm q=>?_;obtain⟨m,hm⟩:=hm;obtain⟨g0,g1,_,g3,g4,g5⟩:=fC;show wpAny _ X.A (assign (.Name y py) X.env (.ref D)) _ _ _;refine wpAny_assign_Name (rT I' hN ZH (.inl hy) (v:=.ref D) rfl (fun On ZJ sb=>?_) (.inr hy));obtain⟨a,sb,ha⟩:=sb;have jp:C≠a:=by
  rcases ha with z|z
  .rw[z];exact g1
  .exact fun z'=>g4 y a z z'.symm
 refine⟨m,hm.sameBut sb jp,fun h' ZK=>⟨_,H',ZJ.turned (t':=On.toks) (fun b o hb e=>(ZK.2 b hb).trans e) g0 g1 g3 g4 g5,q⟩⟩
end
section
variable {P:Program} {w:World} {K:PySem.W.Frag} {mg:Str->Option Value} {base:Heap} {N:List Str} {qual:Str} {scope:Scope} {f:Addr} {cd:Value} {A:Around} {outer:List Env} {s:Shared} {H:Hp} {E:XK}
end
open PySem PySem.Spec PyProof.Rows PySem.W
abbrev ZL:List Value:=[.type "ValueError",.type "Exception",.type "BaseException",.type "object"]
structure Bp(K:PySem.W.Frag)(C:Addr):Prop where
 ex:PySem.W.excIn K C ZL "ValueError.__new__"=true
 kp:PySem.W.keepIn K (.ref C)=true
 ga:PySem.W.findIn K (.ref C) "__getattribute__"=some (some (.builtin "BaseException.__getattribute__"))
 gt:PySem.W.findIn K (.ref C) "__getattr__"=some none
 cl:PySem.W.findIn K (.ref C) "__class__"=some (some (.builtin "object.__class__"))
 mo:PySem.W.mroIn K C (.type "object")=some true
 mb:PySem.W.mroIn K C (.type "BaseException")=some true
 ty:(PySem.W.clsIn K C).isSome=true
def Ue(p:Addr)(C:Value)(h:Heap):Prop:=∃o,h.get? p=some o/\o.cls=C/\∃vs,o.data=.fields vs/\vs[2]?=some .none
abbrev Uf(p:Addr)(C:Value):HO:=.ext (Ue p C)
theorem bR.get(x:bR P w H h a o):∃u,h.get? a=some u:=by
 cases o with
 |lst xs=>obtain⟨_,_,_,_,e⟩:=x;exact⟨_,e⟩
 |tup xs=>obtain⟨_,_,_,ob,e,_⟩:=x;exact⟨_,e⟩
 |dK kvs=>obtain⟨_,_,_,_,o,_,_,e,_⟩:=x;exact⟨_,e⟩
 |dT kvs=>obtain⟨_,_,_,_,o,_,_,e,_⟩:=x;exact⟨_,e⟩
 |set S n=>obtain⟨o,_,_,_,e,_⟩:=x;exact⟨_,e⟩
 |ins C dx fs=>obtain⟨_,_,_,e,_⟩:=x;exact⟨_,e⟩
 |own y=>exact x
 |xd fs=>obtain⟨_,⟨_,_,_,e,_⟩,_⟩:=x;exact⟨_,e⟩
 |CL lo hi=>obtain⟨_,_,_,e⟩:=x;exact⟨_,e⟩
 |iI ob u=>obtain⟨e,_⟩:=x;exact⟨_,e⟩
 |m9 ps=>exact⟨_,(show h.get? a=some _ from x)⟩
 |met f y=>exact⟨_,(show h.get? a=some _ from x)⟩
 |ext φ=>exact x.2.1
theorem iP.uK(x:iP P w H h)(e:h.get? a=none):H a=none:=by
 cases q:H a with
 |none=>rfl
 |some u=>obtain⟨o,z⟩:=(x a u q).get;rw[e] at z;cases z
theorem aK.wa(I:aK X ae σ H s)(k:∀b u,s.heap.get? b=some u->h'.get? b=some u)(hp:s.heap.get? a=none)(new:bR X.prog X.w (upd H a o) h' a o):
  aK X ae σ (upd H a o) { s with heap:=h',toks:=t' }:=by
 have hn:=I.bC.uK hp;have ne:∀b u,s.heap.get? b=some u->b≠a:=fun b u e z=>by rw[z,hp] at e;cases e
 refine I.un ⟨fun b u e _ _ _=>k b u e,fun b u e _ _ _=>⟨u.slots,k b u e⟩,fun b u e n _=>by rw[ak (ne b u e)];exact n,fun b u e _=>⟨u,k b u e⟩,fun b xs e=>by rw[ak (ai e hn)];exact e,fun b u v e=>by rw[ak (ai e hn)];exact e,fun b ps e=>⟨#[],by rw[ak (ai e hn),e];simp⟩⟩ fun b u e=>?_;by_cases hb:b=a
 .subst hb;rw[af] at e;cases e;exact new
 .rw[ak hb] at e;exact(I.bC b u e).oG (fun c v _ q=>k c v q) (fun c q=>by rw[ak (ai q hn)];exact q) fun c xs q=>by rw[ak (ai q hn)];exact q
section
variable {prog:Program} {w:World} {A:Around} {E:Value->Shared->Prop} {s:Shared} {K:PySem.W.Frag} {x C:Addr} {ox:Obj}
theorem z6(hx:h.get? x=some ox)(hc:ox.cls=.ref C):PySem.W.Looks M h (typeOf (.ref x)) (.ref C):=hc ▸ (PySem.W.Looks.ld hx).andThen .now
open Builtin Builtin.ObjectAttr Builtin.Getset_descriptor in
theorem yJ(X:K.In s.heap)(hx:s.heap.get? x=some ox)(hc:ox.cls=.ref C)(hm:PySem.W.mroIn K C (.type "object")=some true)(h:R (.ok (.ret (.ref C))) s):codeAny (model prog w) A (.call (.builtin "getset_descriptor.__get__") ⟨[.builtin "object.__class__",.ref x,tp],[]⟩) R s:=by
 obtain⟨hh,g,dr,t,os⟩:=s;have L0:=z6 (M:=model prog w) hx hc;have L1:=looks_mroIn (M:=model prog w) X hm;refine xX KF.slot_gs.plain KF.entry_gs (KF.slot_gs.check _ _ _ _ _ _ _ _ KF.type_class (KF.args_gs _ _ _) ?_);unfold Builtin.«getset_descriptor.__get__» descrGet;rw[dga_obj];refine aI (wpAny_pure ?_);unfold descrGetter descrCheckInstance descrNameAndClass isInstance;simp only[KF.owner_class];repeat lk
 refine⟨Code.quiet_builtin _ (by decide +kernel),lu KF.entry_class ?_⟩;unfold Builtin.«object.__class__» shownTypeOf;repeat lk
 exact h
theorem Bq{g d t os}(T:Bp K C)(X:K.In h)(hx:h.get? x=some ox)(hc:ox.cls=.ref C)(hq:Q (.done (.ret (.ref C))) ⟨h,g,d,t,os⟩):
  wpAny (model prog w) A (Builtin.«object.__getattribute__» ⟨[.ref x,.str "__class__" tk],[]⟩) Q E ⟨h,g,d,t,os⟩:=by
 have f5:=F.typeOf_bexc_args;have hT5:(⟨h,g,d,t,os⟩:Shared).TypeIs (.builtin "object.__class__") "getset_descriptor":=CD;have f5':=CD;have f6:=F.slot_gs_get.lookup;have f7:=F.slot_gs_set.lookup;have L1:=looks_findIn (M:=model prog w) X T.cl;repeat (any_goals (first|assumption|(with_reducible refine yi hx ?_;rw[hc])|with_reducible refine L1.at ?_|wp_step))
 refine yJ (s:=⟨h,g,d,t,os⟩) X hx hc T.mo ?_;repeat (any_goals (first|assumption|wp_step))
theorem Br{g d t os}(T:Bp K C)(X:K.In h)(hx:h.get? x=some ox)(hc:ox.cls=.ref C)(hq:Q () ⟨h,g,d,t,os⟩):
  wpAny M A (checkBuiltinCall "BaseException.__getattribute__" ⟨[.ref x,OG],[]⟩) Q E ⟨h,g,d,t,os⟩:=by
 have hk:builtinKind "BaseException.__getattribute__"=some .slot:=by decide +kernel
 have KJ:splitId "BaseException.__getattribute__"=some ("BaseException","__getattribute__"):=by decide +kernel
 have ha:=F.args_bexc_ga (.ref x) OG;have L1:=looks_mroIn (M:=M) X T.mb;simp only[checkBuiltinCall,hk,KJ];refine aI ?_
 .unfold isInstance;repeat (first|(with_reducible refine yi hx ?_;rw[hc])|with_reducible refine L1.at ?_|wp_step)
  exact hq
theorem KL{tk:Tok}{fill F1:Bool}{Q:Value->Shared->Prop}{h:Heap}{g d t os}(T:Bp K C)(X:K.In h)(hx:h.get? x=some ox)(hc:ox.cls=.ref C)(hq:Q (.ref C) ⟨h,g,d,t,os⟩):
  wpAny (model prog w) A (getAttrBy (.ref x) (.str "__class__" tk) fill F1) Q E ⟨h,g,d,t,os⟩:=by
 have f3:=F.attr_ValueError.ga.bind (.ref x);have hx0:(F1&&onTheHeap (Value.builtin "BaseException.__getattribute__"))=false:=by cases F1 <;> rfl
 have RY:(Value.builtin "BaseException.__getattribute__"==Value.builtin "object.__getattribute__")=false:=by decide +kernel
 have hx1:(onTheHeap (Value.ref C)&&Value.builtin "BaseException.__getattribute__"==Value.builtin "object.__getattribute__")=false:=by rw[RY];rfl
 have L1:=looks_findIn (M:=model prog w) X T.ga;have L2:=looks_findIn (M:=model prog w) X T.gt;repeat (any_goals (first|assumption|(with_reducible refine yi hx ?_;rw[hc])|with_reducible refine L1.at ?_|with_reducible refine L2.at ?_|wp_step))
 refine xX F.attr_ValueError.ga.plain F.entry_bexc_ga (Br T X hx hc (Bq T X hx hc ?_));repeat (any_goals (first|assumption|wp_step))
theorem Df{Q:Option Value->Shared->Prop}{h:Heap}{g d t os}(T:Bp K C)(X:K.In h)(hx:h.get? x=some ox)(hc:ox.cls=.ref C)(hq:Q (some (.ref C)) ⟨h,g,d,t+1,os⟩):
  wpAny (model prog w) A (getAttr? (.ref x) "__class__") Q E ⟨h,g,d,t,os⟩:=by
 unfold getAttr?;repeat (any_goals (first|assumption|with_reducible apply KL T X hx hc|wp_step))
theorem Dg(T:Bp K C):PySem.W.KitX K (.ref x) (.ref C) (Ue x (.ref C)) where
 ty:=fun _ _ _ ⟨o,e,c,_⟩=>z6 e c
 it:=fun _ _ X _=>by
  obtain⟨ZM,F5⟩:=pG.mp T.ty;unfold clsIn at F5;split at F5
  .rename_i c' d' ZN Tn ho;intro A' Q' E' s' k q;unfold isType loadHead;exact aI (wpAny_loadPart (k _ _ (X _ _ ho)) (wpAny_pure q))
  .cases F5
 ne:=fun h tp dd its n sl X ZO=>by
  obtain⟨ZM,F5⟩:=pG.mp T.ty;refine tV.mpr fun q=>?_;have e:C=tp:=Value.ref.inj (gZ.mp q);subst e;unfold clsIn at F5;split at F5
  .rename_i c' d' ZN Tn ho;have z:=(X _ _ ho).symm.trans ZO;cases z
  .cases F5
 ca:=fun {_ _ _ _ _ s} X ⟨o,e,c,_⟩ k=>by
  obtain⟨h,g,d,t,os⟩:=s;exact Df T X e c k
end
section
variable {X:Cx}
inductive OH (K:PySem.W.Frag) (H:Hp):V->Value->Prop where
 |of {v:V} {t:Value} (h:nB K H v t):OH K H v t
 |exc {p C:Addr} (T:Bp K C) (e:H p=some (Uf p (.ref C))):OH K H (.ref p) (.ref C)
def KM(K:PySem.W.Frag):List V->Hp->VK->Prop:=fun xs H Q=>∃x c cv t b,xs=[x,c]/\(c=.ty cv/\PySem.W.kitOne K t (.type cv)=some b)/\OH K H x t/\Q (.bl b) H
theorem eR:eO X (.builtin "isinstance") (KM X.K):=by
 intro ae s σ H xs us Q I r h;obtain⟨x,c,cv,t,b,rfl,⟨rfl,e⟩,ty,q⟩:=h;obtain⟨u1,u2,rfl,r1,r2⟩:=r.two;obtain rfl:u2=Value.type cv:=r2;cases ty with
 |of ty=>exact Be I r1 ty e fun tk=>⟨.bl b,H,I.tok tk,rfl,q⟩
 |@exc p C T ea=>
  obtain rfl:u1=Value.ref p:=r1;have p1:Ue p (.ref C) s.heap:=(I.bC p _ ea).1;exact jh (Dg T) I.nt p1 e (fun z=>nomatch z) fun tk=>⟨.bl b,H,I.tok tk,rfl,q⟩
end
section
variable {X:Cx} {x:Str} {C:Addr} {np uF pos:Pos} {e:Expr} {es:List Expr} {t:TA}
end
section
variable {X:Cx} {CX:vP} {k:Nat} {f C:Addr} {fd:FuncData} {ps:List Str} {sp:Sp} {rj:List V} {ds:List Value} {E:St->XK} {x m:Str} {p pos uz:Pos} {e o:Expr} {es:List Expr} {ta:TE} {t:TA}
end
section
variable {X:Cx} {CX:vP} {k:Nat} {f:Addr} {fd:FuncData} {ps:List Str} {sp:Sp} {rj:List V} {ds:List Value} {E:XK} {x:Str} {p pos:Pos} {e:Expr} {es:List Expr} {t:TA}
end
section
variable {P:Program} {w:World} {K:PySem.W.Frag} {mg:Str->Option Value} {base:Heap}
end
section
variable {X:Cx} {ae:List (Addr×Obj)} {σ:St} {H:Hp} {s:Shared}
end
section
variable {X:Cx} {CX:vP} {k:Nat} {f:Addr} {fd:FuncData} {ps:List Str} {sp:Sp} {rj:List V} {ds:List Value} {E:XK} {x:Str} {p pos:Pos} {e:Expr} {es:List Expr} {t:TA}
end
section
variable {P:Program} {w:World} {K:PySem.W.Frag} {mg:Str->Option Value} {base:Heap}
end
theorem Go{h:Heap}{a:Addr}{m m':Str->Option Value}(x:h.Ns a m)(y:h.Ns a m'):m=m':=by
 obtain⟨o,es,ep,e,d,_,q⟩:=x;obtain⟨o',vy,Kh,e',d',_,q'⟩:=y;rw[e] at e';cases e';rw[d] at d';cases d';funext z;rw[<-q z,q' z]
theorem aK.OI{X:Cx}{ae:List (Addr×Obj)}{σ:St}{H:Hp}{s:Shared}{h':Heap}{m:Str->Option Value}{D:Addr}{o:HO}{t':Nat}(I:aK X ae σ H s)(F:Fr X.base X.env.locals s.heap m)(F':Fr X.base X.env.locals h' m)(N':News X.base X.env.locals h' (iQ X.base s.heap X.env.locals))(hD:s.heap.get? D=none)(new:bR X.prog X.w (upd H D o) h' D o):aK X ae σ (upd H D o) { s with heap:=h',toks:=t' }:=by
 have hn:=I.bC.uK hD;have ne:∀b u,s.heap.get? b=some u->b≠D:=fun b u e z=>by rw[z,hD] at e;cases e
 have keep:∀b u,b≠X.env.locals->s.heap.get? b=some u->h'.get? b=some u:=fun b u hb e=>by
  cases q:X.base.get? b with
  |some v=>
   have:=I.bk b v q;rw[e] at this;cases this;exact F'.keep b _ q
  |none=>exact(N' (b,u) (jE hb q e)).1
 refine I.step (g':=s.gens) (d':=s.drawn) (ch:=[]) (fun _ z=>absurd z (by simp)) (fun b u hb _ _ e _=>keep b u hb e) (fun b u hb _ _ e _=>⟨u.slots,keep b u hb e⟩) (fun b u _ e n=>by rw[ak (ne b u e)];exact n) (fun b u _ e=>?_)
  (fun b xs e=>by rw[ak (ai e hn)];exact e) (fun b u v e=>by rw[ak (ai e hn)];exact e) (fun b ps e=>⟨#[],by rw[ak (ai e hn),e];simp⟩) (fun m1 hm=>by rw[Go hm F.ns];exact F'.ns) (fun b u e=>?_) I.bare
 .by_cases hb:b=X.env.locals
  .obtain⟨o',_,_,q,_⟩:=F'.ns;exact⟨o',by rw[hb];exact q⟩
  .exact⟨u,keep b u hb e⟩
 .by_cases hb:b=D
  .subst hb;rw[af] at e;cases e;exact new
  .rw[ak hb] at e;refine(I.bC b u e).oG (fun c v hc q=>keep c v ?_ q) (fun c q=>by rw[ak (ai q hn)];exact q) fun c xs q=>by rw[ak (ai q hn)];exact q
   rintro rfl;rcases hc with z|hc
   .have f:=I.free;rw[z,e] at f;cases f
   .rw[I.free] at hc;cases hc
theorem rF(I:aK X ae σ H s)(N:News X.base X.env.locals h' ((D,o)::iQ X.base s.heap X.env.locals))(eB:∀q∈iQ X.base s.heap X.env.locals,q.1<D):s.heap.get? D=none:=by
 cases e:s.heap.get? D with
 |none=>rfl
 |some u=>
  obtain⟨_,n1,n2⟩:=N (D,o) b9;exact absurd (eB (D,u) (jE n1 n2 e)) (jj _)
def Dh(K:PySem.W.Frag)(H:Hp)(a:Addr)(y:Int×Int):Prop:=cx K H a [.int y.1,.int y.2]
section
variable {X:Cx}
theorem yK(I:aK X ae σ H s)(h:Dh X.K H a y):∃o n t u,s.heap.get? a=some o/\o.cls=.type "tuple"/\o.data=.seq #[.int y.1 t,.int y.2 u] n:=by
 obtain⟨its,r,p,_⟩:=I.tuple h;obtain⟨u1,u2,rfl,r1,r2⟩:=r.two;obtain⟨t,rfl⟩:=r1;obtain⟨t',rfl⟩:=r2;obtain⟨o,e,c,n,d⟩:=p;exact⟨o,n,t,t',e,c,d⟩
end
def KN(hs:Array Int)(i:Nat):Int:=(hs[i]?).getD 0
def fK(hs:Array Int)(t:SetTable)(h:Int):Option (Array Int×SetTable):=
 if t.gaveWay then none else
 match t.probe (KN hs) h (t.probeStart h) with
 |some (.empty j none)=>
  let q:=t.put j
  let Jm:=SetTable.insertAt hs q.2 h
  if q.1.fits Jm.size&&decide (Jm.size<=4096) then
   if q.1.tooFull then
    (match q.1.relaid Jm (SetTable.grown (hs.size+1)) with
    |some (t2,jk)=>
     let qc:=jk.filterMap (Jm[·]?)
     if qc.size==Jm.size&&t2.fits qc.size&&decide (SetTable.sizeAbove (SetTable.grown (hs.size+1))<=4096) then some (qc,t2) else none
    |none=>none)
   else some (Jm,q.1)
  else none
 |_=>none
def uL(led:Bool):List Int->Option (Array Int×SetTable):=fun l=>l.foldlM (fun q h=>fK q.1 q.2 h) (#[],SetTable.fresh 0 0 led)
def jL(h:Heap)(S:Addr)(hs:Array Int)(t:SetTable):Prop:=∃o es ep,h.get? S=some o/\o.cls=.type "set"/\(o.dict=none/\o.slots=#[])/\o.data=.set es ep t/\es.map (·.1)=hs/\t.fits es.size=true
section
variable {prog:Program} {w:World} {A:Around} {E:Value->Shared->Prop} {s:Shared} {S:Addr}
theorem KO(es:Array (Int×Value)):(fun i=>(es[i]?.map (·.1)).getD 0)=KN (es.map (·.1)):=by
 funext i;unfold KN;rw[Array.getElem?_map]
theorem mr(es:Array (Int×Value))(p:Nat)(x:Int×Value):(SetTable.insertAt es p x).map (·.1)=SetTable.insertAt (es.map (·.1)) p x.1:=by
 unfold SetTable.insertAt;simp
theorem nI(es:Array (Int×Value))(jk:Array Nat):(jk.filterMap (es[·]?)).map (·.1)=jk.filterMap ((es.map (·.1))[·]?):=by
 apply Array.ext';rw[pS,tI,tI,List.map_filterMap];congr 1;funext i;rw[Array.getElem?_map]
theorem yL(hS:jL s.heap S hs t)(hg:t.gaveWay=false)(hp:t.probe (KN hs) h (t.probeStart h)=some (.empty j none))(q:Q (.free j false) s):
  wpAny (model prog w) A (setSearch S x h true) Q E s:=by
 obtain⟨o,es,ep,ho,hc,XD,hd,hm,hf⟩:=hS;unfold setSearch setSearchFrom;refine aI (tX ho hd hf ?_);dsimp only;rw[hg,ap cj];have Jn:t.probe (fun i=>(es[i]?.map (·.1)).getD 0) h (t.probeStart h)=some (.empty j none):=by rw[KO,hm];exact hp
 refine aI (wpAny_pure ?_);erw[Jn];exact wpAny_pure q
theorem Bs(ho:s.heap.get? a=some o)(hc:o.cls=.type "tuple")(hd:o.data=.seq #[.int x t,.int y u] n)(q:Q true s):
  wpAny (model prog w) A (hashByValue 8 (.ref a)) Q E s:=by
 have hT:s.TypeIs (.ref a) "tuple":=⟨_,ho,hc⟩
 unfold hashByValue;refine aI (wpAny_specialOf hT PySem.F.slot_tuple_hash.lookup ?_);refine aI (ue ho hd ?_);refine aI ?_;show wpAny _ _ (forIn #[Value.int x t,Value.int y u] _ _) _ _ s;rw[<-Array.forIn_toList];refine wpAny_forIn_list _ (fun oI r s'=>r.1=none/\s'=s/\∀v∈oI,∃z k,v=Value.int z k) _ ?_ ?_ _ _ ⟨rfl,rfl,fun v hv=>?_⟩
 .rintro v oI r s' ⟨hr,rfl,rE⟩;obtain⟨z,k,rfl⟩:=rE v b9;refine aI (wpAny_pure ?_);exact wpAny_pure ⟨rfl,rfl,fun u' wb=>rE u' (cC _ wb)⟩
 .rintro⟨r1,r2⟩ s' ⟨hr,rfl,_⟩;have vA:r1=none:=hr;subst vA;exact wpAny_pure q
 .rcases bL.mp hv with z|z
  .exact⟨_,_,z⟩
  .rcases bL.mp z with z|z
   .exact⟨_,_,z⟩
   .cases z
theorem z7(hS:jL s.heap S hs t)(hf:t'.fits vy.size=true)(hz:vy.size<=4096)(q:∀h',Heap.SameBut S s.heap h'->jL h' S (vy.map (·.1)) t'->Q () { s with heap:=h' }):wpAny (model prog w) A (storeSet S vy t') Q E s:=by
 obtain⟨o,es,ep,ho,hc,XD,hd,hm,_⟩:=hS;refine wpAny_storeSet_of ho hd (q _ (Heap.SameBut.update s.heap S (Obj.putSet vy t')) ?_) (br hz (by decide));have g:=tR (Obj.putSet vy t') ho (by rw[putSet_of vy t' hd];rfl);rw[putSet_of vy t' hd] at g;exact⟨_,vy,ep+1,g,hc,XD,rfl,rfl,hf⟩
theorem Gp(hu:A.units<cLine)(hS:jL s.heap S hs t)(ho:s.heap.get? a=some o)(hc:o.cls=.type "tuple")(hd:o.data=.seq #[.int x tx,.int y ty] n)(jp:a≠S)(nu:fK hs t (tupleKeyHash (intKind prog w) [x,y])=some (hs',t'))(q:∀h' tk,Heap.SameBut S s.heap h'->jL h' S hs' t'->Q true { s with heap:=h',toks:=tk }):wpAny (model prog w) A (setAdd S (.ref a)) Q E s:=by
 have hk:IsTupleKey (intKind prog w) s.heap [x,y] a:=⟨o,_,n,ho,hc,hd,.cons (intKind_is _ _ _ _) (.cons (intKind_is _ _ _ _) .nil)⟩
 unfold setAdd;refine jw (aI (wpAny_pyHash_tuple hu hk ?_));generalize TY:s.toks+([x,y].length+1)=tk;generalize hh:tupleKeyHash (intKind prog w) [x,y]=h at nu |-;have XE:=hS;obtain⟨ob,es,ep,hb,Ug,hbd,Fz,hm,hf⟩:=hS;unfold setAddHashed setAddHashedIn;refine jw (aI (tX (s:={ s with toks:=tk }) hb Fz hf ?_));dsimp only;have Nn:byScan (.ref a) es=false:=by unfold byScan;rfl
 rw[Nn,ap cj];unfold fK at nu;cases hg:t.gaveWay with
 |true=>rw[hg,ao rfl] at nu;cases nu
 |false=>
  rw[hg,ap cj] at nu;split at nu
  .rename_i j hp;dsimp only at nu;split at nu
   .rename_i RZ;rw[eM,pQ] at RZ;refine aI (yL (s:={ s with toks:=tk }) XE hg hp ?_);dsimp only;refine aI (tX (s:={ s with toks:=tk }) hb Fz hf ?_);dsimp only;have ZP:∀ {kk:Bool->Sem Bool},wpAny (model prog w) A (kk true) Q E { s with toks:=tk }->wpAny (model prog w) A (if (t.put j).1.plain=true then hashByValue 8 (.ref a) >>= kk else pure true >>= kk) Q E { s with toks:=tk }:=fun {kk} hP=>by
     split
     .exact aI (Bs (s:={ s with toks:=tk }) ho hc hd hP)
     .exact aI (wpAny_pure hP)
    refine ZP ?_;simp only[iO];have hsz:(SetTable.insertAt es (t.put j).2 (h,Value.ref a)).size=(SetTable.insertAt hs (t.put j).2 h).size:=by
     rw[<-hm,<-mr es (t.put j).2 (h,Value.ref a),iJ]
    refine aI (z7 (s:={ s with toks:=tk }) XE (by rw[hsz];exact RZ.1) (by rw[hsz];exact RZ.2) fun h1 z8 S1=>?_);rw[mr,hm] at S1;split at nu
    .rename_i Uh;rw[show (!false&&(t.put j).1.tooFull)=true by rw[Uh];rfl,ao rfl];split at nu
     .rename_i t2 jk hr;split at nu
      .rename_i hq;rw[eM,eM,pQ,gZ] at hq;obtain⟨⟨Jo,R1⟩,XF⟩:=hq;cases nu;have ZQ:es.size=hs.size:=by rw[<-hm,iJ]
       refine aI ?_;unfold setRelay;obtain⟨o1,Gq,ep1,g1,g2,g3,g4,g5,g6⟩:=id S1;refine aI (tX (s:={ s with heap:=h1,toks:=tk }) g1 g4 g6 ?_);dsimp only;rw[ZQ];rw[ap (by (have h4:(4096:Nat)<=sizeLine:=by decide);lia)];refine aI ?_;rw[g5,hr];have yM:(jk.filterMap (Gq[·]?)).size=Gq.size:=by
        have e1:=congrArg Array.size (nI Gq jk);rw[iJ,g5] at e1;rw[e1,Jo,<-g5,iJ]
       refine wpAny_of_eq (show _=(pure (jk.filterMap (Gq[·]?),t'):Sem (Array (Int×Value)×SetTable)) from ?_) ?_
       .show (do
         let vy:=jk.filterMap (Gq[·]?)
         if vy.size != Gq.size then unsupported "internal:set-table-lost-an-element"
         pure (vy,t'):Sem (Array (Int×Value)×SetTable))=_
        simp[yM]
       dsimp only;have Ui:Gq.size<=4096:=by
        have e1:=congrArg Array.size g5;rw[iJ] at e1;rw[e1];exact RZ.2
       have ZR:(jk.filterMap (Gq[·]?)).size=(jk.filterMap ((SetTable.insertAt hs (t.put j).2 h)[·]?)).size:=by
        have e1:=congrArg Array.size (nI Gq jk);rw[iJ,g5] at e1;exact e1
       refine z7 (s:={ s with heap:=h1,toks:=tk }) S1 (by rw[ZR];exact R1) (by rw[yM];exact Ui) fun h2 Di S2=>?_;rw[nI,g5] at S2;exact wpAny_pure (q h2 tk (z8.trans Di) S2)
      .cases nu
     .cases nu
    .rename_i Uh;cases nu;have Uj:(t.put j).1.tooFull=false:=by simpa using Uh
     rw[show (!false&&(t.put j).1.tooFull)=false by rw[Uj];rfl,ap cj];exact wpAny_pure (q h1 tk z8 S1)
   .cases nu
  .cases nu
end
section
variable {prog:Program} {w:World} {A:Around} {E:Value->Shared->Prop} {s:Shared} {S Ia l:Addr} {R:Result->Shared->Prop}
def iV(h:Heap)(vs:List Value)(ys:List (Int×Int)):Prop:=vs.length=ys.length/\∀i v,vs[i]?=some v->∃a o n t u,v=.ref a/\h.get? a=some o/\o.cls=.type "tuple"/\o.data=.seq #[.int (ys.getD i (0,0)).1 t,.int (ys.getD i (0,0)).2 u] n
theorem iV.keeps(p:iV h vs ys)(k:∀b o,(∃xs n,o.data=.seq xs n)->h.get? b=some o->h'.get? b=some o):iV h' vs ys:=
 ⟨p.1,fun i v e=>let ⟨a,o,n,t,u,e1,e2,c,d⟩:=p.2 i v e;⟨a,o,n,t,u,e1,k a o ⟨_,_,d⟩ e2,c,d⟩⟩
def fj(prog:Program)(w:World)(y:Int×Int):Int:=tupleKeyHash (intKind prog w) [y.1,y.2]
theorem Dj(hh:A.handled=none)(hu:A.units+1<cLine)(ZS:l≠S)(Uk:l≠Ia)(Ul:S≠Ia):
  ∀ (k i:Nat) (s:Shared) (hs:Array Int) (t:SetTable),vs.length-i=k->i<=vs.length->s.heap.IsListIter Ia l i->s.heap.IsList l vs.toArray->iV s.heap vs ys->jL s.heap S hs t->
   ((ys.drop i).map (fj prog w)).foldlM (fun q h=>fK q.1 q.2 h) (hs,t)=some (hsN,tN)->
   (∀h' tk,(∀b o,b≠S->b≠Ia->s.heap.get? b=some o->h'.get? b=some o)->jL h' S hsN tN->R (.ok (.ret .none)) { s with heap:=h',toks:=tk })->
   codeAny (model prog w) A (.builtin "set.update.loop" ⟨[.ref S,.ref Ia],[]⟩) R s:=by
 intro k;induction k with
 |zero=>
  intro i s hs t hk hi rh hl hp hS hf hR;have e:i=vs.length:=by lia
  refine lu Cw ?_;rw[pO xx _];show wpAny _ A.in1 (pyNext (.ref Ia) >>= _) _ _ s;refine aI (xU (show A.in1.handled=none from hh) rh hl (by simp;lia) fun h' eb=>?_);show wpAny _ A.in1 (ret Value.none) _ _ _;have hd:ys.drop i=[]:=by rw[List.drop_eq_nil_iff];have:=hp.1;lia
  rw[hd] at hf;cases hf;obtain⟨o,es,ep,q1,q2⟩:=hS;exact wpAny_pure (hR h' s.toks (fun b o hb Gr e=>eb b o Gr e) ⟨o,es,ep,eb S o Ul q1,q2⟩)
 |succ k ih=>
  intro i s hs t hk hi rh hl hp hS hf hR;have eB:i<vs.length:=by lia
  refine lu Cw ?_;rw[pO xx _];show wpAny _ A.in1 (pyNext (.ref Ia) >>= _) _ _ s;have hv:vs[i]?=some vs[i]:=cm eB;refine aI (xP rh hl (x:=vs[i]) (by simpa using hv) fun h1 KP z8=>?_);obtain⟨a,o,n,tx,ty,ea,eo,ec,ed⟩:=hp.2 i _ hv;rw[ea];have OJ:∀b ob,(∃xs n,ob.data=.seq xs n)->s.heap.get? b=some ob->b≠Ia:=fun b ob ⟨xs,m,z⟩ e z'=>by
   obtain⟨oi,e1,_,d1⟩:=rh;rw[z',e1] at e;cases e;rw[d1] at z;cases z
  have OL:iV h1 vs ys:=hp.keeps fun b ob hb e=>(z8.2 b (OJ b ob hb e)).trans e;have XG:jL h1 S hs t:=by
   obtain⟨oS,es,ep,q1,q2⟩:=hS;exact⟨oS,es,ep,(z8.2 S Ul).trans q1,q2⟩
  have Gs:h1.IsList l vs.toArray:=by
   obtain⟨ol,q1,q2⟩:=hl;exact⟨ol,(z8.2 l Uk).trans q1,q2⟩
  have OM:h1.get? a=some o:=(z8.2 a (OJ a o ⟨_,_,ed⟩ eo)).trans eo;have XH:∀b ob,(∃xs n,ob.data=.seq xs n)->h1.get? b=some ob->b≠S:=fun b ob ⟨xs,m,z⟩ e z'=>by
   obtain⟨oS,es,ep,q1,_,_,q4,_⟩:=XG;rw[z',q1] at e;cases e;rw[q4] at z;cases z
  have Bt:i<ys.length:=by have:=hp.1;lia
  have Um:ys.drop i=ys[i]::ys.drop (i+1):=tw Bt;have ZT:ys.getD i (0,0)=ys[i]:=by rw[bP,cm Bt];rfl
  rw[Um,cX,List.foldlM_cons] at hf;cases nu:fK hs t (fj prog w ys[i]) with
  |none=>rw[nu] at hf;cases hf
  |some q=>
   obtain⟨qc,t2⟩:=q;rw[nu] at hf;have XI:((ys.drop (i+1)).map (fj prog w)).foldlM (fun q h=>fK q.1 q.2 h) (qc,t2)=some (hsN,tN):=hf;show wpAny _ A.in1 (holding [Value.ref a] (setAdd S (.ref a)) >>= _) _ _ _;refine aI (jw (Gp (s:={ s with heap:=h1 }) (by show A.units+1<cLine;exact hu) XG OM ec ed (XH a o ⟨_,_,ed⟩ OM) (hs':=qc) (t':=t2) (by rw[ZT];exact nu) fun h2 tk Di S2=>?_));refine wpAny_pure ⟨plainId_quiet xx _,?_⟩;refine ih (i+1) { s with heap:=h2,toks:=tk } qc t2 (by lia) eB ?_ ?_ (OL.keeps fun b ob hb e=>(Di.2 b (XH b ob hb e)).trans e) S2 XI fun h3 Uo k3 S3=>?_
   .obtain⟨oi,q1,q2⟩:=KP;exact⟨oi,(Di.2 Ia (Ne.symm Ul)).trans q1,q2⟩
   .obtain⟨ol,q1,q2⟩:=Gs;exact⟨ol,(Di.2 l ZS).trans q1,q2⟩
   .exact hR h3 Uo (fun b ob hb Gr e=>k3 b ob hb Gr ((Di.2 b hb).trans ((z8.2 b Gr).trans e))) S3
theorem Dk{vs:List Value}{ys:List (Int×Int)}{hsN:Bool->Array Int}{tN:Bool->SetTable}{Q:Value->Shared->Prop}(hh:A.handled=none)(hu:A.units+8<cLine)(hl:s.heap.IsList l vs.toArray)(hp:iV s.heap vs ys)(Bu:∀led,uL led (ys.map (fj prog w))=some (hsN led,tN led))(h:∀ (led:Bool) (h':Heap) (tk:Nat),jL h' s.heap.objs.size (hsN led) (tN led)->(∀b o,b<s.heap.objs.size->s.heap.get? b=some o->h'.get? b=some o)->Q (.ref s.heap.objs.size) { s with heap:=h',toks:=tk }):
  wpAny (model prog w) A (call (.type "set") [.ref l]) Q E s:=by
 obtain⟨c,tl,ZU⟩:=oa.mro;have c1:=oa.made;have c2:=oa.sub;refine m7 (codeAny_of_tree ?_);show wpAny _ _ (callAny (.type "set") _) _ _ _;refine wpAny_pure ⟨Code.quiet_builtin _ (by decide +kernel),lu PySem.F.entry_type_call ?_⟩;rw[Around.under_plain (weight_type_call_type "set" [.ref l] []) rfl];have c3:=oa.notType;have c4:=oa.canCreate;have c5:=PySem.F.typeCall_set_1 (.ref l);repeat (any_goals (first|assumption|wp_step))
 refine lC (code_set_new_1 (.ref l) (E:=E) (Q₁:=fun obj s₁=>∃led:Bool,obj=.ref s.heap.objs.size/\s₁={ s with heap:=s.heap.push { cls:=.type "set",dict:=none,data:=.set #[] 0 (.fresh 0 0 led) } }) fun led=>⟨led,rfl,rfl⟩) fun r s₁ hr=>?_;cases r with
 |error e=>exact hr
 |ok fl=>
  cases fl with
  |next=>exact hr.elim
  |brk=>exact hr.elim
  |cont=>exact hr.elim
  |ret obj=>
   obtain⟨led,rfl,rfl⟩:=hr;generalize Up:s.heap.push { cls:=.type "set",dict:=none,data:=.set #[] 0 (.fresh 0 0 led) }=hS;have hsz:hS.objs.size=s.heap.objs.size+1:=by rw[<-Up,iK]
   have gS:hS.get? s.heap.objs.size=some { cls:=.type "set",dict:=none,data:=.set #[] 0 (.fresh 0 0 led) }:=by rw[<-Up];exact cW _ rfl
   have up:∀b o,s.heap.get? b=some o->hS.get? b=some o:=fun b o e=>by rw[<-Up];exact cq _ e
   have hT:Shared.TypeIs { s with heap:=hS } (.ref s.heap.objs.size) "set":=⟨_,gS,rfl⟩
   have c6:=oa.init.lookup;have c7:=oa.init.bind (.ref s.heap.objs.size);repeat (any_goals (first|assumption|wp_step))
   refine lC (xX (R:=wants (fun r s₂=>r=.none/\∃h' tk,s₂={ s with heap:=h',toks:=tk }/\jL h' s.heap.objs.size (hsN led) (tN led)/\
     (∀b o,b<s.heap.objs.size->s.heap.get? b=some o->h'.get? b=some o)) E) oa.init.plain PySem.F.entry_set_init (check_set_init_1 hT ?_)) fun r₂ s₂ ON=>?_
   .obtain⟨ol,Jp,Jl,nl,R3⟩:=hl;obtain⟨ZV,XJ,XM,Uq⟩:=ol;simp only at Jl R3;subst Jl;subst R3;have Ur:=up _ _ Jp;have c8:=PySem.F.sub_list_set;have c9:=PySem.F.sub_list_frozenset;have c10:(Value.type "list"==Value.type "dict")=false:=by decide
    have Gs:hS.IsList l vs.toArray:=⟨_,Ur,rfl,nl,rfl⟩
    unfold Builtin.«set.__init__» noKeywords Builtin.Frozenset.updateFrom;generalize ZW:pyIter=PI
    wp_walk
    subst ZW;refine pT Gs ?_;refine aI (wpAny_runValue ?_);have eB:l<s.heap.objs.size:=aX Jp;refine Dj (l:=l) (vs:=vs) (ys:=ys) (hsN:=hsN led) (tN:=tN led) (by simp[hh]) (by simp;lia) (aW eB) (by rw[hsz];exact aW (fc eB)) (by rw[hsz];exact aW (jy _))
     (vs.length-0) 0 _ #[] (.fresh 0 0 led) rfl (dg _) ⟨_,cW _ rfl,rfl,rfl⟩ (Gs.push _) (hp.keeps fun b o _ e=>cq _ (up b o e)) ⟨_,#[],0,cq _ gS,rfl,⟨rfl,rfl⟩,rfl,by simp,rfl⟩ (Bu led) fun h' tk k S'=>?_
    show wpAny _ _ _ _ _ _;refine wpAny_pure ?_;show wpAny _ _ (ret Value.none) _ _ _;refine wpAny_pure ⟨rfl,h',tk,rfl,S',fun b o hb e=>?_⟩;exact k b o (aW hb) (by rw[hsz];exact aW (fc hb)) (cq _ (up b o e))
   .cases r₂ with
    |error e=>exact ON
    |ok ZX=>
     cases ZX with
     |next=>exact ON.elim
     |brk=>exact ON.elim
     |cont=>exact ON.elim
     |ret r=>
      obtain⟨rfl,h',tk,rfl,S',k⟩:=ON;repeat (any_goals (first|assumption|wp_step))
      exact h led h' tk S' k
end
open PySem
def Dl(l:List Nat):Nat:=l.foldl (fun a x=>a ||| (1 <<< x)) 0
theorem Bv(l:List Nat)(a j:Nat):(l.foldl (fun a x=>a ||| (1 <<< x)) a).testBit j=(a.testBit j||l.contains j):=by
 induction l generalizing a with
 |nil=>simp
 |cons x xs ih=>
  rw[t9,ih,Nat.testBit_or,List.contains_cons];have:(1 <<< x).testBit j=(j==x):=by
   rw[Nat.one_shiftLeft,Nat.testBit_two_pow];by_cases h:x=j
   .simp[h]
   .have h':¬ j=x:=fun e=>h e.symm;simp[h,h']
  rw[this,Bool.or_assoc]
theorem oj(h:Dl l=2 ^ n-1)(hj:j<n):j∈l:=by
 have e:=Bv l 0 j;have h':l.foldl (fun a x=>a ||| (1 <<< x)) 0=2 ^ n-1:=h;rw[h',Nat.testBit_two_pow_sub_one] at e;simp[hj] at e;exact e
def Dm(M:Nat):Nat->Nat->Nat
 |0,i=>i
 |n+1,i=>Dm M n ((i*5+1) % M)
theorem o6(M a:Nat):∀b i,Dm M (b+a) i=Dm M a (Dm M b i)
 |0,i=>by rw[pW];rfl
 |b+1,i=>by
  rw[show b+1+a=(b+a)+1 by lia];show Dm M (b+a) _=Dm M a (Dm M b _);exact o6 M a b _
def KQ(M:Nat):Nat->Nat->List Nat
 |0,_=>[]
 |n+1,i=>i::KQ M n ((i*5+1) % M)
theorem ql:∀ {n i},j∈KQ M n i->∃k,k<n/\Dm M k i=j
 |0,_,h=>by cases h
 |n+1,i,h=>by
  rcases bL.mp h with z|z
  .exact⟨0,by lia,z.symm⟩
  .obtain⟨k,a,b⟩:=ql z;exact⟨k+1,by lia,b⟩
structure sr(M:Nat):Prop where
 all:Dl (KQ M M 0)=2 ^ M-1
 back:Dm M M 0=0
theorem Us:sr 8:=⟨by decide +kernel,by decide +kernel⟩
theorem Jq:sr 32:=⟨by decide +kernel,by decide +kernel⟩
theorem Dn:sr 128:=⟨by decide +kernel,by decide +kernel⟩
theorem Do:sr 512:=⟨by decide +kernel,by decide +kernel⟩
theorem sr.cover(R:sr M)(hi:i<M)(hj:j<M):∃n,n<M/\Dm M n i=j:=by
 obtain⟨a,ha,ea⟩:=ql (oj R.all hi);obtain⟨b,hb,eb⟩:=ql (oj R.all hj);by_cases h:a<=b
 .refine⟨b-a,by lia,?_⟩;rw[<-ea,<-o6,show a+(b-a)=b by lia,eb]
 .refine⟨M+b-a,by lia,?_⟩;rw[<-ea,<-o6,show a+(M+b-a)=M+b by lia,o6,R.back,eb]
def gm(mask:Nat):Nat->Nat×Nat->Nat×Nat
 |0,q=>q
 |n+1,q=>gm mask n (SetTable.leap mask q.1 q.2)
theorem sv(m a:Nat):∀b q,gm m (b+a) q=gm m a (gm m b q)
 |0,q=>by rw[pW];rfl
 |b+1,q=>by
  rw[show b+1+a=(b+a)+1 by lia];exact sv m a b _
theorem wc:∀ {n:Nat} {q:Nat×Nat},q.1<m+1->(gm m n q).1<m+1
 |0,_,h=>h
 |n+1,q,h=>wc (n:=n) (ui _ (uf _))
theorem z9:∀ {n:Nat} {q:Nat×Nat},(gm m n q).2=q.2 / 32 ^ n
 |0,_=>by simp[gm]
 |n+1,q=>by
  show (gm m n _).2=_;rw[z9];show q.2 / 32 / 32 ^ n=_;rw[Nat.div_div_eq_div_mul,Nat.pow_succ,Nat.mul_comm]
theorem sw:∀ {n i:Nat},gm m n (i,0)=(Dm (m+1) n i,0)
 |0,_=>rfl
 |n+1,i=>by
  show gm m n (SetTable.leap m i 0)=_;unfold SetTable.leap;simp only[Nat.zero_div,h_];exact sw
theorem om(R:sr (m+1))(hi:i<m+1)(hp:p<2 ^ 64)(hj:j<m+1):∃n,n<m+14/\(gm m n (i,p)).1=j:=by
 have h1:=wc (m:=m) (n:=13) (q:=(i,p)) hi;have h2:(gm m 13 (i,p)).2=0:=by
  rw[z9];exact Nat.div_eq_of_lt (bU hp (by decide))
 obtain⟨n,hn,e⟩:=R.cover h1 hj;refine⟨13+n,by lia,?_⟩;rw[sv];have:gm m 13 (i,p)=((gm m 13 (i,p)).1,0):=Prod.ext rfl h2;rw[this,sw];exact e
theorem z_(h:Int):SetTable.bits h<2 ^ 64:=by
 unfold SetTable.bits;have a:=l9 h (show (2 ^ 64:Int)≠0 by decide);have b:=l6 h (show (0:Int)<2 ^ 64 by decide);lia
theorem OO{M:Nat}{l:List Nat}(h:l.length<M):∃j,j<M/\j∉l:=by
 have key:∀ (a b:List Nat),a.Nodup->(∀x∈a,x∈b)->a.length<=b.length:=by
  intro a;induction a with
  |nil=>intro b _ _;exact dg _
  |cons x xs ih=>
   intro b hn hs;obtain⟨h1,h2⟩:=dR.mp hn;have hx:x∈b:=hs x b9;have:=ih (b.erase x) h2 fun y hy=>(xM (fun (e:y=x)=>h1 (e ▸ hy))).mpr (hs y (cC _ hy));rw[xE hx] at this;have:0<b.length:=tH hx;rw[cw];lia
 apply tD;intro KR;have:=key (List.range M) l kP fun x hx=>tD fun sA=>KR ⟨x,bO.mp hx,sA⟩;rw[fL] at this;lia
def yN(mask i p:Nat):SetTable.Probe:={ j:=i,more:=SetTable.runEnd mask i-i,i:=i,perturb:=p,dummy:=none }
theorem KS(mask i:Nat):SetTable.runEnd mask i-i<=9:=by unfold SetTable.runEnd;split <;> lia
theorem uM{t:SetTable}(hd:t.dummies=#[])(j:Nat):t.slot j=.empty\/∃i,t.slot j=.live i/\t.place[i]?=some j:=by
 unfold SetTable.slot;dsimp only;split
 .rename_i h;exact .inr ⟨_,rfl,by simpa using h⟩
 .left;rw[hd];rfl
theorem yO{t:SetTable}(hd:t.dummies=#[]){j:Nat}(h:j∉t.place.toList):t.slot j=.empty:=by
 rcases uM hd j with e|⟨i,_,e2⟩
 .exact e
 .exact absurd (by rw[<-kN] at e2;exact dQ e2) h
section
variable {t:SetTable} {hashAt:Nat->Int} {h:Int}
theorem Dp(hd:t.dummies=#[])(hh:∀i,i<t.place.size->hashAt i≠h)(i p:Nat):∀ (r:Nat) (j fS:Nat),
  (∃j',SetTable.probe.go t hashAt h (fS+r+1) { j:=j,more:=r,i:=i,perturb:=p,dummy:=none }=some (.empty j' none))\/
  SetTable.probe.go t hashAt h (fS+r+1) { j:=j,more:=r,i:=i,perturb:=p,dummy:=none }=SetTable.probe.go t hashAt h fS (yN t.mask (SetTable.leap t.mask i p).1 (SetTable.leap t.mask i p).2)
 |0,j,fS=>by
  rcases uM hd j with e|⟨k,e,e2⟩
  .exact .inl ⟨j,by unfold SetTable.probe.go;rw[e]⟩
  .right;have hk:k<t.place.size:=(CG.mp e2).1;conv=>lhs;unfold SetTable.probe.go
   rw[e];simp only[gZ,hh k hk,fA];rfl
 |r+1,j,fS=>by
  rcases uM hd j with e|⟨k,e,e2⟩
  .exact .inl ⟨j,by rw[show fS+(r+1)+1=(fS+r+1)+1 by lia];unfold SetTable.probe.go;rw[e]⟩
  .have hk:k<t.place.size:=(CG.mp e2).1;have st:SetTable.probe.go t hashAt h (fS+(r+1)+1) { j:=j,more:=r+1,i:=i,perturb:=p,dummy:=none }=SetTable.probe.go t hashAt h (fS+r+1) { j:=j+1,more:=r,i:=i,perturb:=p,dummy:=none }:=by
    rw[show fS+(r+1)+1=(fS+r+1)+1 by lia];conv=>lhs;unfold SetTable.probe.go
    rw[e];simp only[gZ,hh k hk,fA];rfl
   rw[st];exact Dp hd hh i p r (j+1) fS
theorem Aa(hd:t.dummies=#[])(hh:∀i,i<t.place.size->hashAt i≠h):∀ (m:Nat) (i p fS:Nat),10*(m+1)<=fS->t.slot (gm t.mask m (i,p)).1=.empty->
  ∃j',SetTable.probe.go t hashAt h fS (yN t.mask i p)=some (.empty j' none)
 |0,i,p,fS,hf,e=>by
  obtain⟨f,rfl⟩:∃f,fS=f+1:=⟨fS-1,by lia⟩
  refine⟨i,?_⟩;have e':t.slot i=.empty:=e;unfold SetTable.probe.go yN;dsimp only;rw[e']
 |m+1,i,p,fS,hf,e=>by
  have hr:=KS t.mask i;obtain⟨f,Bw⟩:∃f,fS=f+(SetTable.runEnd t.mask i-i)+1:=⟨fS-(SetTable.runEnd t.mask i-i)-1,by lia⟩
  rcases Dp (hashAt:=hashAt) (h:=h) hd hh i p (SetTable.runEnd t.mask i-i) i f with z|z
  .rw[Bw];exact z
  .rw[Bw];show ∃j',SetTable.probe.go t hashAt h _ { j:=i,more:=_,i:=i,perturb:=p,dummy:=none }=_;rw[z];exact Aa hd hh m _ _ f (by lia) e
theorem yP(R:sr (t.mask+1))(hd:t.dummies=#[])(hs:t.place.size<=t.mask)(hh:∀i,i<t.place.size->hashAt i≠h):∃j,t.probe hashAt h (t.probeStart h)=some (.empty j none):=by
 obtain⟨j,hj,hn⟩:=OO (M:=t.mask+1) (l:=t.place.toList) (by simpa using Nat.lt_succ_of_le hs);obtain⟨m,hm,e⟩:=om R (ui (SetTable.bits h) (uf t.mask)) (z_ h) hj;refine Aa hd hh m _ _ _ ?_ (by rw[e];exact yO hd hn);unfold SetTable.turns;lia
end
theorem Dq{α β:Type}{f:α->Option β}:∀ {l:List α},(∀q∈l,(f q).isSome=true)->(l.filterMap f).length=l.length
 |[],_=>rfl
 |q::l,h=>by
  have hq:=h q b9;cases e:f q with
  |none=>rw[e] at hq;cases hq
  |some b=>rw[CJ e,cw,cw,Dq fun x hx=>h x (cC _ hx)]
theorem j8:∀ (m fS i p:Nat),m<fS->owner.getD (gm mask m (i,p)).1 (some 0)=none->∃j,SetTable.layClean.free mask owner fS i p=some j/\owner.getD j (some 0)=none
 |m,0,_,_,h,_=>by lia
 |m,fS+1,i,p,h,e=>by
  unfold SetTable.layClean.free;cases hf:(List.range (SetTable.runEnd mask i+1-i)).find? fun k=>(owner.getD (i+k) (some 0)).isNone with
  |some k=>
   refine⟨i+k,rfl,?_⟩;have:=List.find?_some hf;simpa using this
  |none=>
   cases m with
   |zero=>
    have h0:(0:Nat)∈List.range (SetTable.runEnd mask i+1-i):=bO.mpr (by unfold SetTable.runEnd;split <;> lia);have:=List.find?_eq_none.mp hf 0 h0;have e':owner.getD i (some 0)=none:=e;rw[h_,e'] at this;exact absurd rfl this
   |succ m=>
    exact j8 m fS _ _ (by lia) e
structure wd(M:Nat)(owner:Array (Option Nat))(k:Nat):Prop where
 size:owner.size=M
 cnt:owner.toList.countP Option.isSome=k
 lt:∀x,some x∈owner.toList->x<k
theorem yQ{l:List (Option Nat)}{j:Nat}{x:Nat}(hj:l[j]?=some none):(l.set j (some x)).countP Option.isSome=l.countP Option.isSome+1:=by
 induction l generalizing j with
 |nil=>cases hj
 |cons a l ih=>
  cases j with
  |zero=>
   obtain rfl:a=none:=by simpa using hj
   simp
  |succ j=>
   rw[List.set_cons_succ,mY,mY,ih (by simpa using hj)];lia
theorem wd.one{mask:Nat}{owner:Array (Option Nat)}{k:Nat}(L:wd (mask+1) owner k)(R:sr (mask+1))(hk:k<mask+1)(h:Int):
  ∃j,SetTable.layClean.free mask owner (SetTable.turns mask) (SetTable.bits h % (mask+1)) (SetTable.bits h)=some j/\wd (mask+1) (owner.setIfInBounds j (some k)) (k+1):=by
 have KR:∃j,j<mask+1/\owner.toList[j]?=some none:=by
  apply tD;intro KR;have rE:∀x∈owner.toList,x.isSome=true:=by
   intro x hx;obtain⟨j,hj,e⟩:=mV.mp hx;cases x with
   |some _=>rfl
   |none=>
    refine absurd ⟨j,?_,?_⟩ KR
    .rw[<-L.size];simpa using hj
    .rw[cm hj,e]
  have:=List.countP_eq_length.mpr rE;rw[L.cnt,ip,L.size] at this;lia
 obtain⟨j0,ZY,e0⟩:=KR;obtain⟨m,hm,em⟩:=om R (ui (SetTable.bits h) (uf mask)) (z_ h) ZY;obtain⟨j,ej,en⟩:=j8 (mask:=mask) (owner:=owner) m (SetTable.turns mask) (SetTable.bits h % (mask+1)) (SetTable.bits h) (by unfold SetTable.turns;lia)
  (by rw[em,tq,<-kN,e0];rfl)
 refine⟨j,ej,?_⟩;have ZZ:owner.toList[j]?=some none:=by
  rw[tq,<-kN] at en;cases hq:owner.toList[j]? with
  |none=>rw[hq] at en;cases en
  |some v=>rw[hq] at en;rw[show v=none from en]
 have Gu:(owner.setIfInBounds j (some k)).toList=owner.toList.set j (some k):=by simp
 refine⟨by simp[L.size],by rw[Gu,yQ ZZ,L.cnt],fun x hx=>?_⟩;rw[Gu] at hx;rcases List.mem_or_eq_of_mem_set hx with z|z
 .exact fc (L.lt x z)
 .cases z;exact jy _
theorem Ab(R:sr (mask+1)):∀ (l:List Int) (owner:Array (Option Nat)) (k:Nat),wd (mask+1) owner k->k+l.length<=mask->
  ∃Dr,l.foldl (fun dG h=>do
   let (owner,k) <- dG
   let j <- SetTable.layClean.free mask owner (SetTable.turns mask) (SetTable.bits h % (mask+1)) (SetTable.bits h)
   pure (owner.setIfInBounds j (some k),k+1)) (some (owner,k))=some (Dr,k+l.length)/\wd (mask+1) Dr (k+l.length)
 |[],owner,k,L,_=>⟨owner,rfl,L⟩
 |h::l,owner,k,L,hl=>by
  rw[cw] at hl;obtain⟨j,ej,L'⟩:=L.one R (by lia) h;obtain⟨o',e,L2⟩:=Ab R l _ _ L' (by lia);refine⟨o',?_,by rw[cw,show k+(l.length+1)=k+1+l.length by lia];exact L2⟩;rw[t9];have:(do
   let (owner,k) <- some (owner,k)
   let j <- SetTable.layClean.free mask owner (SetTable.turns mask) (SetTable.bits h % (mask+1)) (SetTable.bits h)
   pure (owner.setIfInBounds j (some k),k+1):Option (Array (Option Nat)×Nat))=some (owner.setIfInBounds j (some k),k+1):=by
   show (SetTable.layClean.free mask owner (SetTable.turns mask) (SetTable.bits h % (mask+1)) (SetTable.bits h)).bind _=_;rw[ej];rfl
  rw[this,e,cw,show k+(l.length+1)=k+1+l.length by lia]
theorem we(R:sr (mask+1))(hs:Array Int)(h:hs.size<=mask):∃owner,SetTable.layClean mask hs=some owner/\wd (mask+1) owner hs.size:=by
 have L0:wd (mask+1) (Array.replicate (mask+1) none) 0:=⟨by simp,by simp[List.countP_replicate],fun x hx=>by simp at hx⟩
 obtain⟨o,e,L⟩:=Ab R hs.toList _ 0 L0 (by simpa using h);refine⟨o,?_,by simpa using L⟩;unfold SetTable.layClean;rw[<-Array.foldl_toList];have e':=congrArg (Option.map (·.1)) e;exact e'
theorem yR(L:wd M owner n):
  ((List.range M).filterMap fun j=>(owner.getD j none).map (j,·)).length=n/\∀q∈(List.range M).filterMap (fun j=>(owner.getD j none).map (j,·)),q.2<n:=by
 constructor
 .rw[<-L.cnt];have e:owner.toList=(List.range M).map fun j=>owner.getD j none:=by
   apply List.ext_getElem
   .simp[L.size]
   .intro i h1 h2;simp only[yd,List.getElem_range,xO];rw[tq,xC (by simpa using h1)];rfl
  conv=>rhs;rw[e]
  rw[List.countP_map];generalize List.range M=l;induction l with
  |nil=>rfl
  |cons a l ih=>
   rw[mY,<-ih];cases hq:owner.getD a none with
   |none=>rw[List.filterMap_cons_none (by rw[hq];rfl),show (Option.isSome ∘ fun j=>owner.getD j none) a=false by show (owner.getD a none).isSome=false;rw[hq];rfl];simp
   |some x=>rw[CJ (b:=(a,x)) (by rw[hq];rfl),show (Option.isSome ∘ fun j=>owner.getD j none) a=true by show (owner.getD a none).isSome=true;rw[hq];rfl];simp
 .intro q hq;obtain⟨j,_,e⟩:=mW.mp hq;cases hx:owner.getD j none with
  |none=>rw[hx] at e;cases e
  |some x=>
   rw[hx] at e;cases e;refine L.lt x ?_;rw[tq,<-kN] at hx;cases hy:owner.toList[j]? with
   |none=>rw[hy] at hx;cases hx
   |some v=>rw[hy] at hx;obtain rfl:v=some x:=hx;exact dQ hy
structure wf(hs:Array Int)(t:SetTable):Prop where
 dm:t.dummies=#[]
 sz:t.place.size=hs.size
 ms:(t.mask=7/\hs.size<=4)\/(t.mask=31/\hs.size<=18)\/(t.mask=127/\hs.size<=76)\/(t.mask=511/\hs.size<=306)
theorem wf.Z0(T:wf hs t):sr (t.mask+1):=by
 rcases T.ms with ⟨e,_⟩|⟨e,_⟩|⟨e,_⟩|⟨e,_⟩ <;> rw[e]
 .exact Us
 .exact Jq
 .exact Dn
 .exact Do
theorem kS(xs:Array α)(p:Nat)(x:α):(SetTable.insertAt xs p x).size=xs.size+1:=by
 unfold SetTable.insertAt;simp;lia
theorem mw(h:y∈(SetTable.insertAt xs p x).toList):y=x\/y∈xs.toList:=by
 unfold SetTable.insertAt at h;rw[n_,jd,xN,xN] at h;rcases bq.mp h with z|z
 .rcases bq.mp z with z|z
  .right;rw[List.extract_eq_drop_take] at z;exact tL (mU z)
  .left;simpa using z
 .right;rw[List.extract_eq_drop_take] at z;exact tL (mU z)
theorem yS{hs:Array Int}{t:SetTable}{h:Int}(T:wf hs t)(hn:h∉hs.toList)(hl:hs.size<300):∃hs' t',fK hs t h=some (hs',t')/\wf hs' t'/\hs'.size=hs.size+1/\∀x∈hs'.toList,x=h\/x∈hs.toList:=by
 have Ui:t.place.size<=t.mask:=by rw[T.sz];rcases T.ms with ⟨e,z⟩|⟨e,z⟩|⟨e,z⟩|⟨e,z⟩ <;> lia
 have hh:∀i,i<t.place.size->KN hs i≠h:=by
  intro i hi e;rw[T.sz] at hi;unfold KN at e;rw[xC hi] at e;exact hn (by rw[<-e];simp)
 obtain⟨j,hp⟩:=yP (hashAt:=KN hs) (h:=h) T.Z0 T.dm Ui hh;have hg:t.gaveWay=false:=by
  unfold SetTable.gaveWay;rcases T.ms with ⟨e,_⟩|⟨e,_⟩|⟨e,_⟩|⟨e,_⟩ <;> rw[e] <;> rfl
 have q1:(t.put j).1.place=SetTable.insertAt t.place (SetTable.below t.place j) j:=rfl;have q2:(t.put j).1.dummies=#[]:=by
  show (if SetTable.has t.dummies j=true then _ else t.dummies)=_;rw[T.dm];rfl
 have q3:(t.put j).1.mask=t.mask:=rfl;have s1:(SetTable.insertAt hs (t.put j).2 h).size=hs.size+1:=kS _ _ _;have s2:(t.put j).1.place.size=hs.size+1:=by rw[q1,kS,T.sz]
 have fl:(t.put j).1.fill=hs.size+1:=by unfold SetTable.fill;rw[s2,q2];rfl
 have Z1:(t.put j).1.fits (SetTable.insertAt hs (t.put j).2 h).size=true:=by
  unfold SetTable.fits;rw[s1,s2,fl,q3];simp;rcases T.ms with ⟨e,z⟩|⟨e,z⟩|⟨e,z⟩|⟨e,z⟩ <;> lia
 unfold fK;rw[hg,ap cj,hp];dsimp only;rw[ao (by rw[Z1,s1];simp;lia)];by_cases hf:(t.put j).1.tooFull=true
 .rw[ao hf];have Bw:=hf;unfold SetTable.tooFull at Bw;rw[fl,q3] at Bw;have XI:(hs.size+1)*5>=t.mask*3:=by simpa using Bw
  have gr:SetTable.grown (hs.size+1)=(hs.size+1)*4:=by unfold SetTable.grown;rw[ap (by lia)]
  obtain⟨m2,XN,Ut,R2⟩:∃m2,SetTable.sizeAbove (SetTable.grown (hs.size+1))=m2+1/\((m2=31/\hs.size+1<=18)\/(m2=127/\hs.size+1<=76)\/(m2=511/\hs.size+1<=306))/\sr (m2+1):=by
   rw[gr];rcases T.ms with ⟨e,z⟩|⟨e,z⟩|⟨e,z⟩|⟨e,z⟩
   .have:hs.size=4:=by lia
    exact⟨31,by rw[this];rfl,.inl ⟨rfl,by lia⟩,Jq⟩
   .have:hs.size=18:=by lia
    exact⟨127,by rw[this];rfl,.inr (.inl ⟨rfl,by lia⟩),Dn⟩
   .have:hs.size=76:=by lia
    exact⟨511,by rw[this];rfl,.inr (.inr ⟨rfl,by lia⟩),Do⟩
   .lia
  have XO:(SetTable.insertAt hs (t.put j).2 h).size<=m2:=by rw[s1];rcases Ut with ⟨e,z⟩|⟨e,z⟩|⟨e,z⟩ <;> lia
  obtain⟨owner,eo,L⟩:=we R2 (SetTable.insertAt hs (t.put j).2 h) XO;obtain⟨OP,Uu⟩:=yR L;rw[s1] at OP Uu;generalize OQ:(List.range (m2+1)).filterMap (fun j=>(owner.getD j none).map (j,·))=live at OP Uu;have er:(t.put j).1.relaid (SetTable.insertAt hs (t.put j).2 h) (SetTable.grown (hs.size+1))=some ({ mask:=m2,place:=(live.map (·.1)).toArray,dummies:=#[],finger:=(t.put j).1.finger,led:=(t.put j).1.led,moves:=(t.put j).1.movedTo m2,plain:=(t.put j).1.plain },(live.map (·.2)).toArray):=by
   unfold SetTable.relaid SetTable.laid;rw[XN];simp only[Nat.add_sub_cancel];rw[eo];show some _=some _;rw[<-OQ]
  rw[er];dsimp only;have yM:((live.map (·.2)).toArray.filterMap ((SetTable.insertAt hs (t.put j).2 h)[·]?)).size=hs.size+1:=by
   rw[<-ip,tI];show ((live.map (·.2)).filterMap _).length=_;rw[<-OP,List.filterMap_map];refine Dq fun q hq=>?_;show ((SetTable.insertAt hs (t.put j).2 h)[q.2]?).isSome=true;rw[xC (by rw[s1];exact Uu q hq)];rfl
  have Z2:∀x,({ mask:=m2,place:=(live.map (·.1)).toArray,dummies:=#[],finger:=(t.put j).1.finger,led:=(t.put j).1.led,moves:=(t.put j).1.movedTo m2,plain:=(t.put j).1.plain }:SetTable).fits x=(decide (hs.size+1=x)&&decide (hs.size+1<=m2)):=by
   intro x;unfold SetTable.fits SetTable.fill;simp[OP];rw[l_];simp
  rw[ao (by
   rw[yM,s1,Z2,XN];have:hs.size+1<=m2:=by rw[<-s1];exact XO
   simp[this];rcases Ut with ⟨e,z⟩|⟨e,z⟩|⟨e,z⟩ <;> lia)]
  refine⟨_,_,rfl,⟨rfl,?_,?_⟩,yM,fun x hx=>?_⟩
  .rw[yM];simp[OP]
  .rw[yM];exact .inr Ut
  .rw[tI] at hx;obtain⟨k,_,ek⟩:=mW.mp hx;refine mw (p:=(t.put j).2) ?_;rw[<-kN] at ek;exact dQ ek
 .rw[ap hf];refine⟨_,_,rfl,⟨q2,by rw[s2,s1],?_⟩,s1,fun x hx=>mw hx⟩;have Bw:¬ (hs.size+1)*5>=t.mask*3:=by
   intro z;refine hf ?_;unfold SetTable.tooFull;rw[fl,q3];simpa using z
  rw[s1,q3];rcases T.ms with ⟨e,z⟩|⟨e,z⟩|⟨e,z⟩|⟨e,z⟩ <;> lia
theorem oq:∀ (l:List Int) (hs:Array Int) (t:SetTable),wf hs t->(∀x∈l,x∉hs.toList)->l.Nodup->hs.size+l.length<=300->∃hs' t',l.foldlM (fun q h=>fK q.1 q.2 h) (hs,t)=some (hs',t')/\hs'.size=hs.size+l.length
 |[],hs,t,_,_,_,_=>⟨hs,t,rfl,rfl⟩
 |h::l,hs,t,T,hn,nd,hl=>by
  rw[cw] at hl;obtain⟨n1,n2⟩:=dR.mp nd;obtain⟨Jm,t1,e1,T1,z1,m1⟩:=yS T (hn h b9) (by lia);obtain⟨qc,t2,e2,z2⟩:=oq l Jm t1 T1 (fun x hx hy=>by
   rcases m1 x hy with e|e
   .exact n1 (e ▸ hx)
   .exact hn x (cC _ hx) e) n2 (by lia)
  refine⟨qc,t2,?_,by rw[z2,z1,cw];lia⟩;rw[List.foldlM_cons];show (fK hs t h).bind _=_;rw[e1];exact e2
theorem Bx(led:Bool)(nd:l.Nodup)(hl:l.length<=300):∃hs t,uL led l=some (hs,t)/\hs.size=l.length:=by
 obtain⟨hs,t,e,z⟩:=oq l #[] (SetTable.fresh 0 0 led) ⟨rfl,rfl,.inl ⟨rfl,by decide⟩⟩ (fun x _ h=>by simp at h) nd (by simpa using hl);exact⟨hs,t,e,by simpa using z⟩
def Ac:List Nat->Nat->Bool
 |[],_=>true
 |x::xs,dG=>bif Nat.testBit dG x then false else Ac xs (dG ||| (1 <<< x))
theorem wg:∀ (l:List Nat) (dG:Nat),Ac l dG=true->l.Nodup/\∀x∈l,dG.testBit x=false
 |[],_,_=>⟨ji,fun x h=>(nomatch h)⟩
 |x::xs,dG,h=>by
  unfold Ac at h;cases hb:dG.testBit x with
  |true=>rw[hb] at h;cases h
  |false=>
   rw[hb] at h;obtain⟨nd,hx⟩:=wg xs _ h;have XQ:∀y∈xs,dG.testBit y=false/\y≠x:=by
    intro y hy;have:=hx y hy;rw[Nat.testBit_or,Nat.one_shiftLeft,Nat.testBit_two_pow] at this;rw[Bool.or_eq_false_iff] at this;exact⟨this.1,fun e=>by have:=this.2;simp[e] at this⟩
   refine⟨dR.mpr ⟨fun hm=>(XQ x hm).2 rfl,nd⟩,fun y hy=>?_⟩;rcases bL.mp hy with z|z
   .rw[z];exact hb
   .exact(XQ y z).1
def qm:List (Int×Int):=(List.range 32).flatMap fun a=>(List.range 32).map fun b=>(Int.ofNat a,Int.ofNat b)
def Jr(h:Int):Nat:=(h % 6554).toNat
theorem By(P:Program)(w:World):Ac (qm.map fun y=>Jr (fj P w y)) 0=true:=by kernel_rfl
theorem Ad(h1:0<=y.1/\y.1<32)(h2:0<=y.2/\y.2<32):y∈qm:=by
 unfold qm;refine List.mem_flatMap.mpr ⟨y.1.toNat,bO.mpr (by lia),bQ.mpr ⟨y.2.toNat,bO.mpr (by lia),Prod.ext ?_ ?_⟩⟩
 .show ((y.1.toNat:Nat):Int)=y.1;lia
 .show ((y.2.toNat:Nat):Int)=y.2;lia
theorem kT:∀ {l:List α},(l.map f).Nodup->∀x∈l,∀y∈l,f x=f y->x=y
 |[],_,_,h,_,_,_=>by cases h
 |a::l,h,x,hx,y,hy,e=>by
  rw[cX] at h;obtain⟨h1,h2⟩:=dR.mp h;rcases bL.mp hx with z|z <;> rcases bL.mp hy with z'|z'
  .rw[z,z']
  .exact absurd (bQ.mpr ⟨y,z',by rw[<-e,z]⟩) h1
  .exact absurd (bQ.mpr ⟨x,z,by rw[e,z']⟩) h1
  .exact kT h2 x z y z' e
theorem uN(hx:(0<=x.1/\x.1<32)/\(0<=x.2/\x.2<32))(hy:(0<=y.1/\y.1<32)/\(0<=y.2/\y.2<32))(e:fj P w x=fj P w y):x=y:=
 kT (wg _ _ (By P w)).1 x (Ad hx.1 hx.2) y (Ad hy.1 hy.2) (congrArg Jr e)
theorem nJ:∀ {l:List α},l.Nodup->(∀x∈l,∀y∈l,f x=f y->x=y)->(l.map f).Nodup
 |[],_,_=>ji
 |a::l,h,hf=>by
  obtain⟨h1,h2⟩:=dR.mp h;rw[cX];refine dR.mpr ⟨fun z=>?_,nJ h2 fun x hx y hy=>hf x (cC _ hx) y (cC _ hy)⟩;obtain⟨y,hy,e⟩:=bQ.mp z;have:=hf y (cC _ hy) a b9 e;exact h1 (this ▸ hy)
theorem wm{P:Program}{w:World}(led:Bool){ys:List (Int×Int)}(nd:ys.Nodup)(hr:∀y∈ys,(0<=y.1/\y.1<32)/\(0<=y.2/\y.2<32))(hl:ys.length<=300):
  ∃hs t,uL led (ys.map (fj P w))=some (hs,t)/\hs.size=ys.length:=by
 obtain⟨hs,t,e,z⟩:=Bx led (nJ nd fun x hx y hy e=>uN (P:=P) (w:=w) (hr x hx) (hr y hy) e) (by rw[aN];exact hl);exact⟨hs,t,e,by rw[z,aN]⟩
theorem uO:∀ {as:List Addr} {its:List Value},aV (as.map V.ref) its->its=as.map Value.ref
 |[],_,r=>by cases r;rfl
 |a::as,_,r=>by
  cases r with
  |cons r rr=>
   obtain rfl:=(show _=Value.ref a from r)
   rw[uO rr];rfl
def Gv(D:Addr)(n:Nat):HO:=.ext fun h=>∃hs t,jL h D hs t/\hs.size=n
section
variable {X:Cx}
def OR(K:PySem.W.Frag):List V->Hp->VK->Prop:=fun xs H Q=>∃ (l:Addr) (as:List Addr) (ys:List (Int×Int)),xs=[.ref l]/\aT K H l (as.map V.ref)/\as.length=ys.length/\
 (∀i,i<ys.length->Dh K H (as.getD i 0) (ys.getD i (0,0)))/\ys.Nodup/\(∀y∈ys,(0<=y.1/\y.1<32)/\(0<=y.2/\y.2<32))/\ys.length<=300/\∀D,H D=none->Q (.ref D) (upd H D (Gv D ys.length))
theorem Bz(hc:X.calm=true)(hu:X.A.units+8<cLine):eO X (.type "set") (OR X.K):=by
 intro ae s σ H xs us Q I r h;obtain⟨l,as,ys,rfl,hl,dZ,hp,nd,rg,h3,q⟩:=h;obtain⟨u1,rfl,r1⟩:=r.one;obtain rfl:u1=Value.ref l:=r1;obtain⟨its,rv,pl,hz⟩:=I.list hl;have e:=uO rv;subst e;have Z3:iV s.heap (as.map Value.ref) ys:=⟨by rw[aN,dZ],fun i v hv=>by
  rw[bo] at hv;cases ea:as[i]? with
  |none=>rw[ea] at hv;cases hv
  |some a=>
   rw[ea] at hv;obtain rfl:Value.ref a=v:=aY hv;have hi:i<as.length:=(cK.mp ea).1;obtain⟨o,n,t,u,e1,c,d⟩:=yK I (hp i (by lia));have eg:as.getD i 0=a:=by rw[bP,ea];rfl
   rw[eg] at e1;exact⟨a,o,n,t,u,rfl,e1,c,d⟩⟩
 have Bu:∀led,∃q:Array Int×SetTable,uL led (ys.map (fj X.prog X.w))=some q/\q.1.size=ys.length:=fun led=>
  let ⟨hs,t,e,z⟩:=wm (P:=X.prog) (w:=X.w) led nd rg h3;⟨(hs,t),e,z⟩
 refine Dk (I.ok.hd hc) hu pl.isList Z3 (hsN:=fun led=>(Bu led).choose.1) (tN:=fun led=>(Bu led).choose.2) (fun led=>(Bu led).choose_spec.1) fun led h' tk S' k=>?_;refine⟨.ref s.heap.objs.size,_,I.wa (t':=tk) (o:=Gv s.heap.objs.size ys.length) (fun b u e=>k b u (aX e) e) (lf (aZ _)) ⟨⟨_,_,S',(Bu led).choose_spec.2⟩,?_,fun h1 h2 ⟨hs,t,⟨o,es,ep,q1,q2⟩,z⟩ kk=>⟨hs,t,⟨o,es,ep,kk o q1,q2⟩,z⟩⟩,rfl,q _ I.fresh⟩;obtain⟨o,_,_,q1,_⟩:=S';exact⟨o,q1⟩
theorem wn:eO X (.builtin "len") (fun xs H Q=>∃D n,xs=[.ref D]/\H D=some (Gv D n)/\n<=4096/\Q (.int n) H):=by
 intro ae s σ H xs us Q I r h;obtain⟨D,n,rfl,e,hn,q⟩:=h;obtain⟨u1,rfl,r1⟩:=r.one;obtain rfl:u1=Value.ref D:=r1;obtain⟨⟨hs,t,⟨o,es,ep,q1,q2,q3,q4,q5,q6⟩,z⟩,_⟩:=(show bR X.prog X.w H s.heap D (Gv D n) from I.bC D _ e)
 have hsz:es.size=n:=by rw[<-z,<-q5,iJ]
 exact call_len_set q1 ⟨q2,q3.1,q3.2⟩ q4 q6 (by rw[hsz];lia) ⟨.int n,H,I.tok _,⟨_,by rw[hsz]⟩,q⟩
theorem wo:eO X (.type "range") (fun xs H Q=>∃n,xs=[.int n]/\∀p,H p=none->Q (.ref p) (upd H p (.CL 0 n))):=by
 intro ae s σ H xs us Q I r h;obtain⟨n,rfl,q⟩:=h;obtain⟨u1,rfl,t,rfl⟩:=r.one;refine call_range_1 ⟨.ref s.heap.objs.size,_,I.laid (o:=.CL 0 n) (fun b u e=>cq _ e) (aZ _) ⟨_,_,_,cW _ rfl⟩,rfl,q _ I.fresh⟩
theorem yT(hc:X.calm=true):eO X (.type "list") (fun xs H Q=>∃ (p:Addr) (n:Nat),xs=[.ref p]/\H p=some (.CL 0 n)/\n<=1000/\∀l,H l=none->Q (.ref l) (upd H l (.lst ((List.range n).map fun (i:Nat)=>V.int i)))):=by
 intro ae s σ H xs us Q I r h;obtain⟨p,n,rfl,e,hn,q⟩:=h;obtain⟨u1,rfl,r1⟩:=r.one;obtain rfl:u1=Value.ref p:=r1;obtain⟨t,u,v,hp⟩:=(show bR X.prog X.w H s.heap p (.CL 0 n) from I.bC p _ e)
 refine call_list_range (n:=n) (I.ok.hd hc) (show IsRange s.heap p 0 n 1 t u v from hp) (small_one (by lia) (by lia) (by lia) (by lia)) (by rw[rangeSize_one];split <;> lia) (by lia) fun h' tk dG c k g it=>?_;obtain⟨i1,i2⟩:=it;refine⟨.ref s.heap.objs.size,_,I.wa (t':=tk) (o:=.lst ((List.range n).map fun (i:Nat)=>V.int i)) (fun b u e=>k b u e) (lf (aZ _)) ⟨?_,dG.toList,c,?_,by simpa using g⟩,rfl,q _ I.fresh⟩
 .rw[aN,fL];exact br hn (by decide)
 .have go:∀ (m:Nat) (l:List Value),l.length=m->(∀ (j:Nat) v,l[j]?=some v->∃t,v=Value.int (0+(j:Int)*1) t)->aV ((List.range m).map fun (i:Nat)=>V.int i) l:=by
   intro m;induction m with
   |zero=>intro l hl _;cases l with
    |nil=>exact .nil
    |cons _ _=>cases hl
   |succ m ih=>
    intro l hl hv;have jp:l≠[]:=by intro z;rw[z] at hl;cases hl
    have el:l=l.dropLast++[l.getLast jp]:=(List.dropLast_concat_getLast jp).symm;rw[jz,cD,el];have R3:l.dropLast.length=m:=by rw[List.length_dropLast,hl];rfl
    refine aV.append (ih _ R3 fun j v hj=>hv j v ?_) (.cons ?_ .nil)
    .rw[el];have Z4:j<l.dropLast.length:=(cK.mp hj).1;rw[ja Z4];exact hj
    .obtain⟨t,ht⟩:=hv m (l.getLast jp) (by
      rw[List.getLast_eq_getElem,cm (by lia:m<l.length)];simp[hl])
     exact⟨t,by rw[ht];simp⟩
  exact go n dG.toList (by simpa using i1) fun j v hj=>i2 j v (by simpa using hj)
end
def ow(e:V->V->Bool):List V->List V->Bool
 |[],[]=>true
 |x::xs,y::ys=>e x y&&ow e xs ys
 |_,_=>false
theorem oy:∀ {xs ys:List V},xs.length=ys.length->ow e xs ys=(List.range xs.length).all fun i=>e (xs.getD i .bJ) (ys.getD i .bJ)
 |[],[],_=>rfl
 |x::xs,y::ys,h=>by
  have h':xs.length=ys.length:=by simpa using h
  rw[ow,oy h',cw,tG,lw,List.all_map];rfl
 |[],_::_,h=>by simp at h
 |_::_,[],h=>by simp at h
theorem sB:∀ {xs ys:List V},xs.length≠ys.length->ow e xs ys=false
 |[],[],h=>absurd rfl h
 |x::xs,y::ys,h=>by
  have h':xs.length≠ys.length:=fun z=>h (by simp[z]);rw[ow,sB h',ua]
 |[],_::_,_=>rfl
 |_::_,[],_=>rfl
section
variable {X:Cx}
def OS(X:Cx)(H:Hp)(e:V->V->Bool)(x y:V):Prop:=∀ (ae:List (Addr×Obj)) (s:Shared) (σ:St) (A:Around) (u v:Value),aK X ae σ H s->A.units+1<cLine->bf x u->bf y v->SeqAt.EqAt A s u v (e x y)
def Uv(X:Cx)(Os:Bool)(e:V->V->Bool):R2:=fun x y H Q=>∃p q xs ys,x=.ref p/\y=.ref q/\aT X.K H p xs/\aT X.K H q ys/\(∀i,i<xs.length->i<ys.length->OS X H e (xs.getD i .bJ) (ys.getD i .bJ))/\Q (.bl (if Os then !ow e xs ys else ow e xs ys)) H
theorem Ds(I:aK X ae σ H s)(hu:A.units+1<cLine)(rx:aV xs us)(ry:aV ys vs)(he:∀i,i<xs.length->i<ys.length->OS X H e (xs.getD i .bJ) (ys.getD i .bJ)):∀j (h1:j<us.toArray.size) (h2:j<vs.toArray.size),SeqAt.EqAt A s us.toArray[j] vs.toArray[j] (e (xs.getD j .bJ) (ys.getD j .bJ)):=by
 intro j h1 h2;have j1:j<xs.length:=by rw[rx.length];simpa using h1
 have j2:j<ys.length:=by rw[ry.length];simpa using h2
 have e1:xs[j]?=some (xs.getD j .bJ):=by rw[bP,cm j1];rfl
 have e2:ys[j]?=some (ys.getD j .bJ):=by rw[bP,cm j2];rfl
 obtain⟨u,mS,ru⟩:=rx.get e1;obtain⟨v,Uw,rv⟩:=ry.get e2;have eu:us.toArray[j]=u:=by
  have:us[j]?=some us.toArray[j]:=by simp at h1 |-
  rw[mS] at this;exact(aY this).symm
 have ev:vs.toArray[j]=v:=by
  have:vs[j]?=some vs.toArray[j]:=by simp at h2 |-
  rw[Uw] at this;exact(aY this).symm
 rw[eu,ev];exact he j j1 j2 ae s σ A u v I hu ru rv
theorem Dt{e:V->V->Bool}(hu:X.A.units+2<cLine):me X (compareOp .NotEq) (Uv X true e):=by
 intro ae s σ H x y v u Q I rx ry h;obtain⟨p,q,xs,ys,rfl,rfl,hp,hq,he,k⟩:=h;obtain rfl:v=Value.ref p:=rx;obtain rfl:u=Value.ref q:=ry;obtain⟨us,r1,p1,_⟩:=I.list hp;obtain⟨vs,r2,p2,_⟩:=I.list hq;by_cases hl:xs.length=ys.length
 .refine SeqAt.RcNeAt.lists (e:=fun i=>e (xs.getD i .bJ) (ys.getD i .bJ)) p1.isList p2.isList (by simp only[cu];rw[<-r1.length,<-r2.length];exact hl) (by lia) (Ds I (by show X.A.units+1+1<cLine;lia) r1 r2 he) _ _ _ _ ⟨.bl _,H,I,rfl,?_⟩;rw[show us.toArray.size=xs.length by rw[cu,r1.length],<-oy hl];exact k
 .refine SeqAt.RcNeAt.lists_lengths p1.isList p2.isList (by simp only[cu];rw[<-r1.length,<-r2.length];simpa using hl) (by lia) _ _ _ _ ⟨.bl _,H,I,rfl,?_⟩;have k':=k;rw[sB hl] at k';exact k'
theorem BA(hc:X.calm=true):eO X (.builtin "any") (fun xs H Q=>∃ (p:Addr) (bs:List Bool),xs=[.ref p]/\aT X.K H p (bs.map V.bl)/\Q (.bl (bs.any id)) H):=by
 intro ae s σ H xs us Q I r h;obtain⟨p,bs,rfl,hp,q⟩:=h;obtain⟨u1,rfl,r1⟩:=r.one;obtain rfl:u1=Value.ref p:=r1;obtain⟨its,rv,pl,hz⟩:=I.list hp;have yU:its=bs.map Value.bool:=by
  have go:∀ (bs:List Bool) (its:List Value),aV (bs.map V.bl) its->its=bs.map Value.bool:=by
   intro bs;induction bs with
   |nil=>intro its r;cases r;rfl
   |cons b bs ih=>
    intro its r;cases r with
    |cons r rr=>
     obtain rfl:=(show _=Value.bool b from r)
     rw[ih _ rr];rfl
  exact go bs its rv
 subst yU;obtain⟨ob,Ux,_⟩:=id pl.isList;have eB:p<s.heap.objs.size:=aX Ux;refine call_any_walk (pT pl.isList ⟨s.heap.objs.size,_,_,_,_,_,fun i=>bs.getD i false,rfl,Walks.list (show X.A.in1.handled=none from I.ok.hd hc) _ p (aW eB) _,⟨⟨_,cW _ rfl,rfl,rfl⟩,pl.isList.push _⟩,fun i v s1 Q' E' hv hq=>?_,fun h' tk k=>?_⟩)
 .have yy:(bs.map Value.bool)[i]?=some v:=by simpa using hv
  rw[bo] at yy;cases eb:bs[i]? with
  |none=>rw[eb] at yy;cases yy
  |some b=>
   rw[eb] at yy;obtain rfl:Value.bool b=v:=aY yy;have:bs.getD i false=b:=by rw[bP,eb];rfl
   have F8:Q' b s1:=by rw[<-this];exact hq
   exact wpAny_pure F8
 .have keep:∀b o,s.heap.get? b=some o->h'.get? b=some o:=fun b o e=>k b o (by simpa using aW (aX e)) (cq _ e);refine⟨.bl (bs.any id),H,I.kept (t':=tk) keep,?_,q⟩;show Value.bool _=Value.bool _;congr 1;have go:∀ (bs:List Bool),((List.range bs.length).any fun i=>bs.getD i false)=bs.any id:=by
   intro bs;induction bs with
   |nil=>rfl
   |cons b bs ih=>
    rw[cw,tG,jA,List.any_map,jA,<-ih];rfl
  rw[<-go bs];simp
end
def oz(c:Addr)(qual:Str):HO:=.ext fun h=>h.CodeRec (.ref c) qual
theorem Dv(x:h.CodeRec (.ref c) qual):bR P w H h c (oz c qual):=by
 refine⟨x,?_,?_⟩
 .obtain⟨c',o,vs,t,e,ho,_⟩:=x;cases e;exact⟨o,ho⟩
 .rintro h1 h2 ⟨c',o,vs,t,e,ho,r⟩ k;cases e;exact⟨c,o,vs,t,rfl,k o ho,r⟩
def Js(f:Addr)(qual:Str)(params:Arguments)(body:Expr)(scope:Scope)(cells:List (Str×Addr))(c:Addr)(h:Heap):Prop:=
 ∃ (dt:List (Str×Addr)) (pm uP:Value),(∀x a,dt.lookup x=some a->cells.lookup x=some a)/\(∀x,(x,NameKind.free)∈scope.names->∃a,dt.lookup x=some a)/\
  h.get? f=some (PySem.W.kla_obj "<lambda>" qual params body scope dt pm c uP)
def qo(f:Addr)(qual:Str)(params:Arguments)(body:Expr)(scope:Scope)(cells:List (Str×Addr))(c:Addr):HO:=.ext (Js f qual params body scope cells c)
theorem Ae(x:Js f qual params body scope cells c h):
  bR P w H h f (qo f qual params body scope cells c):=by
 refine⟨x,?_,?_⟩
 .obtain⟨_,_,_,_,_,e⟩:=x;exact⟨_,e⟩
 .rintro h1 h2 ⟨dt,pm,uP,a,b,e⟩ k;exact⟨dt,pm,uP,a,b,k _ e⟩
def jM(lp:Pos)(qual:Str)(P:Addr)(H:Hp):Prop:=H P=some (.m9 #[])\/∃c,H P=some (.m9 #[rawInt lp.line,rawInt lp.col,.ref c])/\H c=some (oz c qual)
structure Gw(X:Cx)(c P:Addr):Prop where
 code:X.env.code=.ref c
 hd:PySem.W.CodeHd X.base c P
 bm:∃bm o,X.mg "__builtins__"=some (.ref bm)/\bm≠builtinsNs/\bm≠mainGlobals/\X.base.get? bm=some o/\o.cls=.type "module"/\o.dict=some builtinsNs/\o.data=.plain
def Uy(lp:Pos)(qual:Str)(P:Addr)(params:Arguments)(body:Expr)(scope:Scope)(cells:List (Str×Addr)):TE:=fun _ H Q=>jM lp qual P H/\
 ∀ (f c:Addr) (H2:Hp),jM lp qual P H2->(∀b o,H b=some o->b≠P->H2 b=some o)->H2 c=some (oz c qual)->H2 f=some (qo f qual params body scope cells c)->Q (.ref f) H2
theorem wq{lp:Pos}{c:Addr}:TriplesOk (#[rawInt lp.line,rawInt lp.col,.ref c]:Array Value).toList:=trivial
theorem BB:codeAmong lp (#[rawInt lp.line,rawInt lp.col,.ref c]:Array Value).toList=some (.ref c):=by
 show (if ((lp.line:Int)==(lp.line:Int)&&(lp.col:Int)==(lp.col:Int))=true then some (Value.ref c) else _)=_;simp
section
variable {X:Cx} {c P:Addr} {params:Arguments} {body:Expr} {scope:Scope} {lp:Pos} {NB:List Str} {src:List (Option Nat)}
theorem Gw.at(C:Gw X c P)(I:aK X ae σ H s)(hP:H P=some (.m9 ps)):s.heap.BuiltinsAt X.mg P:=by
 obtain⟨bm,o,b1,b2,b3,b4,b5,b6,b7⟩:=C.bm;refine⟨bm,o,b1,b2,b3,fun z=>?_,I.bk _ _ b4,b5,b6,b7⟩;have:=(I.bs _ _ b4).2;rw[z,hP] at this;cases this
theorem aK.Jt(I:aK X ae σ H s):s.heap.Ns mainGlobals X.mg:=I.mod.glob.keeps I.bk
theorem Dw(C:Gw X c P)(S:gB NB src scope X)(Uz:defaultsOf params X.env=([],[]):=by rfl):PE X (.Lambda params body scope lp) (Uy lp (X.env.qual++"<lambda>") P params body scope X.env.cells):=by
 intro ae s σ H Q I h;obtain⟨Z5,h⟩:=h;obtain⟨dt,XR,c1,c2⟩:=lN I.ok S;refine PySem.W.kla_eval Uz ?_;have hsz:∀b o,s.heap.get? b=some o->b<s.heap.objs.size:=fun b o e=>aX e;rcases Z5 with hP|⟨c',hP,FX⟩
 .-- Z6 first time
  have OT:s.heap.get? P=some (PySem.W.tabObj #[]):=I.bC P _ hP;have Z7:X.env.locals≠P:=fun z=>by have f:=I.free;rw[z,hP] at f;cases f
  have Z8:mainGlobals≠P:=fun z=>by
   obtain⟨o,es,ep,e,d,_⟩:=I.mod.glob;have:=(I.bs _ _ e).2;rw[z,hP] at this;cases this
  refine PySem.W.kla_makeFunction (mg:=X.mg) XR I.ok.glob I.Jt C.code (C.hd.keeps I.bk) OT (by trivial) rfl Z8 (C.at I hP) fun c' uP h' tk hx Gx eB UA XS=>?_;have Gy:∀b o,b≠P->s.heap.get? b=some o->(h'.push (PySem.W.kla_obj "<lambda>" (X.env.qual++"<lambda>") params body scope dt ((X.mg "__name__").getD .none) c' uP)).get? b=some o:=fun b o hb e=>cq _ (hx b o hb e);have Z9:c'≠P:=jC (bU (hsz _ _ OT) Gx);have Z_:h'.objs.size≠P:=jC (bU (hsz _ _ OT) (br Gx (dI eB)));have hfc:h'.objs.size≠c':=jC eB;have nf:H h'.objs.size=none:=I.bC.fresh (by lia);have nc:H c'=none:=I.bC.fresh Gx
  let H2:Hp:=upd (upd (upd H P (.m9 #[rawInt lp.line,rawInt lp.col,.ref c'])) c' (oz c' (X.env.qual++"<lambda>"))) h'.objs.size (qo h'.objs.size (X.env.qual++"<lambda>") params body scope X.env.cells c')
  have eP:H2 P=some (.m9 #[rawInt lp.line,rawInt lp.col,.ref c']):=by
   show upd _ _ _ _=_;rw[ak Z_.symm,ak Z9.symm,af]
  have ec:H2 c'=some (oz c' (X.env.qual++"<lambda>")):=by
   show upd _ _ _ _=_;rw[ak hfc.symm,af]
  have ef:H2 h'.objs.size=some (qo h'.objs.size (X.env.qual++"<lambda>") params body scope X.env.cells c'):=af;have eo:∀b,b≠P->b≠c'->b≠h'.objs.size->H2 b=H b:=fun b h1 h2 h3=>by
   show upd _ _ _ _=_;rw[ak h3,ak h2,ak h1]
  have old:∀b o,H b=some o->b≠P->H2 b=some o:=fun b o e hb=>by
   rw[eo b hb (ai e nc) (ai e nf)];exact e
  have I2:aK X ae σ H2 { s with heap:=h'.push (PySem.W.kla_obj "<lambda>" (X.env.qual++"<lambda>") params body scope dt ((X.mg "__name__").getD .none) c' uP),toks:=tk }:=by
   refine I.step (g':=s.gens) (d':=s.drawn) (ch:=[]) (fun _ z=>absurd z (by simp)) (fun b o _ _ _ e n=>Gy b o (fun z=>by rw[z,hP] at n;cases n) e) (fun b o _ _ _ e n=>⟨o.slots,Gy b o (fun z=>by rw[z,hP] at n;cases n) e⟩)
    (fun b o _ e n=>?_) (fun b o _ e=>?_) (fun b xs e=>old b _ e fun z=>by rw[z,hP] at e;cases e) (fun b o u e=>old b _ e fun z=>by rw[z,hP] at e;cases e) (fun b ps e=>?_) (fun m hm=>?_) (fun b o e=>?_) I.bare
   .rw[eo b (fun z=>by rw[z,hP] at n;cases n) (aW (bU (hsz b o e) Gx)) (aW (bU (hsz b o e) (br Gx (dI eB))))];exact n
   .by_cases hb:b=P
    .exact⟨_,by rw[hb];exact cq _ XS⟩
    .exact⟨o,Gy b o hb e⟩
   .by_cases hb:b=P
    .rw[hb] at e |-;rw[hP] at e;cases e;exact⟨#[rawInt lp.line,rawInt lp.col,.ref c'],by rw[eP];simp⟩
    .exact⟨#[],by rw[old b _ e hb];simp⟩
   .exact(hm.extBut hx Z7).push _
   .by_cases XT:b=h'.objs.size
    .subst XT;rw[ef] at e;cases e;exact Ae ⟨dt,_,uP,c1,c2,cW _ rfl⟩
    .by_cases Ug:b=c'
     .subst Ug;rw[ec] at e;cases e;refine Dv ?_;obtain⟨c₂,oc,vs,t,e2,RL,r⟩:=UA;exact⟨c₂,oc,vs,t,e2,cq _ RL,r⟩
     .by_cases UB:b=P
      .subst UB;rw[eP] at e;cases e;exact cq _ XS
      .rw[eo b UB Ug XT] at e;refine(I.bC b o e).oG (fun d u hd q=>Gy d u ?_ q) (fun d q=>old d _ q fun z=>by rw[z,hP] at q;cases q) fun d xs q=>old d _ q fun z=>by rw[z,hP] at q;cases q
       rintro rfl;rcases hd with z|z
       .exact UB z.symm
       .rw[hP] at z;cases z
  exact⟨.ref h'.objs.size,H2,I2,rfl,h _ c' H2 (.inr ⟨c',eP,ec⟩) old ec ef⟩
 .-- again
  have OT:s.heap.get? P=some (PySem.W.tabObj #[rawInt lp.line,rawInt lp.col,.ref c']):=I.bC P _ hP;refine PySem.W.kla_makeFunctionHit (mg:=X.mg) XR I.ok.glob I.Jt C.code (C.hd.keeps I.bk) OT wq BB (C.at I hP) fun uP h' tk hk Gx=>?_;have nf:H h'.objs.size=none:=I.bC.fresh Gx
  let H2:Hp:=upd H h'.objs.size (qo h'.objs.size (X.env.qual++"<lambda>") params body scope X.env.cells c')
  have ef:H2 h'.objs.size=some (qo h'.objs.size (X.env.qual++"<lambda>") params body scope X.env.cells c'):=af;have old:∀b o,H b=some o->H2 b=some o:=fun b o e=>by
   show upd _ _ _ _=_;rw[ak (ai e nf)];exact e
  have Gy:∀b o,s.heap.get? b=some o->(h'.push (PySem.W.kla_obj "<lambda>" (X.env.qual++"<lambda>") params body scope dt ((X.mg "__name__").getD .none) c' uP)).get? b=some o:=fun b o e=>cq _ (hk b o e);have I2:aK X ae σ H2 { s with heap:=h'.push (PySem.W.kla_obj "<lambda>" (X.env.qual++"<lambda>") params body scope dt ((X.mg "__name__").getD .none) c' uP),toks:=tk }:=by
   refine I.step (g':=s.gens) (d':=s.drawn) (ch:=[]) (fun _ z=>absurd z (by simp)) (fun b o _ _ _ e n=>Gy b o e) (fun b o _ _ _ e n=>⟨o.slots,Gy b o e⟩)
    (fun b o _ e n=>?_) (fun b o _ e=>⟨o,Gy b o e⟩) (fun b xs e=>old b _ e) (fun b o u e=>old b _ e) (fun b ps e=>⟨#[],by rw[old b _ e];simp⟩) (fun m hm=>(hm.keeps hk).push _) (I.bC.laid Gy Gx (Ae ⟨dt,_,uP,c1,c2,cW _ rfl⟩)) I.bare
   .show upd _ _ _ _=_;rw[ak (aW (bU (hsz b o e) Gx))];exact n
  exact⟨.ref h'.objs.size,H2,I2,rfl,h _ c' H2 (.inr ⟨c',old _ _ hP,old _ _ FX⟩) (fun b o e _=>old b o e) (old _ _ FX) ef⟩
end
def Dx(X:Cx)(id:String)(ks:List Str)(r:St->List V->List V->Hp->VK->Prop):Prop:=
 ∀ (ae:List (Addr×Obj)) (s:Shared) (σ:St) (H:Hp) (vs zs:List V) (us ws:List Value) (Q:VK),aK X ae σ H s->aV vs us->aV zs ws->r σ vs zs H Q->
  wpAny (model X.prog X.w) X.A (call (.builtin id) us (ks.zip ws)) (EP X ae σ Q) X.xe s
def UC(r:St->List V->List V->Hp->VK->Prop)(t tk:TA):TE:=fun σ H Q=>t σ H fun vs H1=>tk σ H1 fun zs H2=>r σ vs zs H2 Q
section
variable {X:Cx} {x:Str} {p pos:Pos} {e:Expr} {es:List Expr} {C7:List Keyword} {t tk:TA} {id:String} {ks:List Str} {r:St->List V->List V->Hp->VK->Prop}
theorem BC(hc:Dx X id ks r)(hg:Gl X x)(hm:X.mg x=none)(hv:bootBuiltins x=some (.builtin id))(ha:PA X (e::es) t)(hkw:PK X C7 tk)(hn:x≠"__name__":=by decide)(Bg:(x==("__debug__":Str))=false:=by decide)(hks:(backToKw pos (keywordEach C7 X.env)).filterMap (·.1)=ks:=by rfl)(he:backTo pos (starEach (e::es) X.env)=(false,eval e X.env)::backTo pos (starEach es X.env):=by rfl)(yH:(backTo pos (starEach (e::es) X.env)).any (·.1)=false:=by rfl)(rE:(backToKw pos (keywordEach C7 X.env)).all (·.1.isSome)=true:=by rfl)(KR:(backToKw pos (keywordEach C7 X.env)).any (·.1.isNone)=false:=by rfl):PE X (.Call (.Name x p) (e::es) C7 pos) (UC r t tk):=by
 intro ae s σ H Q I h;refine lj (jG I hg hm hv ?_ hn Bg);refine PyProof.Rows.callWith_kw (bZ (ha pos ae s σ H _ I h) fun us s1 ⟨vs,H1,I1,r1,q1⟩=>?_) he yH rE KR;refine bZ (hkw pos ae s1 σ H1 _ I1 q1) fun ws s2 ⟨zs,H2,I2,rz,q2⟩=>?_;rw[hks];exact hc ae s2 σ H2 vs zs us ws Q I2 r1 rz q2
end
def KU(za zb:Int)(ns out:List Int):Prop:=∃ps:List (Int×Int),ps.Perm (ns.map fun z=>((z-za) % zb,z))/\out=ps.map (·.2)/\ps.Pairwise fun p q=>p.1<=q.1
def KW(X:Cx)(qual:Str)(params:Arguments)(body:Expr)(scope:Scope)(ia ib:Nat):St->List V->List V->Hp->VK->Prop:=fun σ vs zs H Q=>
 ∃ (l f c:Addr) (ns:List Int) (za zb:Int),vs=[.ref l]/\zs=[.ref f]/\aT X.K H l (ns.map V.int)/\ns.length<64/\H f=some (qo f qual params body scope X.env.cells c)/\H c=some (oz c qual)/\
  σ[ia]?=some (some (.int za))/\σ[ib]?=some (some (.int zb))/\0<zb/\∀ (r:Addr) (out:List Int),H r=none->KU za zb ns out->Q (.ref r) (upd H r (.lst (out.map V.int)))
theorem sC:∀ {ns:List Int} {vs:List Value},aV (ns.map V.int) vs->IntsAre vs ns
 |[],_,.nil=>.nil
 |_::_,_,.cons ⟨t,e⟩ r=>by subst e;exact .cons _ t (sC r)
structure OU(X:Cx)(qual:Str)(params:Arguments)(body:Expr)(scope:Scope)(y a b:Str)(ia ib:Nat):Prop where
 bd:∃p1 p2 p3 p4 p5,body=.BinOp (.BinOp (.Name y p1) .Sub (.Name a p2) p3) .Mod (.Name b p4) p5
 bind:∀dt pm c uP v,bindArgs (PySem.W.kla_fn "<lambda>" qual params body scope dt pm (.ref c) uP) ⟨[v],[]⟩=pure [(y,v)]
 na:X.N[ia]?=some a
 nb:X.N[ib]?=some b
 ca:X.env.scope.names.lookup a=some .cell
 cb:X.env.scope.names.lookup b=some .cell
 ly:scope.names.lookup y=some .local
 fa:scope.names.lookup a=some .free
 fb:scope.names.lookup b=some .free
 ma:(a,NameKind.free)∈scope.names
 mb:(b,NameKind.free)∈scope.names
 uQ:∀z∈scope.names,z.2≠.cell
 kind:scope.kind=.function
 co:scope.isCoroutine=false
 gen:scope.isGenerator=false
 dy:(y==("__debug__":Str))=false
 da:(a==("__debug__":Str))=false/\(a==("__classdict__":Str))=false
 db:(b==("__debug__":Str))=false/\(b==("__classdict__":Str))=false
theorem yV(S:OU X qual params body scope y a b ia ib)(hr:bW k X.A):
  Dx X "sorted" ["key"] (KW X qual params body scope ia ib):=by
 intro ae s σ H vs zs us ws Q I r rz h;obtain⟨l,f,c,ns,za,zb,rfl,rfl,hl,UD,hf,hc,sa,sb,hb0,q⟩:=h;obtain⟨u1,rfl,r1⟩:=r.one;obtain rfl:u1=Value.ref l:=r1;obtain⟨w1,rfl,rw1⟩:=rz.one;obtain rfl:w1=Value.ref f:=rw1;obtain⟨its,rv,pl,hz⟩:=I.list hl;have hI:=sC rv;obtain⟨m,F⟩:=I.fr;obtain⟨p1,p2,p3,p4,p5,rfl⟩:=S.bd;obtain⟨dt,pm,uP,c1,c2,KI⟩:=(I.bC f _ hf).1;have UE:s.heap.CodeRec (.ref c) qual:=(I.bC c _ hc).1;obtain⟨m',Xp,XU⟩:=I.loc;have OV:∃ca ta,dt.lookup a=some ca/\s.heap.IsCell ca (some (.int za ta)):=by
  obtain⟨u,⟨ta,rfl⟩,lk⟩:=XU ia a (.int za) S.na sa (.inr (.inl S.ca));obtain⟨ca,e1⟩:=c2 a S.ma;rcases lk with ⟨z,_⟩|⟨_,ca',e2,e3⟩
  .have z':X.env.scope.names.lookup a=some .local:=z;rw[S.ca] at z';cases z'
  .have e4:=c1 a ca e1;rw[e2] at e4;cases e4;exact⟨ca,ta,e1,e3⟩
 have OW:∃cb tb,dt.lookup b=some cb/\s.heap.IsCell cb (some (.int zb tb)):=by
  obtain⟨u,⟨tb,rfl⟩,lk⟩:=XU ib b (.int zb) S.nb sb (.inr (.inl S.cb));obtain⟨cb,e1⟩:=c2 b S.mb;rcases lk with ⟨z,_⟩|⟨_,cb',e2,e3⟩
  .have z':X.env.scope.names.lookup b=some .local:=z;rw[S.cb] at z';cases z'
  .have e4:=c1 b cb e1;rw[e2] at e4;cases e4;exact⟨cb,tb,e1,e3⟩
 obtain⟨ca,ta,ea,ha⟩:=OV;obtain⟨cb,tb,eb,hb⟩:=OW;have R4:∀b' (o:Obj),s.heap.get? b'=some o->(∀es ep,o.data≠.dict es ep)->b'≠X.env.locals:=fun b' o e d z=>by
  obtain⟨o',es,ep,e',d',_⟩:=F.ns;rw[z,e'] at e;cases e;exact d _ _ d'
 have len:(ns.map fun z=>(z-za) % zb).length=its.length:=by rw[aN,hI.length]
 refine ksk_sorted (b:=false) (f:=.ref f) (kz:=ns.map fun z=>(z-za) % zb) F CN pl.isList len (by rw[hI.length];exact UD) (ksk_s1 _ _) (fun x=>ksk_l1 _ _) (fun x=>ksk_t1 _ _) ?_ ?_
 .-- one key
  intro i v k hv hk h tk own F' N';have at_:∀b' u,b'≠X.env.locals->s.heap.get? b'=some u->h.get? b'=some u:=fun b' u jp e=>by
   cases z:X.base.get? b' with
   |some o=>
    have:=I.bk b' o z;rw[e] at this;cases this;exact F'.keep b' _ z
   |none=>exact(N' (b',u) (gY _ (jE jp z e))).1
  have UF:=at_ f _ (R4 f _ KI (by intro es ep z;cases z)) KI;have UG:h.CodeRec (.ref c) qual:=by
   obtain⟨c0,o,XV,t0,e0,ho,hd,hv0⟩:=UE;refine⟨c0,o,XV,t0,e0,at_ _ _ (R4 _ _ ho (by rw[hd];intro es ep z;cases z)) ho,hd,hv0⟩
  have Ua:h.IsCell ca (some (.int za ta)):=by
   obtain⟨o,ho,hd⟩:=ha;exact⟨o,at_ _ _ (R4 _ _ ho (by rw[hd];intro es ep z;cases z)) ho,hd⟩
  have oM:h.IsCell cb (some (.int zb tb)):=by
   obtain⟨o,ho,hd⟩:=hb;exact⟨o,at_ _ _ (R4 _ _ ho (by rw[hd];intro es ep z;cases z)) ho,hd⟩
  obtain⟨z,tz,rfl,rfl⟩:∃z tz,v=.int z tz/\k=(z-za) % zb:=by
   obtain⟨n,t,e⟩:=hI.all v (dQ hv);refine⟨n,t,e,?_⟩;rw[bo] at hk;have hn:=hI.nums;have e1:(its.map numOf)[i]?=some n:=by rw[bo,hv,e];rfl
   rw[hn] at e1;rw[e1] at hk;exact(aY hk).symm
  have Dy:X.A.in1.in1.depth<recursionLimit:=by
   have:=hr.dp;show X.A.depth<_;lia
  refine m7 (PySem.W.kla_callFunE Dy UF rfl S.co S.gen rfl UG ?_);rw[S.bind];refine wpAny_pure (wpAny_newFunctionEnv S.uQ (fun x hx=>by rw[bS.mp hx];exact S.ly) (fun h₁ KY OX=>⟨((I.ok.mod.nolimit).keeps F'.keep).fresh _ OX,?_⟩) S.kind);have KZ:∀b o,h.get? b=some o->h₁.get? b=some o:=fun b o e=>OX.extBut b o (aW (aX e)) (cq _ e);have ha₁:=Ua.keeps KZ;have hb₁:=oM.keeps KZ;refine PySem.W.kla_codeExpr ?_;refine wpAny_BinOp (wpAny_BinOp ?_);refine m8 (xW S.kind S.ly KY (v:=.int z tz) (by simp) ?_) S.dy;refine m8 (x_ S.kind S.fa ea ha₁ ?_ S.da.2) S.da.1;refine sub_int ?_;refine m8 (x_ S.kind S.fb eb hb₁ ?_ S.db.2) S.db.1;refine mod_int' (by lia) ?_;rw[CF _ (by lia)];refine KskEnd.intro (news':=iQ X.base s.heap X.env.locals++own) ⟨F'.ns.keeps KZ,fun b o e=>KZ b o (F'.keep b o e),F'.above⟩ (fun p hp=>⟨KZ _ _ (N' p hp).1,(N' p hp).2⟩) fun p hp=>hp
 .-- Z6 list
  intro D h' tk out cc F' N' eB UH;have hD:=rF I N' eB;obtain⟨ps,hp,ho,hs⟩:=UH;have Gm:∀p∈ps,∃n t,p.2=.int n t:=fun p Jn=>by
   have:=hp.mem_iff.mp Jn;exact hI.all _ (m4 this).2
  have UI:((ns.map fun z=>(z-za) % zb).zip its).map (fun p=>(p.1,numOf p.2))=ns.map fun z=>((z-za) % zb,z):=by
   have hn:=hI.nums;rw[<-hn];have go:∀ (l:List Value),((((l.map numOf).map fun z=>(z-za) % zb).zip l).map fun p=>(p.1,numOf p.2))=(l.map numOf).map fun z=>((z-za) % zb,z):=by
    intro l;induction l with
    |nil=>rfl
    |cons x l ih=>simp only[cX,List.zip_cons_cons,ih]
   exact go its
  have Dc:aV ((ps.map fun p=>(p.1,numOf p.2)).map (fun p=>V.int p.2)) (ps.map Prod.snd):=by
   have go:∀ (l:List (Int×Value)),(∀p∈l,∃n t,p.2=.int n t)->aV ((l.map fun p=>(p.1,numOf p.2)).map (fun p=>V.int p.2)) (l.map Prod.snd):=by
    intro l;induction l with
    |nil=>intro _;exact .nil
    |cons x l ih=>
     intro hx;refine .cons ?_ (ih fun p hp=>hx p (cC _ hp));obtain⟨n,t,e⟩:=hx x b9;show ∃t,x.2=Value.int (numOf x.2) t;rw[e];exact⟨t,rfl⟩
   exact go ps Gm
  have BF:KU za zb ns ((ps.map fun p=>(p.1,numOf p.2)).map (·.2)):=by
   refine⟨ps.map fun p=>(p.1,numOf p.2),?_,rfl,?_⟩
   .rw[<-UI];exact hp.map _
   .refine ir.mpr (hs.imp fun {p q} z=>?_);simpa using z
  have hDo:h'.get? D=some (seqObj "list" out cc):=(N' _ b9).1;have I2:aK X ae σ (upd H D (.lst (((ps.map fun p=>(p.1,numOf p.2)).map (·.2)).map V.int))) { s with heap:=h',toks:=tk }:=by
   refine I.OI F F' (fun p hp=>N' p (cC _ hp)) hD ⟨?_,ps.map Prod.snd,cc,?_,?_⟩
   .have h1:=hp.length_eq;rw[List.length_zip,len,Nat.min_self] at h1;simp only[aN];rw[h1,hI.length];exact br (dI UD) (by decide)
   .have ev:=Dc;simp only[fN] at ev |-;exact ev
   .rw[hDo,<-ho]
  exact⟨.ref D,_,I2,rfl,q D _ (I.bC.uK hD) BF⟩
def rG(mg:Str->Option Value)(base:Heap):Prop:=∃bm o,mg "__builtins__"=some (.ref bm)/\bm≠builtinsNs/\bm≠mainGlobals/\base.get? bm=some o/\o.cls=.type "module"/\o.dict=some builtinsNs/\o.data=.plain
def Af(ts:List Addr)(H:Hp):Prop:=(∀P∈ts,H P=some (.m9 #[]))/\∀b,H b=none\/(b∈ts/\H b=some (.m9 #[]))\/∃o xs,H b=some (.iI o (.lst xs))
theorem BG{P:Program}{w:World}{K:PySem.W.Frag}{mg mb:Str->Option Value}{CX:vP}{k:Nat}{fa a:Addr}{fd:FuncData}{x:Str}{sp:Sp}{s₁:Shared}{vs:List Value}{ns:List Int}{ts:List Addr}(KX:K.In s₁.heap)(KY:s₁.heap.Ns mainGlobals mg)(hb:s₁.heap.Ns builtinsNs mb)(hbb:∀x:Str,x≠"__name__"->mb x=bootBuiltins x)(UJ:s₁.heap.NoLimit)(hg:s₁.gens=#[])(hbm:rG mg s₁.heap)(Ag:∀P∈ts,s₁.heap.get? P=some (PySem.W.tabObj #[]))(rV:∀P∈ts,∃c,PySem.W.codeHdIn K c P=true)(UK:∀P∈ts,K.lookup P=none)(ha:s₁.heap.get? a=some { cls:=.type "list",data:=.seq vs.toArray })(hi:IntsAre vs ns)(hl:ns.length<=sizeLine)(hr:bW k callerA)(F:∀base:Heap,K.In base->base.Ns mainGlobals mg->rG mg base->bv P w K mg base CX k fa fd [x] sp)(OY:∀ (s:Shared) (u:Value),BindsTo s fd ⟨[u],[]⟩ [(x,u)])(FF:∀H:Hp,Af ts H->aT K H a (ns.map V.int)->sp [.ref a] H (fun v _=>v=.bl true) fun _ _ _=>False)(UL:∀H e s',CX [] H s₁ (fun _ _ _=>False) e s'->False):
  codeAny (model P w) callerA (.call (.ref fa) ⟨[.ref a],[]⟩) (fun r s'=>r=.ok (.ret (.bool true))/\OldK s₁.heap s'.heap/\s'.os=s₁.os/\AllBare s'.gens) s₁:=by
 have rv:=sn hi;have UM:=hi.length;have XW:a∉ts:=fun z=>by
  have:=Ag a z;rw[ha] at this;cases this
 have OZ:∀H:Hp,Af ts H->aT K H a (ns.map V.int)->iP P w H s₁.heap->(∀b,H b≠none->b=a\/b∈ts)->(H a≠none->K.lookup a=none)->
   codeAny (model P w) callerA (.call (.ref fa) ⟨[.ref a],[]⟩) (fun r s'=>r=.ok (.ret (.bool true))/\OldK s₁.heap s'.heap/\s'.os=s₁.os/\AllBare s'.gens) s₁:=by
  intro H hO hS bC hA hK;have uR:∀ {b:Addr} {o:Obj},s₁.heap.get? b=some o->H b=none->(rB s₁.heap H).get? b=some o:=fun e n=>CM e n;have Nl:∀ {b:Addr} {o:Obj},s₁.heap.get? b=some o->(∀v n,o.data≠.seq v n)->(∀v,o.data≠.fields v)->H b=none:=fun {b o} e d1 d2=>by
   cases q:H b with
   |none=>rfl
   |some u=>
    rcases hA b (by rw[q];simp) with e'|e'
    .subst e';rw[ha] at e;cases e;exact absurd rfl (d1 _ _)
    .rw[Ag b e'] at e;cases e;exact absurd rfl (d2 _)
  have R6:∀ {b:Addr} {m:Str->Option Value},s₁.heap.Ns b m->(rB s₁.heap H).Ns b m:=fun {b m} ⟨o,es,ep,e,d,r⟩=>⟨o,es,ep,uR e (Nl e (by rw[d];intro v n z;cases z) (by rw[d];intro v z;cases z)),d,r⟩
  have XX:K.In (rB s₁.heap H):=fun b o e=>uR (KX b o e) (by
   cases q:H b with
   |none=>rfl
   |some u=>
    rcases hA b (by rw[q];simp) with e'|e'
    .subst e';rw[hK (by rw[q];simp)] at e;cases e
    .rw[UK b e'] at e;cases e)
  have hB:rG mg (rB s₁.heap H):=by
   obtain⟨bm,o,b1,b2,b3,b4,b5,b6,b7⟩:=hbm;exact⟨bm,o,b1,b2,b3,uR b4 (Nl b4 (by rw[b7];intro v n z;cases z) (by rw[b7];intro v z;cases z)),b5,b6,b7⟩
  have hM:Mod K mg (rB s₁.heap H):=⟨XX,R6 KY,⟨mb,R6 hb,hbb⟩,let ⟨mc,h1,h2⟩:=UJ;⟨mc,R6 h1,h2⟩⟩
  have e0:vQ P w K mg (rB s₁.heap H) callerA [] s₁ H:=⟨rfl,hM,fun b o e=>FV e,ug (A9 _ _),trivial,fun b hb=>absurd (show b∈([]:List Addr) from hb) (by simp),bC,.of_eq hg⟩
  refine lC ((F _ XX (R6 KY) hB).run callerA [] s₁ H ⟨[.ref a],[]⟩ [.ref a] [.ref a] _ _ hr e0 (OY s₁ (.ref a)) (.cons rfl .nil) (FF H hO hS)) fun r s' h=>?_;cases r with
  |error e=>exact(UL H e s' h).elim
  |ok fl=>
   cases fl with
   |next=>exact False.elim h
   |brk=>exact False.elim h
   |cont=>exact False.elim h
   |ret u=>
    obtain⟨v,H',os,bare,un,O0,r',q⟩:=h;have q':v=.bl true:=q;subst q';obtain rfl:u=Value.bool true:=r';refine⟨rfl,⟨fun b o e=>?_,fun b o e=>un.there b o e (by simp)⟩,os,bare⟩;cases q:H b with
    |none=>exact .inl (un.keep b o e q (by intro z;exact absurd (show b∈([]:List Addr) from z) (by simp)) (by simp))
    |some u=>
     rcases hO.2 b with z|⟨zt,z⟩|⟨ob,xs,z⟩
     .rw[q] at z;cases z
     .obtain⟨more,z2⟩:=un.nq b _ z;have e1:=Ag b zt;rw[e] at e1;cases e1;have e2:s'.heap.get? b=some { cls:=.none,data:=.fields (#[]++more) }:=O0 b _ z2;obtain⟨c,hc⟩:=rV b zt;obtain⟨oc,vsc,_,_,_,_,_,_,_,g1,g2,g3,g4,_⟩:=PySem.W.codeHd_of_K KX hc;exact .inr (.inl ⟨⟨c,oc,vsc,g1,g2,g3,g4⟩,rfl,#[],more,rfl,e2⟩)
     .have z2:=un.ng b ob _ z;obtain⟨e1,_⟩:=bC b _ z;obtain⟨e2,_⟩:=O0 b _ z2;rw[e] at e1;cases e1;exact .inl e2
 have XY:∀ (H:Hp),(∀P∈ts,H P=some (.m9 #[]))->True:=fun _ _=>trivial
 classical
 cases hk:K.lookup a with
 |some o=>
  have e:=KX a o hk;rw[ha] at e;cases e;refine OZ (fun b=>if b∈ts then some (.m9 #[]) else none) ⟨fun P hP=>ao hP,fun b=>?_⟩ (.inr ⟨_,vs.toArray,_,hk,rfl,rfl,rfl,by rw[cu,UM];exact hl,by simpa using rv⟩) (fun b u z=>?_) (fun b z=>?_) fun z=>absurd (ap XW) z
  .by_cases hb:b∈ts
   .exact .inr (.inl ⟨hb,ao hb⟩)
   .exact .inl (ap hb)
  .by_cases hb:b∈ts
   .have z':=(ao hb).symm.trans z;cases z';exact Ag b hb
   .have z':=(ap hb).symm.trans z;cases z'
  .by_cases hb:b∈ts
   .exact .inr hb
   .exact absurd (ap hb) z
 |none=>
  refine OZ (fun b=>if b=a then some (.iI { cls:=.type "list",data:=.seq vs.toArray } (.lst (ns.map V.int))) else if b∈ts then some (.m9 #[]) else none) ⟨fun P hP=>?_,fun b=>?_⟩ (.inl (.inr ⟨{ cls:=.type "list",data:=.seq vs.toArray },ao rfl⟩)) (fun b u z=>?_) (fun b z=>?_) fun _=>hk
  .have:P≠a:=fun z=>XW (z ▸ hP);show (if P=a then _ else if P∈ts then _ else _)=_;rw[ap this,ao hP]
  .by_cases hb:b=a
   .exact .inr (.inr ⟨_,_,ao hb⟩)
   .by_cases ht:b∈ts
    .exact .inr (.inl ⟨ht,by show (if b=a then _ else if b∈ts then _ else _)=_;rw[ap hb,ao ht]⟩)
    .exact .inl (by show (if b=a then _ else if b∈ts then _ else _)=_;rw[ap hb,ap ht])
  .by_cases hb:b=a
   .have z':=(ao hb).symm.trans z;cases z';subst hb;exact⟨ha,by rw[aN];exact hl,vs,_,rv,ha⟩
   .have z1:(if b∈ts then some (HO.m9 #[]) else none)=some u:=(ap hb).symm.trans z;by_cases ht:b∈ts
    .rw[ao ht] at z1;cases z1;exact Ag b ht
    .rw[ap ht] at z1;cases z1
  .by_cases hb:b=a
   .exact .inl hb
   .by_cases ht:b∈ts
    .exact .inr ht
    .exact absurd (by show (if b=a then _ else if b∈ts then _ else _)=_;rw[ap hb,ap ht]) z
theorem DA{l:PySem.W.OpenLaw}{n k:Nat}{q:Program}{sk:List Str}{XP:(Str->Option Value)->Heap->Prop}{YP:World->Heap->Prop}{d:DefRec}{K:Params->PySem.W.Frag}{CX:World->vP}{sp:World->Sp}{x:Str}{ts:List Addr}(hn:l.most=some n)(RU:n<=sizeLine)(Ow:d.params.defaults=[])(hr:bW k callerA)(hY:∀ (w:World) (h:Heap),YP w h->(K w.params).In h)(hT:∀ (w:World) (h:Heap),YP w h->∀P∈ts,h.get? P=some (PySem.W.tabObj #[]))(rV:∀ (w:World),∀P∈ts,∃c,PySem.W.codeHdIn (K w.params) c P=true)(UK:∀ (w:World),∀P∈ts,(K w.params).lookup P=none)(F:∀ (w:World) (mg:Str->Option Value) (fa:Addr) (h:Heap),(K w.params).In h->h.Ns mainGlobals mg->mg d.name=some (.ref fa)->
   ∃fd:FuncData,(∀ (s:Shared) (u:Value),BindsTo s fd ⟨[u],[]⟩ [(x,u)])/\
    ∀base:Heap,(K w.params).In base->base.Ns mainGlobals mg->rG mg base->bv l.prog w (K w.params) mg base (CX w) k fa fd [x] (sp w))(FF:∀ (w:World) (H:Hp) (a:Addr) (ns:List Int),ns.length<=n->Af ts H->aT (K w.params) H a (ns.map V.int)->sp w [.ref a] H (fun v _=>v=.bl true) fun _ _ _=>False)(UL:∀ (w:World) (H:Hp) (s:Shared) (e:Value) (s':Shared),CX w [] H s (fun _ _ _=>False) e s'->False):
  PySem.W.WalkO q sk XP YP l.row.toRowW d [] (fun f vs=>PySem.call f vs):=by
 refine Xz.vY hn Ow fun w s₀ s₁ mg mb fa o pm cd ml a vs ns G Y ho hd aaa Ox KH Dd dZ hg=>?_;have KX:=hY w _ Y;obtain⟨fd,hb,hF⟩:=F w mg fa _ KX G.T.g Ox;have hB:rG mg s₁.heap:=by
  obtain⟨bm,ob,b1,b2,b3,b4,b5,b6⟩:=G.T.bmain;refine⟨bm,ob,b1,b2,fun z=>?_,b3,b4,b5,b6⟩;obtain⟨o',es,ep,e,Kg,_⟩:=G.T.g;rw[z,e] at b3;cases b3;rw[Kg] at b6;cases b6
 exact BG KX G.T.g G.T.b G.T.builtins G.T.nolimit hg hB (hT w _ Y) (rV w) (UK w) KH Dd (br dZ RU) hr hF hb (fun H hO hS=>FF w H a ns dZ hO hS) fun H e s'=>UL w H s₁ e s'
structure wr(K:PySem.W.Frag)(x qual:Str)(st:Stmt)(f:Addr)(fd:FuncData)(c:Addr):Prop where
 ex:∃ (oc:Value) (od:Option Addr) (kV ml pm:Value) (an:Option Addr) (ct:Value) (xt:Array (Option Value)),
  fd=PySem.W.fnOf x qual (cQ st) (bT st) (am st) .none kV ml pm an (.ref c) ct/\K.lookup f=some ⟨oc,od,.func fd,xt⟩/\PySem.W.codeIn K (.ref c) qual=true
 kp:PySem.W.keepIn K (.ref f)=true
theorem wr.fun{K:PySem.W.Frag}{x qual:Str}{st:Stmt}{f:Addr}{fd:FuncData}{c:Addr}(F:wr K x qual st f fd c):fR K x qual st f fd:=by
 obtain⟨oc,od,kV,ml,pm,an,ct,xt,e,lk,rV⟩:=F.ex;exact⟨⟨oc,od,kV,ml,pm,an,_,ct,xt,e,lk,rV⟩,F.kp⟩
section
variable {P:Program} {w:World} {K:PySem.W.Frag} {mg:Str->Option Value} {base:Heap}
theorem wr.ok{x qual:Str}{st:Stmt}{f:Addr}{fd:FuncData}{c:Addr}{N ps:List Str}{k:Nat}{sp:Sp}(F:wr K x qual st f fd c)(S:aG N ps (am st))(len:∀vs H Q E,sp vs H Q E->vs.length=ps.length)(vS:∀ (A:Around) (outer:List Env) (s:Shared) (H:Hp) (vs:List V) (Q:VK) (E:XK),bW k (A.deeper (envOfC qual (am st) s.heap.objs.size f (.ref c)))->sp vs H Q E->
   ∃t,yp (uA a9 P w K mg base N qual (am st) f (.ref c) A outer s H E).Je (bT st) t/\t { nx:=fun _ H'=>Q .bJ H',rt:=Q } (start N vs) H):bv P w K mg base a9 (k+1) f fd ps sp:=by
 obtain⟨oc,od,kV,ml,pm,an,ct,xt,rfl,lk,rV⟩:=F.ex;refine Ji lk rV S len fun A outer s H vs Q E hr FF=>?_;obtain⟨t,h,q⟩:=vS A outer s H vs Q E hr FF;exact⟨t,h.Je,q⟩
theorem Gz{x qual:Str}{st:Stmt}{f c:Addr}{oc:Value}{od an:Option Addr}{xt:Array (Option Value)}{kV ml pm ct:Value}(l:K.lookup f=some ⟨oc,od,.func (PySem.W.fnOf x qual (cQ st) (bT st) (am st) .none kV ml pm an (.ref c) ct),xt⟩)(rV:PySem.W.codeIn K (.ref c) qual=true)(kp:PySem.W.keepIn K (.ref f)=true):wr K x qual st f (PySem.W.fnOf x qual (cQ st) (bT st) (am st) .none kV ml pm an (.ref c) ct) c:=⟨⟨oc,od,kV,ml,pm,an,ct,xt,rfl,l,rV⟩,kp⟩
theorem Ah(kb:K.In base)(hb:rG mg base)(hc:PySem.W.codeHdIn K c P'=true):
  Gw (uA CX P w K mg base N qual scope f (.ref c) A outer s H E).Je c P':=⟨rfl,PySem.W.codeHd_of_K kb hc,hb⟩
end
def o7(sc UN:Scope)(y:Str×NameKind):Bool:=match y.2 with
 |.cell=>(match sc.names.lookup y.1 with|some .cell=>true|_=>false)
 |.local=>(match sc.names.lookup y.1 with|some .local=>true|_=>false)
 |.free=>(match UN.names.lookup y.1 with|some .cell=>true|some .free=>true|_=>false)
 |_=>true
def DB(NB:List Str)(src:List (Option Nat))(sc:Scope)(N:List Str)(i:Nat):Bool:=match NB[i]?,src[i]? with
 |some x,some (some j)=>(N[j]?==some x)&&(match sc.names.lookup x with|some .free=>true|_=>false)
 |_,_=>true
def Ai(sc:Scope):Bool:=match sc.kind with|.function=>true|_=>false
def DC(NB:List Str)(src:List (Option Nat))(sc UN:Scope)(N:List Str):Bool:=
 Ai sc&&decide NB.Nodup&&(src.length==NB.length)&&(sc.names.all (o7 sc UN))&&(List.range NB.length).all (DB NB src sc N)
theorem cg(h:DC NB src sc X.env.scope X.N=true):gB NB src sc X:=by
 unfold DC at h;simp only[eM,pQ,gZ,mZ] at h;obtain⟨⟨⟨⟨h1,h2⟩,h3⟩,h4⟩,h5⟩:=h;refine⟨?_,h2,h3,fun y hy z=>?_,fun y hy z=>?_,fun y hy z=>?_,fun i x j e1 e2=>?_⟩
 .unfold Ai at h1;split at h1
  .assumption
  .cases h1
 .have:=h4 y hy;obtain⟨n,k⟩:=y;obtain rfl:k=.cell:=z;dsimp only[o7] at this |-;split at this
  .assumption
  .cases this
 .have:=h4 y hy;obtain⟨n,k⟩:=y;obtain rfl:k=.local:=z;dsimp only[o7] at this |-;split at this
  .assumption
  .cases this
 .have:=h4 y hy;obtain⟨n,k⟩:=y;obtain rfl:k=.free:=z;dsimp only[o7] at this |-;split at this
  .exact .inl (by assumption)
  .exact .inr (by assumption)
  .cases this
 .have hi:i<NB.length:=(cK.mp e1).1;have:=h5 i (bO.mpr hi);unfold DB at this;rw[e1,e2] at this;simp only[eM,gZ] at this;refine⟨this.1,?_⟩;have t2:=this.2;split at t2
  .assumption
  .cases t2
theorem eY{K:PySem.W.Frag}{a D:Addr}{xs:List V}{g:TG}{tt:TT}{te:TE}{fin:Hp->Prop}{σB:St}{H0:Hp}(Pv:Nat->List V->St->Hp->Prop)(h0:Pv 0 [] σB H0)(hl:∀i ys σ H,i<=xs.length->Pv i ys σ H->aT K H a xs)(hs:∀i x ys σ H (Kt:V->St->Hp->Prop) (Kf:St->Hp->Prop),xs[i]?=some x->Pv i ys σ H->
   (∀v σ2 H4,H4 D=some (.lst ys)->ys.length<sizeLine->Pv (i+1) (ys++[v]) σ2 (upd H4 D (.lst (ys++[v])))->Kt v σ2 H4)->(∀σ2 H3,Pv (i+1) ys σ2 H3->Kf σ2 H3)->
   g x σ H fun σ2 H2=>tt σ2 H2 fun b H3=>if b=true then te σ2 H3 fun v H4=>Kt v σ2 H4 else Kf σ2 H3)(hd:∀ys σ H,Pv xs.length ys σ H->fin H):g8 (CY K a) g tt te D fin σB H0:=by
 refine⟨fun i m σ H=>m=xs.length-i/\i<=xs.length/\∃ys,Pv i ys σ H,⟨xs.length,by simp,dg _,[],h0⟩,?_⟩;rintro i m σ H ⟨rfl,hi,ys,p⟩;have q:=hl i ys σ H hi p;by_cases eB:i<xs.length
 .refine .inr ⟨⟨xs,xs[i],q,by simp[eB]⟩,?_⟩;rintro x H' ⟨rfl,y⟩;exact hs i x ys σ _ (fun v σ2 H4=>∃ys,H4 D=some (.lst ys)/\ys.length<sizeLine/\∃m',m'<xs.length-i/\m'=xs.length-(i+1)/\i+1<=xs.length/\∃oN,Pv (i+1) oN σ2 (upd H4 D (.lst (ys++[v]))))
   (fun σ2 H3=>∃m',m'<xs.length-i/\m'=xs.length-(i+1)/\i+1<=xs.length/\∃oN,Pv (i+1) oN σ2 H3) (y xs q) p
   (fun v σ2 H4 z1 z2 z3=>⟨ys,z1,z2,_,by lia,rfl,eB,_,z3⟩) (fun σ2 H3 z=>⟨_,by lia,rfl,eB,_,z⟩)
 .have e:i=xs.length:=by lia
  subst e;exact .inl ⟨⟨xs,q,aZ _⟩,hd ys σ H p⟩
theorem lO{lo:Int}{n:Nat}{D:Addr}{g:TG}{tt:TT}{te:TE}{fin:Hp->Prop}{σB:St}{H0:Hp}(Pv:Nat->List V->St->Hp->Prop)(h0:Pv 0 [] σB H0)(hs:∀i ys σ H (Kt:V->St->Hp->Prop) (Kf:St->Hp->Prop),i<n->Pv i ys σ H->
   (∀v σ2 H4,H4 D=some (.lst ys)->ys.length<sizeLine->Pv (i+1) (ys++[v]) σ2 (upd H4 D (.lst (ys++[v])))->Kt v σ2 H4)->(∀σ2 H3,Pv (i+1) ys σ2 H3->Kf σ2 H3)->
   g (.int (lo+i)) σ H fun σ2 H2=>tt σ2 H2 fun b H3=>if b=true then te σ2 H3 fun v H4=>Kt v σ2 H4 else Kf σ2 H3)(hd:∀ys σ H,Pv n ys σ H->fin H):g8 (Jg lo n) g tt te D fin σB H0:=by
 refine⟨fun i m σ H=>m=n-i/\i<=n/\∃ys,Pv i ys σ H,⟨n,by simp,dg _,[],h0⟩,?_⟩;rintro i m σ H ⟨rfl,hi,ys,p⟩;by_cases eB:i<n
 .refine .inr ⟨eB,?_⟩;rintro x H' ⟨rfl,rfl⟩;exact hs i ys σ _ (fun v σ2 H4=>∃ys,H4 D=some (.lst ys)/\ys.length<sizeLine/\∃m',m'<n-i/\m'=n-(i+1)/\i+1<=n/\∃oN,Pv (i+1) oN σ2 (upd H4 D (.lst (ys++[v]))))
   (fun σ2 H3=>∃m',m'<n-i/\m'=n-(i+1)/\i+1<=n/\∃oN,Pv (i+1) oN σ2 H3) eB p
   (fun v σ2 H4 z1 z2 z3=>⟨ys,z1,z2,_,by lia,rfl,eB,_,z3⟩) (fun σ2 H3 z=>⟨_,by lia,rfl,eB,_,z⟩)
 .have e:i=n:=by lia
  subst e;exact .inl ⟨aZ _,hd ys σ H p⟩
section
variable {κ:Type} [DecidableEq κ]
def iB(kvs:List (κ×V))(k:κ):Option V:=(kvs.find? fun kv=>decide (kv.1=k)).map (·.2)
def fT(kvs:List (κ×V))(k:κ)(v:V):List (κ×V):=
 if (kvs.any fun kv=>decide (kv.1=k))=true then kvs.map (fun kv=>if kv.1=k then (kv.1,v) else kv) else kvs++[(k,v)]
theorem jN{p:κ×V}{r:List (κ×V)}{k:κ}(e:p.1=k):iB (p::r) k=some p.2:=by simp[iB,lq,e]
theorem jO{p:κ×V}{r:List (κ×V)}{k:κ}(e:¬ p.1=k):iB (p::r) k=iB r k:=by simp[iB,lq,e]
theorem qp(k:κ):∀kvs:List (κ×V),(kvs.any fun kv=>decide (kv.1=k))=(iB kvs k).isSome
 |[]=>rfl
 |p::r=>by
  rw[jA];by_cases e:p.1=k
  .simp only[jN e,bK e,Bool.true_or,Option.isSome_some]
  .rw[jO e,cE e,Bool.false_or];exact qp k r
theorem g9(kvs:List (κ×V))(k:κ)(v:V):(fT kvs k v).length<=kvs.length+1:=by
 unfold fT;split
 .rw[aN];lia
 .rw[cr,cw,tZ];lia
theorem my{kvs:List (κ×V)}{k:κ}(v:V)(h:iB kvs k=none):fT kvs k v=kvs++[(k,v)]:=by
 unfold fT;rw[qp,h];exact ap (by decide)
theorem kC.nK(r:kC o u):o.isSome=u.isSome:=by
 cases o with
 |none=>cases u with
  |none=>rfl
  |some _=>exact(show False from r).elim
 |some _=>cases u with
  |none=>exact(show False from r).elim
  |some _=>rfl
theorem KV.val{kvs:List (κ×V)}{vs:List (κ×Value)}(r:KV kvs vs)(k:κ):kC (iB kvs k) (valueAt vs k):=by
 unfold KV at r;induction r with
 |nil=>exact True.intro
 |@cons p q ps qs h t ih=>
  obtain⟨h1,h2⟩:=h;by_cases e:p.1=k
  .have e':q.1=k:=h1.symm.trans e;have b:valueAt (q::qs) k=some q.2:=by simp[valueAt,lq,e']
   rw[jN e,b];exact h2
  .have e':¬ q.1=k:=fun z=>e (h1.trans z);have b:valueAt (q::qs) k=valueAt qs k:=by simp[valueAt,lq,e']
   rw[jO e,b];exact ih
theorem KV.any{kvs:List (κ×V)}{vs:List (κ×Value)}(r:KV kvs vs)(k:κ):(kvs.any fun kv=>decide (kv.1=k))=vs.any fun kv=>decide (kv.1=k):=by
 unfold KV at r;induction r with
 |nil=>rfl
 |cons h t ih=>rw[jA,jA,ih,h.1]
theorem KV.K0{kvs:List (κ×V)}{vs:List (κ×Value)}(r:KV kvs vs)(k:κ){y:V}{u:Value}(ry:bf y u):
  KV (kvs.map fun kv=>if kv.1=k then (kv.1,y) else kv) (vs.map fun kv=>if kv.1=k then (kv.1,u) else kv):=by
 unfold KV at r |-;induction r with
 |nil=>exact .nil
 |@cons p q ps qs h t ih=>
  rw[cX,cX];refine .cons ?_ ih;obtain⟨h1,h2⟩:=h;by_cases e:p.1=k
  .rw[ao e,ao (h1.symm.trans e)];exact⟨h1,ry⟩
  .rw[ap e,ap (fun z=>e (h1.trans z))];exact⟨h1,h2⟩
theorem KV.put{kvs:List (κ×V)}{vs:List (κ×Value)}(r:KV kvs vs)(k:κ){y:V}{u:Value}(ry:bf y u):KV (fT kvs k y) (stored vs k u):=by
 unfold fT stored;rw[r.any k];by_cases e:(vs.any fun kv=>decide (kv.1=k))=true
 .rw[ao e,ao e];exact r.K0 k ry
 .rw[ap e,ap e];exact Paired.snoc r ⟨rfl,ry⟩
theorem KV.keys{kvs:List (κ×V)}{vs:List (κ×Value)}(r:KV kvs vs):kvs.map (·.1)=vs.map (·.1):=by
 unfold KV at r;induction r with
 |nil=>rfl
 |cons h t ih=>rw[cX,cX,ih,h.1]
theorem KV.length{kvs:List (κ×V)}{vs:List (κ×Value)}(r:KV kvs vs):kvs.length=vs.length:=Paired.length r
end
theorem sG(r:bf (kV k) u):(bu P w).is k u=true:=by
 cases k with
 |inl i=>obtain⟨t,e⟩:=(show ∃t,u=Value.int i t from r);subst e;exact vD P w i t
 |inr x=>obtain⟨t,e⟩:=(show ∃t,u=Value.str x t from r);subst e;exact vE P w x t
theorem sH:∀ {ks:List dq} {us:List Value},aV (ks.map kV) us->ItemsAre (bu P w) ks us
 |[],_,r=>by rw[lA] at r;cases r;exact .nil
 |k::ks,_,r=>by
  rw[cX] at r;cases r with
  |cons h t=>exact .cons (sG h) (sH t)
abbrev KT(H:Hp):List (List dq×V)->List (List dq×Addr×Value)->Prop:=Paired fun p q=>p.1=q.1/\H q.2.1=some (.tup (p.1.map kV))/\bf p.2 q.2.2
theorem KT.val{H:Hp}{kvs:List (List dq×V)}{xs:List (List dq×Addr×Value)}(r:KT H kvs xs)(k:List dq):kC (iB kvs k) ((atKey xs k).map (·.2)):=by
 induction r with
 |nil=>exact True.intro
 |@cons p q ps qs h t ih=>
  obtain⟨h1,_,h2⟩:=h;by_cases e:p.1=k
  .have e':q.1=k:=h1.symm.trans e;have b:atKey (q::qs) k=some q.2:=by simp[atKey,lq,e']
   rw[jN e,b];exact h2
  .have e':¬ q.1=k:=fun z=>e (h1.trans z);have b:atKey (q::qs) k=atKey qs k:=by simp[atKey,lq,e']
   rw[jO e,b];exact ih
theorem KT.K0(r:KT H kvs xs)(k:List dq)(ry:bf y u):
  KT H (kvs.map fun kv=>if kv.1=k then (kv.1,y) else kv) (xs.map (putAt k u)):=by
 induction r with
 |nil=>exact .nil
 |@cons p q ps qs h t ih=>
  rw[cX,cX];refine .cons ?_ ih;obtain⟨h1,h2,h3⟩:=h;unfold putAt;by_cases e:p.1=k
  .rw[ao e,ao (h1.symm.trans e)];exact⟨h1,h2,ry⟩
  .rw[ap e,ap (fun z=>e (h1.trans z))];exact⟨h1,h2,h3⟩
theorem KT.put(r:KT H kvs xs)(k:List dq)(hb:H b=some (.tup (k.map kV)))(ry:bf y u):
  KT H (fT kvs k y) (storedH xs k b u):=by
 have e:(kvs.any fun kv=>decide (kv.1=k))=(atKey xs k).isSome:=by
  rw[qp,(r.val k).nK,Option.isSome_map]
 unfold fT storedH;rw[e];by_cases q:(atKey xs k).isSome=true
 .rw[ao q,ao q];exact r.K0 k ry
 .rw[ap q,ap q];exact Paired.snoc r ⟨rfl,hb,ry⟩
theorem KT.keeps(r:KT H kvs xs)(ht:∀b ys,H b=some (.tup ys)->H' b=some (.tup ys)):KT H' kvs xs:=
 Paired.Kd r fun _ _ z=>⟨z.1,ht _ _ z.2.1,z.2.2⟩
section
variable {P:Program} {w:World} {H:Hp} {h:Heap} {a:Addr}
theorem Ju(ok:iP P w H h)(e:Rd H a u):bR P w H h a u:=e.ok ok
theorem wt(ok:iP P w H h)(e:Rd H a (.dK kvs)):kvs.length<=sizeLine/\(a==sysModules)=false/\∃vs,KV kvs vs/\h.DictOf (bu P w) a vs:=
 show bR P w H h a (.dK kvs) from Ju ok e
theorem DD{kvs:List (dq×V)}(ok:iP P w H h)(e:H a=some (.dK kvs)):kvs.length<=sizeLine/\(a==sysModules)=false/\∃vs,KV kvs vs/\h.DictOf (bu P w) a vs:=wt ok (.inl e)
theorem lP(ok:iP P w H h)(e:H a=some (.tup (ks.map kV))):(tupleKind (bu P w)).is h ks a:=by
 obtain⟨_,its,r,o,h1,h2,n,h3,_⟩:=(show bR P w H h a (.tup (ks.map kV)) from ok a _ e)
 exact⟨o,its.toArray,n,h1,h2,h3,by simpa using sH r⟩
theorem Aj(ok:iP P w H h)(e:Rd H a (.dT kvs)):kvs.length<=sizeLine/\(a==sysModules)=false/\
  ∃xs,KT H kvs xs/\h.DictOfH (tupleKind (bu P w)) a xs:=by
 obtain⟨z,y,xs,r,o,es,ep,h1,h2,h3,h4,h5⟩:=(show bR P w H h a (.dT kvs) from Ju ok e)
 refine⟨z,y,xs,r,o,es,ep,h1,h2,h3,h4,fun x hx=>?_,h5⟩;have all:∀ {l:List (List dq×V)} {m:List (List dq×Addr×Value)},KT H l m->∀x∈m,(tupleKind (bu P w)).is h x.1 x.2.1:=by
  intro l m q;induction q with
  |nil=>intro x hx;exact nomatch hx
  |@cons p q ps qs hq t ih=>
   intro x hx;rcases bL.mp hx with e|hx
   .subst e;exact lP ok (by rw[<-hq.1];exact hq.2.1)
   .exact ih x hx
 exact all r x hx
theorem O1{kvs:List (List dq×V)}(ok:iP P w H h)(e:H a=some (.dT kvs)):kvs.length<=sizeLine/\(a==sysModules)=false/\
  ∃xs,KT H kvs xs/\h.DictOfH (tupleKind (bu P w)) a xs:=Aj ok (.inl e)
end
def iW(H:Hp)(a:Addr)(y:V)(r:Option V):Prop:=
 (∃kvs k,Rd H a (.dK kvs)/\y=kV k/\r=iB kvs k)\/∃kvs k b,Rd H a (.dT kvs)/\y=.ref b/\H b=some (.tup (k.map kV))/\r=iB kvs k
def qr(H:Hp)(a:Addr)(y v:V)(H':Hp):Prop:=
 (∃kvs k,H a=some (.dK kvs)/\y=kV k/\kvs.length<sizeLine/\H'=upd H a (.dK (fT kvs k v)))\/
 ∃kvs k b,H a=some (.dT kvs)/\y=.ref b/\H b=some (.tup (k.map kV))/\kvs.length<sizeLine/\H'=upd H a (.dT (fT kvs k v))
theorem iW.k{H:Hp}{a:Addr}{kvs:List (dq×V)}{k:dq}(e:H a=some (.dK kvs)):iW H a (kV k) (iB kvs k):=.inl ⟨kvs,k,.inl e,rfl,rfl⟩
theorem iW.t{H:Hp}{a b:Addr}{kvs:List (List dq×V)}{k:List dq}(e:H a=some (.dT kvs))(eb:H b=some (.tup (k.map kV))):iW H a (.ref b) (iB kvs k):=.inr ⟨kvs,k,b,.inl e,rfl,eb,rfl⟩
theorem qr.k{H:Hp}{a:Addr}{kvs:List (dq×V)}{k:dq}{v:V}(e:H a=some (.dK kvs))(hl:kvs.length<sizeLine):qr H a (kV k) v (upd H a (.dK (fT kvs k v))):=.inl ⟨kvs,k,e,rfl,hl,rfl⟩
theorem qr.t{H:Hp}{a b:Addr}{kvs:List (List dq×V)}{k:List dq}{v:V}(e:H a=some (.dT kvs))(eb:H b=some (.tup (k.map kV)))(hl:kvs.length<sizeLine):
  qr H a (.ref b) v (upd H a (.dT (fT kvs k v))):=.inr ⟨kvs,k,b,e,rfl,eb,hl,rfl⟩
section
variable {X:Cx} {ae:List (Addr×Obj)} {σ:St} {H:Hp} {s:Shared} {a:Addr} {y v:V} {u r:Value} {o:Option V} {A:Around} {E:Value->Shared->Prop}
theorem aK.big(I:aK X ae σ H s):sysModules<s.heap.objs.size:=by
 have h:mainGlobals<s.heap.objs.size:=(I.mod.glob.keeps I.bk).lt;exact pX (by decide) h
theorem BI{Q:Value->Shared->Prop}(hu:A.units+1<cLine)(I:aK X ae σ H s)(g:iW H a y (some v))(ry:bf y u)(h:∀w' s',aK X ae σ H s'->bf v w'->Q w' s'):
  wpAny (model X.prog X.w) A (getItem (.ref a) u) Q E s:=by
 rcases g with ⟨kvs,k,e,ey,l⟩|⟨kvs,k,b,e,ey,eb,l⟩
 .subst ey;obtain⟨z,hd,vs,rl,dd⟩:=wt I.bC e;obtain⟨w',hw,Gb⟩:=kC.some_of (v:=v) (o:=valueAt vs k) (by rw[l];exact rl.val k);exact wpAny_getItem_of (sG ry) dd.mapOf hw (h w' _ (I.tok _) Gb)
 .subst ey;cases (show u=Value.ref b from ry);obtain⟨z,hd,xs,rl,dd⟩:=Aj I.bC e;obtain⟨w',hw,Gb⟩:=kC.some_of (v:=v) (o:=(atKey xs k).map (·.2)) (by rw[l];exact rl.val k);obtain⟨p,hp,UO⟩:=pA.mp hw;refine wpAny_getItem_heap (yg hu) (lP I.bC eb) dd hp ?_;rw[UO];exact h w' _ (I.tok _) Gb
theorem GA{Q:Value->Shared->Prop}(hu:A.units+1<cLine)(I:aK X ae σ H s)(g:iW H a y o)(ry:bf y u)(h:∀s',aK X ae σ H s'->Q (.bool (!o.isSome)) s'):
  wpAny (model X.prog X.w) A (compareOp .NotIn u (.ref a)) Q E s:=by
 rcases g with ⟨kvs,k,e,ey,l⟩|⟨kvs,k,b,e,ey,eb,l⟩
 .subst ey;obtain⟨z,hd,vs,rl,dd⟩:=wt I.bC e;refine wpAny_notIn_of (sG ry) hd dd.mapOf ?_;rw[<-(rl.val k).nK,<-l];exact h _ (I.tok _)
 .subst ey;cases (show u=Value.ref b from ry);obtain⟨z,hd,xs,rl,dd⟩:=Aj I.bC e;refine wpAny_notIn_heap (yg hu) (lP I.bC eb) hd dd ?_;have q:=(rl.val k).nK;rw[Option.isSome_map] at q;rw[<-q,<-l];exact h _ (I.tok _)
theorem uS{h':Heap}{t':Nat}{ob:HO}(I:aK X ae σ H s)(mu:NU (H a))(hs:Heap.SameBut a s.heap h')(he:∃q,h'.get? a=some q)(new:bR X.prog X.w (upd H a ob) h' a ob):
  aK X ae σ (upd H a ob) { s with heap:=h',toks:=t' }:=
 I.write (x:=a) (e:=a) mu (.inl rfl) (fun b q hb z=>(hs.2 b hb).trans z) he new
theorem DE{P:Program}{w:World}{H':Hp}{h':Heap}{kvs:List (dq×V)}{vs:List (dq×Value)}(z:kvs.length<=sizeLine)(hd:(a==sysModules)=false)(rl:KV kvs vs)(dd:h'.DictOf (bu P w) a vs):
  bR P w H' h' a (.dK kvs):=⟨z,hd,vs,rl,dd⟩
theorem BJ{H':Hp}{Q:Unit->Shared->Prop}(hu:A.units+1<cLine)(I:aK X ae σ H s)(g:qr H a y v H')(ry:bf y u)(rv:bf v r)(h:∀s',aK X ae σ H' s'->Q () s'):
  wpAny (model X.prog X.w) A (setItem (.ref a) u r) Q E s:=by
 rcases g with ⟨kvs,k,e,ey,l,eH⟩|⟨kvs,k,b,e,ey,eb,l,eH⟩
 .subst ey eH;obtain⟨z,hd,vs,rl,dd⟩:=DD I.bC e;have hz:vs.length<=sizeLine:=by rw[<-rl.length];exact z
  have hl:(fT kvs k v).length<=sizeLine:=by have:=g9 kvs k v;lia
  refine wpAny_setItem_pairs (hsz:=hz) (sG ry) dd fun h' K1 hs=>h _ ?_;have he:∃q,h'.get? a=some q:=let ⟨q,_,_,hq,_⟩:=K1;⟨q,hq⟩;exact uS I (by rw[e];exact True.intro) hs he (DE hl hd (rl.put k rv) K1)
 .subst ey eH;cases (show u=Value.ref b from ry);obtain⟨z,hd,xs,rl,dd⟩:=O1 I.bC e;have hz:xs.length<=sizeLine:=by rw[<-Paired.length rl];exact z
  have hl:(fT kvs k v).length<=sizeLine:=by have:=g9 kvs k v;lia
  refine wpAny_setItem_heap (hsz:=hz) (yg hu) (lP I.bC eb) dd fun h' K1 hs=>h _ ?_;obtain⟨q,es,ep,hq,h2,h3,h4,_,h5⟩:=K1;refine uS I (by rw[e];exact True.intro) hs ⟨q,hq⟩ ⟨hl,hd,_,(rl.put k eb rv).keeps fun c ys ec=>?_,q,es,ep,hq,h2,h3,h4,h5⟩;rw[ak (cY ec e (fun z=>nomatch z))];exact ec
end
section
variable {X:Cx} {ae:List (Addr×Obj)} {σ:St} {H:Hp} {s:Shared} {a:Addr} {kvs:List (dq×V)} {k:dq} {u:Value} {A:Around} {E:Value->Shared->Prop}
theorem Jv{Q:Value->Shared->Prop}(I:aK X ae σ H s)(e:Rd H a (.dK kvs))(h:∀t s',aK X ae σ H s'->Q (.int kvs.length t) s'):wpAny (model X.prog X.w) A (call (.builtin "len") [.ref a]) Q E s:=by
 obtain⟨z,hd,vs,rl,dd⟩:=wt I.bC e;refine call_len_dict hd dd (by rw[<-rl.length];rw[iM] at z;lia) ?_;rw[<-rl.length];exact h _ _ (I.tok _)
end
def O2(i:Expr):Prop:=∀ov iv,subscripted i false ov iv=operate [ov,iv] (getItem ov iv)
theorem GB{prog:Program}{w:World}{A:Around}{E:Value->Shared->Prop}{s:Shared}{env:Env}{value slice:Expr}{pos:Pos}{T id:String}{Q:Value->Shared->Prop}(hl:typeLookup (.type T) "__getitem__"=pure (some (.builtin id)))(hs:O2 slice)(h:wpAny (model prog w) A (eval value env) (fun o s₁=>wpAny (model prog w) A (eval slice env) (fun i s₂=>s₂.TypeIs o T/\wpAny (model prog w) A (getItem o i) Q E s₂) E s₁) E s):
  wpAny (model prog w) A (eval (.Subscript value slice pos) env) Q E s:=by
 refine Subscript_ (ic h (fun o s₁ h₁=>ic h₁ (fun i s₂ h₂=>?_) fun _ _ x=>x) fun _ _ x=>x);obtain⟨hT,h₂⟩:=h₂;unfold subscriptTail;refine aI ?_;rw[getitemInPython_of_ne hT.not_modules];refine aI (wpAny_specialOf hT hl ?_);have fin:wpAny (model prog w) A (subscripted slice false o i) (fun r s₃=>wpAny (model prog w) A (letTemporaryGo value o r >>= fun _=>pure r) Q E s₃) E s₂:=by
  rw[hs o i];exact wpAny_operating (ic h₂ (fun r s₃ h₃=>aI (wpAny_letTemporaryGo (wpAny_pure h₃))) fun _ _ x=>x)
 first
  |exact wpAny_pure (aI fin)
  |exact aI (wpAny_pure (aI fin))
  |exact aI fin
theorem wu{X:Cx}{ae:List (Addr×Obj)}{σ:St}{H:Hp}{s:Shared}{a:Addr}{y:V}{o:Option V}(I:aK X ae σ H s)(g:iW H a y o):s.TypeIs (.ref a) "dict":=by
 rcases g with ⟨kvs,k,e,_,_⟩|⟨kvs,k,b,e,_,_,_⟩
 .obtain⟨_,_,vs,_,dd⟩:=wt I.bC e;exact dd.typeIs
 .obtain⟨_,_,xs,_,dd⟩:=Aj I.bC e;exact dd.typeIs
def oA(td ty:TE):TE:=fun σ H Q=>td σ H fun x H1=>ty σ H1 fun y H2=>∃a v,x=.ref a/\iW H2 a y (some v)/\Q v H2
def uT(ty td:TE):TE:=fun σ H Q=>ty σ H fun y H1=>td σ H1 fun x H2=>∃a o,x=.ref a/\iW H2 a y o/\Q (.bl (!o.isSome)) H2
def O4(td ty tv:TE):TS:=fun D σ H=>tv σ H fun v H1=>td σ H1 fun x H2=>ty σ H2 fun y H3=>∃a H4,x=.ref a/\qr H3 a y v H4/\D.nx σ H4
section
variable {X:Cx} {o i e value:Expr} {pos oH Ky:Pos} {td ty tv:TE}
theorem bY(hu:X.A.units+1<cLine)(ho:PE X o td)(hi:PE X i ty)(hs:O2 i):PE X (.Subscript o i pos) (oA td ty):=by
 intro ae s σ H Q I h;refine GB PySem.F.slot_dict_getitem.lookup hs (bZ (ho ae s σ H _ I h) fun u s1 ⟨x,H1,I1,rx,q1⟩=>bZ (hi ae s1 σ H1 _ I1 q1) fun iv s2 ⟨y,H2,I2,ry,a,v,ex,g,q2⟩=>?_);subst ex;obtain rfl:u=Value.ref a:=rx;exact⟨wu I2 g,BI hu I2 g ry fun w' s3 I3 Gb=>⟨v,H2,I3,Gb,q2⟩⟩
theorem nM(hu:X.A.units+1<cLine)(hi:PE X i ty)(ho:PE X o td):PC X .NotIn i o (uT ty td):=by
 intro ae s σ H Q I h;refine bZ (hi ae s σ H _ I h) fun iv s1 ⟨y,H1,I1,ry,q1⟩=>bZ (ho ae s1 σ H1 _ I1 q1) fun u s2 ⟨x,H2,I2,rx,a,ov,ex,g,q2⟩=>?_;subst ex;obtain rfl:u=Value.ref a:=rx;exact GA hu I2 g ry fun s3 I3=>⟨.bl (!ov.isSome),H2,I3,rfl,q2⟩
theorem mz(hu:X.A.units+1<cLine)(ho:PE X o td)(hi:PE X i ty)(hv:PE X value tv)(hs:swapsWith value (some (.Subscript o i oH)) pos.line X.env=pure false):
  PS X (.Assign [.Subscript o i oH] value pos) (O4 td ty tv):=by
 intro ae s σ H D I h;refine wpAny_Assign_Subscript (bZ (hv ae s σ H _ I h) fun r s1 ⟨v,H1,I1,rv,q1⟩=>bZ (ho ae s1 σ H1 _ I1 q1) fun u s2 ⟨x,H2,I2,rx,q2⟩=>bZ (hi ae s2 σ H2 _ I2 q2) fun iv s3 ⟨y,H3,I3,ry,a,H4,ex,g,q3⟩=>?_) hs;subst ex;obtain rfl:u=Value.ref a:=rx;exact BJ hu I3 g ry rv fun s4 I4=>⟨σ,H4,I4,q3⟩
end
theorem wv{P:Program}{w:World}{H:Hp}(h:Heap)(hb:sysModules<h.objs.size):bR P w H (h.push { cls:=.type "dict",data:=.dict #[] }) h.objs.size (.dK []):=
 ⟨dg _,kO.mpr (Ne.symm (aW hb)),[],.nil,Heap.DictOf.new h⟩
theorem DG{P:Program}{w:World}{H:Hp}(h:Heap)(hb:sysModules<h.objs.size):bR P w H (h.push { cls:=.type "dict",data:=.dict #[] }) h.objs.size (.dT []):=
 ⟨dg _,kO.mpr (Ne.symm (aW hb)),[],.nil,_,#[],0,cW _ rfl,⟨rfl,rfl,rfl⟩,rfl,rfl,ji⟩
def K2:TE:=fun _ H Q=>∀p,H p=none->Q (.ref p) (upd H p (.dK []))
def K3:TE:=fun _ H Q=>∀p,H p=none->Q (.ref p) (upd H p (.dT []))
section
variable {X:Cx} {pos:Pos}
theorem ww:PE X (.Dict [] [] pos) K2:=fun ae s σ H Q I h=>
 wpAny_Dict_empty ⟨.ref s.heap.objs.size,_,I.laid (a:=s.heap.objs.size) (o:=.dK []) (t':=s.toks) (fun _ _ q=>cq _ q) (aZ _) (wv s.heap I.big),rfl,h _ (I.bC.fresh (aZ _))⟩
theorem DH:PE X (.Dict [] [] pos) K3:=fun ae s σ H Q I h=>
 wpAny_Dict_empty ⟨.ref s.heap.objs.size,_,I.laid (a:=s.heap.objs.size) (o:=.dT []) (t':=s.toks) (fun _ _ q=>cq _ q) (aZ _) (DG s.heap I.big),rfl,h _ (I.bC.fresh (aZ _))⟩
end
def yW:List (TE×TE)->St->Hp->(List (V×V)->Hp->Prop)->Prop
 |[],_,H,Q=>Q [] H
 |(tk,tv)::r,σ,H,Q=>tk σ H fun x H1=>tv σ H1 fun y H2=>yW r σ H2 fun ps H3=>Q ((x,y)::ps) H3
abbrev VV:List (V×V)->List (Value×Value)->Prop:=Paired fun p q=>bf p.1 q.1/\bf p.2 q.2
def R7(X:Cx)(pos:Pos)(keys:List (Option Expr))(qt:List Expr)(GC:List (TE×TE)):Prop:=
 ∀ (ae:List (Addr×Obj)) (s:Shared) (σ:St) (H:Hp) (Q:List (V×V)->Hp->Prop),aK X ae σ H s->yW GC σ H Q->
  wpAny (model X.prog X.w) X.A (evalPairs (pairTrees keys qt X.env pos)) (fun vs s'=>∃ps H',aK X ae σ H' s'/\VV ps vs/\Q ps H') X.xe s
theorem GD{X:Cx}{pos:Pos}:R7 X pos [] [] []:=fun ae s σ H Q I h=>pairTrees_nil_walk ⟨[],H,I,.nil,h⟩
theorem DI{X:Cx}{pos:Pos}{k v:Expr}{ks:List (Option Expr)}{vs:List Expr}{tk tv:TE}{GC:List (TE×TE)}(hk:PE X k tk)(hv:PE X v tv)(hr:R7 X pos ks vs GC):
  R7 X pos (some k::ks) (v::vs) ((tk,tv)::GC):=fun ae s σ H Q I h=>
 pairTrees_cons_walk (bZ (hk ae s σ H _ I h) fun u s1 ⟨x,H1,I1,rx,q1⟩=>bZ (hv ae s1 σ H1 _ I1 q1) fun w2 s2 ⟨y,H2,I2,ry,q2⟩=>
  bZ (hr ae s2 σ H2 _ I2 q2) fun ws s3 ⟨ps,H3,I3,rl,q3⟩=>⟨(x,y)::ps,H3,I3,.cons ⟨rx,ry⟩ rl,q3⟩)
def nN(kvs more:List (dq×V)):List (dq×V):=more.foldl (fun dG kv=>fT dG kv.1 kv.2) kvs
theorem KV.merge:∀ {more:List (dq×V)} {rs:List (dq×Value)} {kvs:List (dq×V)} {vs:List (dq×Value)},KV more rs->KV kvs vs->KV (nN kvs more) (merged vs rs):=by
 intro more rs kvs vs r;unfold KV at r;induction r generalizing kvs vs with
 |nil=>intro q;exact q
 |@cons p q ps qs h t ih=>
  intro r0;have e:KV (fT kvs p.1 p.2) (stored vs q.1 q.2):=by
   have:=r0.put p.1 h.2;rw[<-h.1];exact this
  exact ih e
theorem kU:∀ (more kvs:List (dq×V)),(nN kvs more).length<=kvs.length+more.length
 |[],kvs=>by show kvs.length<=kvs.length+0;lia
 |p::r,kvs=>by
  have h1:=kU r (fT kvs p.1 p.2);have h2:=g9 kvs p.1 p.2;show (nN (fT kvs p.1 p.2) r).length<=_;rw[cw];lia
theorem qu{P:Program}{w:World}:∀ {kvs:List (dq×V)} {ws:List (Value×Value)},VV (kvs.map fun kv=>(kV kv.1,kv.2)) ws->∃rs,Carries (bu P w) ws rs/\KV kvs rs
 |[],_,r=>by rw[lA] at r;cases r;exact⟨[],True.intro,.nil⟩
 |p::kvs,_,r=>by
  rw[cX] at r;cases r with
  |@cons a b as bs h t=>
   obtain⟨rs,c,q⟩:=qu (P:=P) (w:=w) t;obtain⟨b1,b2⟩:=b;exact⟨(p.1,b2)::rs,⟨sG h.1,rfl,c⟩,.cons ⟨rfl,h.2⟩ q⟩
def O5(GC:List (TE×TE)):TE:=fun σ H Q=>∀p,H p=none->yW GC σ (upd H p (.dK [])) fun ps H2=>H2 p=some (.dK [])/\∃kvs:List (dq×V),ps=kvs.map (fun kv=>(kV kv.1,kv.2))/\kvs.length<=15/\Q (.ref p) (upd H2 p (.dK (nN [] kvs)))
theorem GE{X:Cx}{pos:Pos}{keys:List (Option Expr)}{qt:List Expr}{GC:List (TE×TE)}(h:R7 X pos keys qt GC)(rE:keys.all (·.isSome)=true)(hl:keys.length=qt.length)(h0:keys≠[])(h15:keys.length<=15):PE X (.Dict keys qt pos) (O5 GC):=by
 intro ae s σ H Q I q;have hn:=I.bC.fresh (aZ s.heap.objs.size);have I1:=I.laid (a:=s.heap.objs.size) (o:=.dK []) (h':=s.heap.push { cls:=.type "dict",data:=.dict #[] }) (t':=s.toks) (fun _ _ q=>cq _ q) (aZ _) (wv s.heap I.big);refine wpAny_Dict_walk (knd:=bu X.prog X.w) rE hl h0 h15 (bZ (h ae _ σ _ _ I1 (q _ hn)) fun ws s2 ⟨ps,H2,I2,rl,e,kvs,ep,lk,q2⟩=>?_);subst ep;obtain⟨rs,c,rk⟩:=qu (P:=X.prog) (w:=X.w) rl;obtain⟨z,hd,XV,r0,dd⟩:=DD I2.bC e;cases r0;refine⟨rs,c,dd,fun h' K1 hs=>⟨.ref s.heap.objs.size,_,?_,rfl,q2⟩⟩;have hz:(nN [] kvs).length<=sizeLine:=by
  have h1:=kU kvs [];rw[tZ] at h1;rw[iM];lia
 have he:∃q,h'.get? s.heap.objs.size=some q:=let ⟨q,_,_,hq,_⟩:=K1;⟨q,hq⟩;exact uS I2 (by rw[e];exact True.intro) hs he (DE hz hd (rk.merge .nil) K1)
section
variable {X:Cx} {ae:List (Addr×Obj)} {σ:St} {H:Hp} {s:Shared} {a:Addr} {y d:V} {u r:Value} {o:Option V} {A:Around} {E:Value->Shared->Prop}
end
section
variable {X:Cx} {o e f:Expr} {uz uF:Pos} {td ty tx:TE}
end
section
variable {X:Cx} {ae:List (Addr×Obj)} {σ:St} {H:Hp} {s:Shared} {a:Addr} {kvs:List (dq×V)} {A:Around} {E:Value->Shared->Prop}
end
section
variable {X:Cx} {ae:List (Addr×Obj)} {σ:St} {H:Hp} {s:Shared} {a:Addr} {y:V} {u:Value} {A:Around} {E:Value->Shared->Prop}
end
section
variable {X:Cx}
theorem BK:eO X (.builtin "len") (fun xs H Q=>∃a kvs,xs=[V.ref a]/\H a=some (.dK kvs)/\Q (.int kvs.length) H):=by
 intro ae s σ H xs us Q I r h;obtain⟨a,kvs,rfl,ha,q⟩:=h;obtain⟨u,rfl,ru⟩:=qg r;cases ru;exact Jv I (.inl ha) fun t s' I'=>⟨.int kvs.length,H,I',⟨t,rfl⟩,q⟩
end
section
variable {κ:Type} [DecidableEq κ]
end
section
variable {X:Cx}
def GJ:V->List V->Hp->VK->Prop:=fun x vs H Q=>∃ (l:Addr) (xs:List V) (j:Int) (i:Nat) (y:V),x=.ref l/\vs=[.int j,y]/\j=i/\H l=some (.lst xs)/\i<=xs.length/\xs.length<4096/\Q .bJ (upd H l (.lst (xs.take i++[y]++xs.drop i)))
theorem BM:RX X "list.insert" GJ:=by
 intro ae s σ H x vs v us Q I rx rv h;obtain⟨l,xs,j,i,y,rfl,rfl,hj,hH,h1,h2,q⟩:=h;cases rx;obtain⟨u1,u2,rfl,r1,r2⟩:=rv.two;obtain⟨t,rfl⟩:=r1;obtain⟨z,its,n,r,hl,e⟩:=I.vW hH;have hs:its.length<4096:=by lia
 have a0:0<=j:=by lia
 have a1:-(2 ^ 63:Int)<=j:=Int.le_trans (by decide) a0;have a2:j<2 ^ 63:=Int.lt_of_le_of_lt (show j<=4096 by lia) (by decide);have a3:its.toArray.size<=sizeLine:=by rw[cu];exact br (dI hs) (by decide)
 have a4:¬ (!Builtin.List.listFitsIndex j)=true:=by rw[fitsIndex_both a1 a2];decide
 have M:=AutoSeq1.list_insert_list_int_val_1 l its.toArray n j t u2 a4 a3;refine lE F.slot_list_insert ⟨_,e,rfl⟩ F.entry_list_insert (F.args_list_insert_3 _ _ _) M ⟨e,?_⟩;refine⟨.bJ,_,I.KE (its':=its.take i++[u2]++its.drop i) hH e ?_ (((r.take i).append (.cons r2 .nil)).append (r.drop i)) ?_,rfl,q⟩
 .have hk:(if j<0 then (j+((its.toArray.size:Nat):Int)).toNat else min j.toNat its.toArray.size)=i:=by
   rw[ap (by lia),cu];lia
  show (its.toArray.extract 0 _).push u2++its.toArray.extract _=_;rw[hk];simp;exact xJ (by rw[yc];lia)
 .simp only[cr,jf,yc,cw,tZ];have:xs.length+1<=sizeLine:=br (by lia:xs.length+1<=4096) (by decide);lia
theorem qw:∀ {xs:List V} {its:List Value},aV xs its->xs.all gk=true->its.countP (uD x)=xs.countP (fun z=>uC z x)
 |[],_,.nil,_=>rfl
 |y::xs,_,.cons (b:=u) r rr,f=>by
  have fy:gk y=true:=by rw[lw,eM] at f;exact f.1
  have fx:xs.all gk=true:=by rw[lw,eM] at f;exact f.2
  have h1:[u].any (uD x)=[y].any (fun z=>uC z x):=j6 (.cons r .nil) (by simp[fy]);have h2:uD x u=uC y x:=by simpa using h1
  rw[mY,mY,qw rr fx,h2]
def K4:V->List V->Hp->VK->Prop:=fun x vs H Q=>∃ (l:Addr) (xs:List V) (y:V),x=.ref l/\vs=[y]/\H l=some (.lst xs)/\gk y=true/\xs.all gk=true/\Q (.int (xs.countP fun z=>uC z y)) H
theorem DJ:RX X "list.count" K4:=by
 intro ae s σ H x vs v us Q I rx rv h;obtain⟨l,xs,y,rfl,rfl,hH,fy,fs,q⟩:=h;cases rx;obtain⟨u,rfl,ru⟩:=rv.one;obtain⟨z,its,n,r,hl,e⟩:=I.vW hH;refine lE F.slot_list_count ⟨_,e,rfl⟩ F.entry_list_count (F.args_list_count_2 _ _) (SeqAt.list_countAt l its.toArray n none #[] u (uD y)) ⟨e,fun w hw=>iz ru fy r fs w (by simpa using hw),?_⟩;refine⟨.int _,H,I.tok _,⟨s.toks,?_⟩,q⟩;rw[show its.toArray.toList=its by simp,qw r fs]
end
def O6(K:PySem.W.Frag)(a:Addr):It:=
 ⟨fun i H=>∃xs x,aT K H a xs/\xs[i]?=some x,fun i H x H'=>∃p v,x=.ref p/\H p=none/\H'=upd H p (.tup [.int i,v])/\∀xs,aT K H a xs->xs[i]?=some v,fun i H=>∃xs,aT K H a xs/\xs.length<=i,fun _ _=>False⟩
theorem aK.Ak(I:aK X ae σ H s)(fe:kD X ae H e)(fi:kD X ae H it)(k:∀b o,b≠e->b≠it->s.heap.get? b=some o->h'.get? b=some o)(ke:∃o,h'.get? e=some o)(ki:∃o,h'.get? it=some o)(hp:s.heap.objs.size<=p)(hl:xs.length<=sizeLine)(r:aV xs its)(ht:h'.get? p=some { cls:=.type "tuple",data:=.seq its.toArray }):aK X ae σ (upd H p (.tup xs)) { s with heap:=h',toks:=t' }:=by
 have hn:=I.bC.fresh hp;obtain⟨e0,e1,e2,e3,e4,e5⟩:=fe;obtain⟨i0,i1,i2,i3,i4,i5⟩:=fi;have ne:∀b o,s.heap.get? b=some o->b≠p:=fun b o q=>aW (bU (aX q) hp);have Al:∀b o,H b=some o->b≠e/\b≠it:=fun b o q=>⟨(fun z=>by rw[z,e0] at q;cases q),(fun z=>by rw[z,i0] at q;cases q)⟩
 refine I.step (g':=s.gens) (d':=s.drawn) (ch:=[e,it]) (fun b hb=>?_) (fun b o _ _ hb q _=>?_) (fun b o _ _ hb q _=>⟨o.slots,?_⟩) (fun b o hb q n=>by rw[ak (ne b o q)];exact n) (fun b o hb q=>⟨o,?_⟩)
  (fun b ys q=>by rw[ak (ai q hn)];exact q) (fun b o u q=>by rw[ak (ai q hn)];exact q) (fun b ps q=>⟨#[],by rw[ak (ai q hn),q];simp⟩) (fun m hm=>?_) (fun b o q=>?_) I.bare
 .rcases bL.mp hb with rfl|hb
  .exact⟨e3,e1,e4,e5⟩
  .rw[bS.mp hb];exact⟨i3,i1,i4,i5⟩
 .exact k b o (fun z=>hb (z ▸ b9)) (fun z=>hb (z ▸ cC _ b9)) q
 .exact k b o (fun z=>hb (z ▸ b9)) (fun z=>hb (z ▸ cC _ b9)) q
 .exact k b o (fun z=>hb (z ▸ b9)) (fun z=>hb (z ▸ cC _ b9)) q
 .obtain⟨o,es,ep,q,d,r'⟩:=hm;exact⟨o,es,ep,k _ _ e1.symm i1.symm q,d,r'⟩
 .by_cases hb:b=p
  .subst hb;rw[af] at q;cases q;exact⟨hl,its,r,_,ht,rfl,_,rfl,rfl⟩
  .rw[ak hb] at q;refine(I.bC b o q).oG (fun c u hc z=>k c u ?_ ?_ z) (fun c z=>by rw[ak (ai z hn)];exact z) fun c ys z=>by rw[ak (ai z hn)];exact z
   .rcases hc with rfl|hc
    .exact(Al _ _ q).1
    .exact(Al _ _ hc).1
   .rcases hc with rfl|hc
    .exact(Al _ _ q).2
    .exact(Al _ _ hc).2
theorem BN{P:Program}{w:World}{K:PySem.W.Frag}{es:List Expr}{x1:Nat}{pos:Pos}(a e it:Addr)(jp:e≠it):
  ut P w K (.Tuple es x1 pos) (O6 K a) [e,it] e (fun i h=>(∃old,IsEnum h e it (i:Int) old)/\h.IsListIter it a i) where
 mem:=by simp
 obj:=fun i h st b hb=>by
  obtain⟨⟨old,he⟩,⟨o,q,c,d⟩⟩:=st;rcases bL.mp hb with rfl|hb
  .exact⟨_,he,fun v z=>by
    have z':Data.fields _=Data.cell v:=z;cases z'⟩
  .rw[bS.mp hb];exact⟨o,q,fun v z=>by rw[d] at z;cases z⟩
 keep:=fun i h h' st k=>by
  obtain⟨⟨old,he⟩,hi⟩:=st;exact⟨⟨old,k e (by simp) _ he⟩,hi.at fun o q=>k it (by simp) o q⟩
 item:=by
  intro X hP hw hK i ae s σ H E uu I hf st hg;subst hP hw hK;have hc:X.calm=true:=uu.elim id fun z=>(show False from z).elim;obtain⟨xs,x,hq,hx⟩:=hg;obtain⟨its,rv,p,hz⟩:=I.list hq;obtain⟨u,hu,ru⟩:=rv.get hx;obtain⟨⟨old,he⟩,hi⟩:=st;refine wpAny_pyNext_enum_item he hi p.isList (x:=u) (by simpa using hu) jp fun h' ho lZ ht hsz k=>?_;refine⟨_,rfl,wpAny_letOwnedTupleGo_enum ho fun h2 O7 qc=>?_⟩;have O8:s.heap.objs.size≠e:=jC (aX he);have Bt:h2.IsListIter it a (i+1):=lZ.extBut qc.extBut jp.symm;have fe:=hf e (by simp);have fi:=hf it (by simp);have I2:aK X ae σ (upd H s.heap.objs.size (.tup [.int i,x])) { s with heap:=h2,toks:=s.toks+1 }:=by
   refine I.Ak (its:=[.int i s.toks,u]) fe fi (fun b o h1 h3 q=>(qc.2 b h1).trans (k b o h1 h3 q)) ⟨_,O7⟩ ?_ (aZ _) (by show 2<=sizeLine;decide) (.cons ⟨_,rfl⟩ (.cons ru .nil)) ((qc.2 _ O8).trans ht);obtain⟨o,q,_⟩:=Bt;exact⟨o,q⟩
  refine⟨.ref s.heap.objs.size,_,I2,rfl,⟨_,x,rfl,I.bC.fresh (aZ _),rfl,fun ys hy=>by rw[I.vK hy hq];exact hx⟩,⟨⟨u,O7⟩,Bt⟩,fun b hb=>?_⟩;have f0:=(hf b hb).1;rw[ak]
  .exact f0
  .rcases bL.mp hb with rfl|hb
   .exact O8.symm
   .rw[bS.mp hb];obtain⟨o,q,_⟩:=hi;exact aW (aX q)
 done:=by
  intro X hP hw hK i ae s σ H E uu I hf st hg;subst hP hw hK;have hc:X.calm=true:=uu.elim id fun z=>(show False from z).elim;obtain⟨xs,hq,hx⟩:=hg;obtain⟨its,rv,p,hz⟩:=I.list hq;obtain⟨f0,f1,f2,f3,f4,f5⟩:=hf it (by simp);obtain⟨⟨old,he⟩,hi⟩:=st;have hl:=rv.length;exact wpAny_pyNext_enum_end (I.ok.hd hc) he hi p.isList (by simp;lia) fun h' eb=>⟨rfl,I.turned (t':=s.toks) (fun b o hb e=>eb b o hb e) f0 f1 f3 f4 f5⟩
 self:=fun _ _ _ _ _ st h=>by
  obtain⟨⟨old,he⟩,_⟩:=st;exact tY he h
section
variable {X:Cx}
def O9(K:PySem.W.Frag)(ta:TA):TI:=fun σ H R=>ta σ H fun vs H1=>∃a xs,vs=[.ref a]/\H1 a=some (.lst xs)/\R (O6 K a) H1
theorem Am(hg:Gl X "enumerate")(hm:X.mg "enumerate"=none)(ha:PA X [a] ta)(hs:starEach [a] X.env=[(false,eval a X.env)]:=by rfl):
  PI X (.Tuple es x1 Ky) (.Call (.Name "enumerate" p) [a] [] pos) (O9 X.K ta):=by
 intro ae s σ H R I h;refine Call_ (jG I hg hm (by decide +kernel:bootBuiltins "enumerate"=some (.type "enumerate")) (pF (bZ (ha pos ae s σ H _ I h) fun us s1 ⟨vs,H1,I1,r1,q1⟩=>?_) hs rfl));obtain⟨l,xs,rfl,hl,q⟩:=q1;obtain⟨u1,rfl,UP⟩:=r1.one;obtain rfl:u1=Value.ref l:=UP;obtain⟨z,its,n,r,_,e⟩:=I1.vW hl;refine call_enumerate_1 e fun h' he hi hsz k=>?_;have jp:s1.heap.objs.size+1≠s1.heap.objs.size:=Nat.succ_ne_self _;refine tY he ?_;have I2:aK X ae σ H1 { s1 with heap:=h' }:=I1.kept (t':=s1.toks) k;refine⟨s1.heap.objs.size+1,[s1.heap.objs.size+1,s1.heap.objs.size],_,_,H1,rfl,I2,BN l _ _ jp,⟨⟨_,he⟩,hi⟩,fun b hb=>?_,q⟩;have oM:s1.heap.objs.size<=b:=by
  rcases bL.mp hb with rfl|hb
  .exact Nat.le_succ _
  .rw[bS.mp hb];exact aZ _
 exact I1.vL oM (I1.bC.fresh oM)
theorem wx{K:PySem.W.Frag}{a:Addr}{xs:List V}{g:TG}{tb:TS}{D:vG}{σ:St}{H:Hp}(Pv:Nat->St->Hp->Prop)(h0:Pv 0 σ H)(hl:∀i σ H,i<=xs.length->Pv i σ H->aT K H a xs)(hs:∀i x p σ H,xs[i]?=some x->Pv i σ H->H p=none->g (.ref p) σ (upd H p (.tup [.int i,x])) fun σ2 H2=>tb { D with nx:=Pv (i+1),ct:=Pv (i+1),bk:=D.nx } σ2 H2)(hd:∀σ H,Pv xs.length σ H->D.nx σ H):
  ∃W:Nat->Nat->St->Hp->Prop,(∃m,W 0 m σ H)/\∀i m σ H,W i m σ H->
   ((O6 K a).stop i H/\D.nx σ H)\/((O6 K a).go i H/\∃N:St->Hp->Prop,(∀σ' H',N σ' H'->∃m',m'<m/\W (i+1) m' σ' H')/\∀x H',(O6 K a).Jf i H x H'->g x σ H' fun σ2 H2=>tb { D with nx:=N,ct:=N,bk:=D.nx } σ2 H2):=by
 refine⟨fun i m σ H=>m=xs.length-i/\i<=xs.length/\Pv i σ H,⟨xs.length,by simp,dg _,h0⟩,?_⟩;rintro i m σ H ⟨rfl,hi,p⟩;have q:=hl i σ H hi p;by_cases eB:i<xs.length
 .refine .inr ⟨⟨xs,xs[i],q,by simp[eB]⟩,Pv (i+1),fun σ' H' p'=>⟨xs.length-(i+1),by lia,rfl,eB,p'⟩,fun x H' y=>?_⟩;obtain⟨pp,v,rfl,hn,rfl,hv⟩:=y;exact hs i v pp σ _ (hv xs q) p hn
 .have e:i=xs.length:=by lia
  subst e;exact .inl ⟨⟨xs,q,aZ _⟩,hd σ H p⟩
end
section
variable {prog:Program} {w:World} {A:Around} {E:Value->Shared->Prop} {s:Shared}
theorem yX(rh:s.heap.IsTupleIter it t i)(ht:s.heap.IsTuple t xs)(hx:xs[i]?=some x)(q:∀h',h'.IsTupleIter it t (i+1)->Heap.SameBut it s.heap h'->Q x { s with heap:=h' }):wpAny (model prog w) A (Builtin.SmallTypes.nextOf (.ref it)) Q E s:=by
 obtain⟨o,h1,h2,h3⟩:=id rh;obtain⟨p,k1,_,n,k3⟩:=ht;unfold Builtin.SmallTypes.nextOf;refine aI (tJ (name:=Str.ofString "__next__") rh.typeIs F.slot_tuple_iterator_next (pV F.slot_tuple_iterator_next rh.typeIs F.entry_tuple_iterator_next ?_ (F.args_tuple_iterator_next_1 _)));change wpAny _ _ (field (.ref it) 0 >>= _) _ _ s;refine aI (iL h1 h3 (x:=.ref t) rfl ?_);change wpAny _ _ (if (Value.ref t==Value.none)=true then _ else _) _ _ s;rw[ap (by exact cj)];change wpAny _ _ (field (.ref it) 1 >>= _) _ _ s;refine aI (iL h1 h3 (x:=.int i 0) rfl ?_);change wpAny _ _ (seqItems? (.ref t) >>= _) _ _ s;refine aI (ue k1 k3 ?_);simp only[cM,hx];refine aI (wpAny_setField h1 h3 (by simp) (wpAny_pure ⟨x,rfl,wpAny_pure (q _ ?_ (Heap.SameBut.update ..))⟩));refine⟨_,tR _ h1 (Obj.isFreed_of_fields (yh h3 _)),(Obj.cls_mapFields ..).trans h2,?_⟩;rw[yh h3];simp[rawInt]
theorem sI(hh:A.handled=none)(rh:s.heap.IsTupleIter it t i)(ht:s.heap.IsTuple t xs)(hx:xs[i]?=none)(q:∀h' e,Heap.ExtBut it s.heap h'->(∃o,h'.get? e=some o/\o.cls=.type "StopIteration")->E (.ref e) { s with heap:=h' }):wpAny (model prog w) A (Builtin.SmallTypes.nextOf (.ref it)) Q E s:=by
 obtain⟨o,h1,h2,h3⟩:=id rh;obtain⟨p,k1,_,n,k3⟩:=ht;unfold Builtin.SmallTypes.nextOf;refine aI (tJ (name:=Str.ofString "__next__") rh.typeIs F.slot_tuple_iterator_next (pV F.slot_tuple_iterator_next rh.typeIs F.entry_tuple_iterator_next ?_ (F.args_tuple_iterator_next_1 _)));change wpAny _ _ (field (.ref it) 0 >>= _) _ _ s;refine aI (iL h1 h3 (x:=.ref t) rfl ?_);change wpAny _ _ (if (Value.ref t==Value.none)=true then _ else _) _ _ s;rw[ap (by exact cj)];change wpAny _ _ (field (.ref it) 1 >>= _) _ _ s;refine aI (iL h1 h3 (x:=.int i 0) rfl ?_);change wpAny _ _ (seqItems? (.ref t) >>= _) _ _ s;refine aI (ue k1 k3 ?_);simp only[cM,hx];refine aI (iN (aI (wpAny_setField h1 h3 (by simp) ?stop)));case stop=>
  change wpAny _ _ (newExc (.type "StopIteration") [] >>= _) _ _ _;refine aI ?_;simp only[newExc,newTuple];refine aI (pU (aI (m:=firstArgMember _ _) (wpAny_of_eq (a:=Value.none) (by simp only[firstArgMember];rfl) (pU ?_ (by size_fits)))) (by size_fits));simp only[raiseNew];refine aI (wpAny_handled ?_);rw[show A.in1.handled=none from hh];exact aI (wpAny_pure (wpAny_throw (q _ _ (fun b u hb z=>cq _ (cq _ ((tP _ _ (Ne.symm hb)).trans z))) ⟨_,cW _ rfl,rfl⟩)))
theorem wy(hh:A.handled=none)(it t:Addr)(jp:t≠it)(xs:Array Value):Draws prog w A it [it,t] xs.size (fun i v=>xs[i]?=some v) (fun i h=>h.IsTupleIter it t i/\h.IsTuple t xs) where
 live:=fun _ _ st=>let ⟨o,ho,_⟩:=st.1;⟨o,ho⟩
 frame:=fun _ _ _ st hk=>⟨st.1.at fun o e=>hk it (by simp) o e,let ⟨o,e,r⟩:=st.2;⟨o,hk t (by simp) o e,r⟩⟩
 item:=fun i s Q E hi st q=>by
  refine yX st.1 st.2 (x:=xs[i]) (by simp[hi]) fun h' a b=>?_;obtain⟨o,e,r⟩:=st.2;exact q _ h' s.toks (by simp[hi]) ⟨a,o,(b.2 t jp).trans e,r⟩ b
 done:=fun s Q E st q=>sI hh st.1 st.2 (by simp) q
end
theorem BO(t:Addr)(xs:Array Value):
  Meets (Builtin.«enumerate.__new__» ⟨[.type "enumerate",.ref t],[]⟩) (fun _ R s=>s.heap.IsTuple t xs/\
   R (.ok (.ret (.ref (s.heap.push { cls:=.type "tuple_iterator",data:=.fields #[.ref t,.int 0 0] }).objs.size)))
    { s with heap:=(s.heap.push { cls:=.type "tuple_iterator",data:=.fields #[.ref t,.int 0 0] }).push { cls:=.type "enumerate",data:=.fields #[.none,.bool false,.ref s.heap.objs.size,rawInt 0,.none,.none] } }):=
 .of_wp fun prog w A R s h=>by
  obtain⟨hp,g,d,tk,os⟩:=s;obtain⟨hT,h⟩:=h;have hs:=sub_enumerate
  wp_walk
  refine wpAny_stack_any fun st=>wpAny_pure ?_;split
  .rename_i c _ _ _ _ _;cases (c==Value.type "enumerate") <;> (wp_walk using yf hT;exact⟨_,rfl,h⟩)
  .wp_walk using yf hT
   exact⟨_,rfl,h⟩
theorem yY(ht:s.heap.IsTuple t xs)(h:∀h',IsEnum h' (s.heap.objs.size+1) s.heap.objs.size 0 .none->h'.IsTupleIter s.heap.objs.size t 0->(∀b o,s.heap.get? b=some o->h'.get? b=some o)->Q (.ref (s.heap.objs.size+1)) { s with heap:=h' }):
  wpAny (model prog w) A (call (.type "enumerate") [.ref t]) Q E s:=by
 refine callType_new F.called_enumerate (by decide) (F.typeCall_enumerate_1 _) (F.newCall_enumerate_1 _) (fun obj=>F.args_object_init_2 obj _) F.entry_enumerate_new (BO t xs) ⟨ht,?_⟩;have hz:(s.heap.push { cls:=.type "tuple_iterator",data:=.fields #[.ref t,.int 0 0] }).objs.size=s.heap.objs.size+1:=iK ..;have he:IsEnum ((s.heap.push { cls:=.type "tuple_iterator",data:=.fields #[.ref t,.int 0 0] }).push
   { cls:=.type "enumerate",data:=.fields #[.none,.bool false,.ref s.heap.objs.size,rawInt 0,.none,.none] }) (s.heap.objs.size+1) s.heap.objs.size 0 .none:=by
  have q:=cW (s.heap.push { cls:=.type "tuple_iterator",data:=.fields #[.ref t,.int 0 0] }) (o:={ cls:=.type "enumerate",data:=.fields #[.none,.bool false,.ref s.heap.objs.size,rawInt 0,.none,.none] }) rfl;rw[hz] at q;exact q
 show _/\_;rw[hz];exact⟨⟨_,he,rfl⟩,h _ he ⟨_,cq _ (cW _ rfl),rfl,rfl⟩ fun b o x=>cq _ (cq _ x)⟩
def GK(K:PySem.W.Frag)(a:Addr):It:=
 ⟨fun i H=>∃xs x,cx K H a xs/\xs[i]?=some x,fun i H x H'=>∃p v,x=.ref p/\H p=none/\H'=upd H p (.tup [.int i,v])/\∀xs,cx K H a xs->xs[i]?=some v,fun i H=>∃xs,cx K H a xs/\xs.length<=i,fun _ _=>False⟩
theorem yZ{P:Program}{w:World}{K:PySem.W.Frag}{es:List Expr}{x1:Nat}{pos:Pos}(a e it:Addr)(jp:e≠it)(hae:a≠e)(hai:a≠it):
  ut P w K (.Tuple es x1 pos) (GK K a) [e,it] e (fun i h=>(∃old,IsEnum h e it (i:Int) old)/\h.IsTupleIter it a i) where
 mem:=by simp
 obj:=fun i h st b hb=>by
  obtain⟨⟨old,he⟩,⟨o,q,c,d⟩⟩:=st;rcases bL.mp hb with rfl|hb
  .exact⟨_,he,fun v z=>by
    have z':Data.fields _=Data.cell v:=z;cases z'⟩
  .rw[bS.mp hb];exact⟨o,q,fun v z=>by rw[d] at z;cases z⟩
 keep:=fun i h h' st k=>by
  obtain⟨⟨old,he⟩,hi⟩:=st;exact⟨⟨old,k e (by simp) _ he⟩,hi.at fun o q=>k it (by simp) o q⟩
 item:=by
  intro X hP hw hK i ae s σ H E uu I hf st hg;subst hP hw hK;have hc:X.calm=true:=uu.elim id fun z=>(show False from z).elim;obtain⟨xs,x,hq,hx⟩:=hg;obtain⟨its,rv,p,hz⟩:=I.tuple hq;obtain⟨u,hu,ru⟩:=rv.get hx;obtain⟨⟨old,he⟩,hi⟩:=st;have eB:i<its.toArray.size:=by
   have:=(cK.mp hu).1;simpa using this
  have D:=wy (prog:=X.prog) (w:=X.w) (A:=X.A.in1) (I.ok.hd hc) it a hai its.toArray;refine wpAny_pyNext_enum_itemD D he ⟨hi,p⟩ eB jp (by simp[jp,hae.symm]) fun u' h' tk wb ho nu ht hsz k=>?_;have eu:u'=u:=by
   have h1:its.toArray[i]?=some u:=by simpa using hu
   rw[h1] at wb;exact(aY wb).symm
  subst eu;refine⟨_,rfl,wpAny_letOwnedTupleGo_enum ho fun h2 O7 qc=>?_⟩;have O8:s.heap.objs.size≠e:=jC (aX he);have Bt:h2.IsTupleIter it a (i+1):=nu.1.at fun o q=>(qc.2 it jp.symm).trans q;have fe:=hf e (by simp);have fi:=hf it (by simp);have I2:aK X ae σ (upd H s.heap.objs.size (.tup [.int i,x])) { s with heap:=h2,toks:=tk+1 }:=by
   refine I.Ak (its:=[.int i tk,u']) fe fi (fun b o h1 h3 q=>(qc.2 b h1).trans (k b o h1 h3 q)) ⟨_,O7⟩ ?_ (aZ _) (by show 2<=sizeLine;decide) (.cons ⟨_,rfl⟩ (.cons ru .nil)) ((qc.2 _ O8).trans ht);obtain⟨o,q,_⟩:=Bt;exact⟨o,q⟩
  refine⟨.ref s.heap.objs.size,_,I2,rfl,⟨_,x,rfl,I.bC.fresh (aZ _),rfl,fun ys hy=>by rw[I.rW hy hq];exact hx⟩,⟨⟨u',O7⟩,Bt⟩,fun b hb=>?_⟩;have f0:=(hf b hb).1;rw[ak]
  .exact f0
  .rcases bL.mp hb with rfl|hb
   .exact O8.symm
   .rw[bS.mp hb];obtain⟨o,q,_⟩:=hi;exact aW (aX q)
 done:=by
  intro X hP hw hK i ae s σ H E uu I hf st hg;subst hP hw hK;have hc:X.calm=true:=uu.elim id fun z=>(show False from z).elim;obtain⟨xs,hq,hx⟩:=hg;obtain⟨its,rv,p,hz⟩:=I.tuple hq;obtain⟨f0,f1,f2,f3,f4,f5⟩:=hf it (by simp);obtain⟨⟨old,he⟩,hi⟩:=st;have hl:=rv.length;unfold pyNext;have hT:s.TypeIs (.ref e) "enumerate":=⟨_,he,rfl⟩
  refine aI (uh (tJ (name:=Str.ofString "__next__") hT F.slot_enumerate_next (pV F.slot_enumerate_next hT F.entry_enumerate_next ?_ (F.args_enumerate_next_1 _))));change wpAny _ _ (field (.ref e) 2 >>= _) _ _ _;refine aI (iL he rfl (x:=.ref it) rfl (aI (sI (I.ok.hd hc) hi p (by simp;lia) fun h' x eb sA=>?_)));obtain⟨o,ho,Jl⟩:=sA;exact aI (wpAny_isInstance (T:="StopIteration") (b:=true) ⟨o,ho,Jl⟩ isSubtype_stop (wpAny_pure ⟨rfl,I.turned (t':=s.toks) (fun b o hb e=>eb b o hb e) f0 f1 f3 f4 f5⟩))
 self:=fun _ _ _ _ _ st h=>by
  obtain⟨⟨old,he⟩,_⟩:=st;exact tY he h
section
variable {X:Cx}
def K5(K:PySem.W.Frag)(ta:TA):TI:=fun σ H R=>ta σ H fun vs H1=>∃a xs,vs=[.ref a]/\cx K H1 a xs/\R (GK K a) H1
theorem qx(hg:Gl X "enumerate")(hm:X.mg "enumerate"=none)(ha:PA X [a] ta)(hs:starEach [a] X.env=[(false,eval a X.env)]:=by rfl):
  PI X (.Tuple es x1 Ky) (.Call (.Name "enumerate" p) [a] [] pos) (K5 X.K ta):=by
 intro ae s σ H R I h;refine Call_ (jG I hg hm (by decide +kernel:bootBuiltins "enumerate"=some (.type "enumerate")) (pF (bZ (ha pos ae s σ H _ I h) fun us s1 ⟨vs,H1,I1,r1,q1⟩=>?_) hs rfl));obtain⟨l,xs,rfl,hl,q⟩:=q1;obtain⟨u1,rfl,UP⟩:=r1.one;obtain rfl:u1=Value.ref l:=UP;obtain⟨its,rv,pt,hz⟩:=I1.tuple hl;have eB:l<s1.heap.objs.size:=by obtain⟨o,e,_⟩:=pt;exact aX e
 refine yY (show s1.heap.IsTuple l its.toArray from pt) fun h' he hi k=>?_;have jp:s1.heap.objs.size+1≠s1.heap.objs.size:=Nat.succ_ne_self _;refine tY he ?_;have I2:aK X ae σ H1 { s1 with heap:=h' }:=I1.kept (t':=s1.toks) k;refine⟨s1.heap.objs.size+1,[s1.heap.objs.size+1,s1.heap.objs.size],_,_,H1,rfl,I2,yZ l _ _ jp (aW (fc eB)) (aW eB),⟨⟨_,he⟩,hi⟩,fun b hb=>?_,q⟩;have oM:s1.heap.objs.size<=b:=by
  rcases bL.mp hb with rfl|hb
  .exact Nat.le_succ _
  .rw[bS.mp hb];exact aZ _
 exact I1.vL oM (I1.bC.fresh oM)
theorem qy{K:PySem.W.Frag}{a D:Addr}{xs:List V}{g:TG}{tt:TT}{te:TE}{fin:Hp->Prop}{σB:St}{H0:Hp}(Pv:Nat->List V->St->Hp->Prop)(h0:Pv 0 [] σB H0)(hl:∀i ys σ H,i<=xs.length->Pv i ys σ H->cx K H a xs)(hs:∀i x p ys σ H (Kt:V->St->Hp->Prop) (Kf:St->Hp->Prop),xs[i]?=some x->Pv i ys σ H->H p=none->
   (∀v σ2 H4,H4 D=some (.lst ys)->ys.length<sizeLine->Pv (i+1) (ys++[v]) σ2 (upd H4 D (.lst (ys++[v])))->Kt v σ2 H4)->(∀σ2 H3,Pv (i+1) ys σ2 H3->Kf σ2 H3)->
   g (.ref p) σ (upd H p (.tup [.int i,x])) fun σ2 H2=>tt σ2 H2 fun b H3=>if b=true then te σ2 H3 fun v H4=>Kt v σ2 H4 else Kf σ2 H3)(hd:∀ys σ H,Pv xs.length ys σ H->fin H):g8 (GK K a) g tt te D fin σB H0:=by
 refine⟨fun i m σ H=>m=xs.length-i/\i<=xs.length/\∃ys,Pv i ys σ H,⟨xs.length,by simp,dg _,[],h0⟩,?_⟩;rintro i m σ H ⟨rfl,hi,ys,p⟩;have q:=hl i ys σ H hi p;by_cases eB:i<xs.length
 .refine .inr ⟨⟨xs,xs[i],q,by simp[eB]⟩,?_⟩;rintro x H' ⟨pp,v,rfl,hn,rfl,hv⟩;exact hs i v pp ys σ _ (fun v σ2 H4=>∃ys,H4 D=some (.lst ys)/\ys.length<sizeLine/\∃m',m'<xs.length-i/\m'=xs.length-(i+1)/\i+1<=xs.length/\∃oN,Pv (i+1) oN σ2 (upd H4 D (.lst (ys++[v]))))
   (fun σ2 H3=>∃m',m'<xs.length-i/\m'=xs.length-(i+1)/\i+1<=xs.length/\∃oN,Pv (i+1) oN σ2 H3) (hv xs q) p hn
   (fun v σ2 H4 z1 z2 z3=>⟨ys,z1,z2,_,by lia,rfl,eB,_,z3⟩) (fun σ2 H3 z=>⟨_,by lia,rfl,eB,_,z⟩)
 .have e:i=xs.length:=by lia
  subst e;exact .inl ⟨⟨xs,q,aZ _⟩,hd ys σ H p⟩
end
theorem aK.freeze{X:Cx}{ae:List (Addr×Obj)}{σ:St}{H:Hp}{s:Shared}{d:Addr}{u:HO}{o:Obj}(I:aK X ae σ H s)(hd:H d=some u)(ho:s.heap.get? d=some o)(hu:(∀xs,u≠.tup xs)/\(∀o v,u≠.iI o v)/\(∀ps,u≠.m9 ps)/\(∀x,u≠.own x)):
  aK X ae σ (upd H d (.iI o u)) s:=by
 have ok:iP X.prog X.w (upd H d (.iI o u)) s.heap:=fun b v e=>by
  have st:∀ {b v},bR X.prog X.w H s.heap b v->bR X.prog X.w (upd H d (.iI o u)) s.heap b v:=fun {b v} x=>
   x.oG (fun _ _ _ q=>q) (fun c q=>by rw[ak (fun z=>by rw[z,hd] at q;exact hu.2.2.2 _ (aY q))];exact q) fun c xs q=>by rw[ak (fun z=>by rw[z,hd] at q;exact hu.1 _ (aY q))];exact q
  by_cases hb:b=d
  .subst hb;rw[af] at e;cases e;exact⟨ho,st (I.bC b u hd)⟩
  .rw[ak hb] at e;exact st (I.bC b v e)
 have r:=I.step (h':=s.heap) (H':=upd H d (.iI o u)) (g':=s.gens) (t':=s.toks) (d':=s.drawn) (ch:=[]) (fun _ z=>absurd z (by simp)) (fun b o' _ _ _ q _=>q) (fun b o' _ _ _ q _=>⟨o'.slots,q⟩)
  (fun b o' _ q n=>by rw[ak (fun z=>by rw[z,hd] at n;cases n)];exact n) (fun b o' _ q=>⟨o',q⟩)
  (fun b xs q=>by rw[ak (fun z=>by rw[z,hd] at q;exact hu.1 _ (aY q))];exact q) (fun b o' v q=>by rw[ak (fun z=>by rw[z,hd] at q;exact hu.2.1 _ _ (aY q))];exact q)
  (fun b ps q=>⟨#[],by rw[ak (fun z=>by rw[z,hd] at q;exact hu.2.2.1 _ (aY q)),q];simp⟩) (fun m hm=>hm) ok I.bare
 exact r
def K6(d:Addr)(o:Obj)(kvs:List (dq×V)):It:=
 ⟨fun i H=>H d=some (.iI o (.dK kvs))/\i<kvs.length,fun i H x H'=>H'=H/\∃k v,kvs[i]?=some (k,v)/\x=kV k,fun i H=>H d=some (.iI o (.dK kvs))/\kvs.length<=i,fun _ _=>False⟩
theorem GL{P:Program}{w:World}{k:dq}{u:Value}(h:(bu P w).is k u=true):bf (kV k) u:=by
 cases k with
 |inl i=>
  have h':Value.isInt i u=true:=h;cases u <;> simp[Value.isInt] at h' <;> try exact h'.elim
  all_goals first|(subst h';exact⟨_,rfl⟩)|(rw[<-h'];exact⟨_,rfl⟩)|(rw[h'];exact⟨_,rfl⟩)
 |inr x=>
  have h':Value.isStrOf x u=true:=h;cases u <;> simp[Value.isStrOf] at h' <;> try exact h'.elim
  all_goals first|(subst h';exact⟨_,rfl⟩)|(rw[<-h'];exact⟨_,rfl⟩)|(rw[h'];exact⟨_,rfl⟩)
theorem sJ{P:Program}{w:World}{K:PySem.W.Frag}{tg:Expr}(d it:Addr)(o:Obj)(kvs:List (dq×V))(es:Array DictEntry)(ep:Nat)(GN:o.data=.dict es ep):
  ut P w K tg (K6 d o kvs) [it] it (fun i h=>h.IsKeyIter it d i kvs.length ep) where
 mem:=by simp
 obj:=fun i h st b hb=>by
  have e:b=it:=by simpa using hb
  subst e;obtain⟨o,e,c,d⟩:=st;exact⟨o,e,fun v z=>by rw[d] at z;cases z⟩
 keep:=fun i h h' st k=>st.at fun o e=>k it (by simp) o e
 item:=by
  intro X hP hw hK i ae s σ H E uu I hf st hg;subst hP hw hK;have hc:X.calm=true:=uu.elim id fun z=>(show False from z).elim;obtain⟨hd,hi⟩:=hg;obtain⟨ho,z,hS,vs,kv,ob,vy,Kh,g1,g2,g3,g4,g5,g6⟩:=I.bC d _ hd;rw[ho] at g1;cases g1;rw[GN] at g3;cases g3;have hm:s.heap.DictAt (bu X.prog X.w) d vs ep:=⟨o,es,ho,g2,GN,g4,g5,g6⟩
  have dZ:=kv.length;obtain⟨f0,f1,f2,f3,f4,f5⟩:=hf it (by simp);have lZ:i<vs.length:=by lia
  obtain⟨⟨k,v⟩,hv⟩:∃p,vs[i]?=some p:=⟨_,cm lZ⟩
  refine wpAny_pyNext_dict_item (by rw[<-dZ];exact st) hm hv fun key h' hk aS sb=>?_;have I1:aK X ae σ H { s with heap:=h' }:=I.turned (t':=s.toks) (fun b o hb e=>(sb.2 b hb).trans e) f0 f1 f3 f4 f5;obtain⟨oi,ei,ci,di⟩:=id aS;have BP:(kvs.map (·.1))[i]?=some k:=by rw[kv.keys,bo,hv];rfl
  obtain⟨p,hp,hpk⟩:∃p,kvs[i]?=some p/\p.1=k:=by
   rw[bo] at BP;cases q:kvs[i]? with
   |none=>rw[q] at BP;cases BP
   |some p=>rw[q] at BP;exact⟨p,rfl,aY BP⟩
  refine⟨key,rfl,zN (s:={ s with heap:=h' }) ei ci di (by decide) ⟨kV k,H,I1,GL hk,⟨rfl,k,p.2,by rw[hp,<-hpk],rfl⟩,by rw[dZ];exact aS,fun b hb=>(hf b hb).1⟩⟩
 done:=by
  intro X hP hw hK i ae s σ H E uu I hf st hg;subst hP hw hK;have hc:X.calm=true:=uu.elim id fun z=>(show False from z).elim;obtain⟨hd,hi⟩:=hg;obtain⟨ho,z,hS,vs,kv,ob,vy,Kh,g1,g2,g3,g4,g5,g6⟩:=I.bC d _ hd;rw[ho] at g1;cases g1;rw[GN] at g3;cases g3;have hm:s.heap.DictAt (bu X.prog X.w) d vs ep:=⟨o,es,ho,g2,GN,g4,g5,g6⟩
  have dZ:=kv.length;obtain⟨f0,f1,f2,f3,f4,f5⟩:=hf it (by simp);exact wpAny_pyNext_dict_end (I.ok.hd hc) (by rw[<-dZ];exact st) hm (gX (by lia)) fun h' eb=>⟨rfl,I.turned (t':=s.toks) (fun b o hb e=>eb b o hb e) f0 f1 f3 f4 f5⟩
 self:=fun _ _ _ _ _ st h=>wpAny_pyIter_keyiter st h
section
variable {X:Cx} {tg:Expr}
def O_(tl:TE):TI:=fun σ H R=>tl σ H fun x H1=>∃d kvs,x=.ref d/\H1 d=some (.dK kvs)/\∀o,R (K6 d o kvs) (upd H1 d (.iI o (.dK kvs)))
theorem An{l:Expr}{tl:TE}(hl:PE X l tl):PI X tg l (O_ tl):=by
 intro ae s σ H R I h;refine bZ (hl ae s σ H _ I h) fun v s1 ⟨x,H1,I1,r1,q1⟩=>?_;obtain⟨d,kvs,e,hd,q⟩:=q1;subst e;cases r1;obtain⟨z,hS,vs,kv,o,es,ep,g1,g2,g3,g4,g5,g6⟩:=DD I1.bC hd;have hm:s1.heap.DictAt (bu X.prog X.w) d vs ep:=⟨o,es,g1,g2,g3,g4,g5,g6⟩
 have I2:=I1.freeze hd g1 ⟨(fun _ z=>by cases z),(fun _ _ z=>by cases z),(fun _ z=>by cases z),(fun _ z=>by cases z)⟩;refine wpAny_pyIter_dict hS hm ?_;refine⟨s1.heap.objs.size,[s1.heap.objs.size],_,_,_,rfl,I2.kept (t':=s1.toks) fun b o e=>cq _ e,sJ d _ o kvs es ep g3,⟨_,cW _ rfl,rfl,by rw[kv.length];rfl⟩,fun b hb=>?_,q o⟩;have e:b=s1.heap.objs.size:=by simpa using hb
 subst e;exact I2.vL (aZ _) (I2.bC.fresh (aZ _))
end
theorem uU:typeLookup (.type "list") "keys"=pure none:=by rw[typeLookup_type,builtinLookup_eq_fast];kernel_rfl
theorem oO:typeLookup (.type "list") "__getattr__"=pure none:=by rw[typeLookup_type,builtinLookup_eq_fast];kernel_rfl
theorem qz(l:Addr)(u:Tok)(kR:Array Value)(n:Nat):
  Meets (Builtin.«object.__getattribute__» ⟨[.ref l,.str "keys" u],[]⟩) (fun A R s=>s.heap.get? l=some { cls:=.type "list",data:=.seq kR n }/\raisesAttr (.ref l) "keys" A R s):=
 Meets.of_wp fun prog w A R s hs=>by
  obtain⟨hp,g,d,tk,os⟩:=s;obtain⟨hl,hs⟩:=hs;have hT:(⟨hp,g,d,tk,os⟩:Shared).TypeIs (.ref l) "list":=⟨_,hl,rfl⟩
  have f1:=uU;unfold Builtin.«object.__getattribute__»;repeat (any_goals (first|assumption|wp_step))
  exact wpAny_raiseAttrError hs.1 hs.2 (attrMsg_fits (by decide +kernel) (by decide +kernel))
theorem K7(hA:A.handled=none)(hl:s.heap.get? l=some { cls:=.type "list",data:=.seq kR n })(h:∀h' tk,(∀b o,s.heap.get? b=some o->h'.get? b=some o)->Q none { s with heap:=h',toks:=tk }):wpAny (model prog w) A (getAttr? (.ref l) "keys") Q E s:=by
 obtain⟨hp,g,d,tk,os⟩:=s;have hT:∀tk,(⟨hp,g,d,tk,os⟩:Shared).TypeIs (.ref l) "list":=fun _=>⟨_,hl,rfl⟩
 have f1:=sub_AttributeError;have f3:=F.slot_list_getattribute.lookup;have f4:=F.slot_list_getattribute.bind (.ref l);have f5:=oO;unfold getAttr? getAttrBy?;refine aI (wpAny_mkText ?_);refine aI (uh ?_);unfold getAttrBy;repeat (any_goals (first|assumption|((with_reducible show wpAny _ _ (call (Value.builtin "list.__getattribute__") _ _) _ _ _);refine lE F.slot_list_getattribute (hT _) F.entry_list_ga (F.args_list_getattribute_2 _ _) (qz l _ kR n) ⟨hl,hA,fun h' tk' e hx=>?_⟩)|wp_step))
 obtain⟨t',u',he⟩:=hx.there;show wpAny _ _ (getattributeRaised _ _ _ _ _ _ _) _ _ _;unfold getattributeRaised;repeat (any_goals (first|assumption|wp_step))
 exact h _ _ hx.keeps
theorem oB:entryFor table "dict.update.loop"=some Builtin.«dict.update.loop»:=entryFor_of_tree (by kernel_rfl)
theorem g_:plainId "dict.update.loop"=true:=by decide +kernel
def lQ(P:Program)(w:World)(h:Heap)(vs:List Value)(ps:List (dq×Value)):Prop:=vs.length=ps.length/\∀ (i:Nat) (v:Value),vs[i]?=some v->∃ (a:Addr) (o:Obj) (n:Nat) (key:Value) (k:dq) (x:Value),v=Value.ref a/\h.get? a=some o/\o.cls=.type "tuple"/\o.data=.seq #[key,x] n/\(bu P w).is k key=true/\ps[i]?=some (k,x)
theorem lQ.keeps{P:Program}{w:World}{h h':Heap}{vs:List Value}{ps:List (dq×Value)}(x:lQ P w h vs ps)(k:∀b o,(∃xs n,o.data=.seq xs n)->h.get? b=some o->h'.get? b=some o):lQ P w h' vs ps:=
 ⟨x.1,fun i v hv=>let ⟨a,o,n,key,kk,y,e1,e2,e3,e4,e5,e6⟩:=x.2 i v hv;⟨a,o,n,key,kk,y,e1,k a o ⟨_,_,e4⟩ e2,e3,e4,e5,e6⟩⟩
section
variable {prog:Program} {w:World} {A:Around} {E:Value->Shared->Prop} {s:Shared} {R:Result->Shared->Prop} {l d Ia:Addr}
theorem BQ{vs:List Value}{ps:List (dq×Value)}(hh:A.handled=none)(hlD:l≠d)(Uk:l≠Ia)(UQ:d≠Ia):
  ∀ (k i:Nat) (j:Int) (t:Tok) (s:Shared) (kvs:List (dq×Value)),vs.length-i=k->i<=vs.length->s.heap.IsListIter Ia l i->s.heap.IsList l vs.toArray->lQ prog w s.heap vs ps->s.heap.DictOf (bu prog w) d kvs->kvs.length+k<=4096->
   (∀h' tk,(∀b o,b≠d->b≠Ia->s.heap.get? b=some o->h'.get? b=some o)->h'.DictOf (bu prog w) d ((ps.drop i).foldl (fun m p=>stored m p.1 p.2) kvs)->R (.ok (.ret .none)) { s with heap:=h',toks:=tk })->
   codeAny (model prog w) A (.builtin "dict.update.loop" ⟨[.ref d,.ref Ia,.int j t,.none],[]⟩) R s:=by
 intro k;induction k with
 |zero=>
  intro i j t s kvs hk hi rh hl hp hD hz hR;refine lu oB ?_;rw[pO g_ _];show wpAny _ A.in1 (pyNext (.ref Ia) >>= _) _ _ s;refine aI (xU (show A.in1.handled=none from hh) rh hl (by simp;lia) fun h' eb=>?_);have hd:ps.drop i=[]:=by rw[List.drop_eq_nil_iff];have:=hp.1;lia
  have XZ:=hR h' s.toks (fun b o hb Gr e=>eb b o Gr e);rw[hd] at XZ;refine aI (wpAny_pure (wpAny_pure (XZ ?_)));obtain⟨o,es,ep,q1,q2⟩:=hD;exact⟨o,es,ep,eb d o UQ q1,q2⟩
 |succ k ih=>
  intro i j t s kvs hk hi rh hl hp hD hz hR;have eB:i<vs.length:=by lia
  refine lu oB ?_;rw[pO g_ _];show wpAny _ A.in1 (pyNext (.ref Ia) >>= _) _ _ s;have hv:vs[i]?=some vs[i]:=cm eB;refine aI (xP rh hl (x:=vs[i]) (by simpa using hv) fun h1 KP z8=>?_);obtain⟨a,o,n,key,kk,x,ea,eo,ec,ed,ek,ep⟩:=hp.2 i _ hv;rw[ea];have OJ:∀b ob,(∃xs n,ob.data=.seq xs n)->s.heap.get? b=some ob->b≠Ia:=fun b ob ⟨xs,m,z⟩ e z'=>by
   obtain⟨oi,e1,_,d1⟩:=rh;rw[z',e1] at e;cases e;rw[d1] at z;cases z
  have OL:lQ prog w h1 vs ps:=hp.keeps fun b ob hb e=>(z8.2 b (OJ b ob hb e)).trans e;have K8:h1.DictOf (bu prog w) d kvs:=hD.sameBut z8 UQ;have Gs:h1.IsList l vs.toArray:=by
   obtain⟨ol,q1,q2⟩:=hl;exact⟨ol,(z8.2 l Uk).trans q1,q2⟩
  have OM:h1.get? a=some o:=(z8.2 a (OJ a o ⟨_,_,ed⟩ eo)).trans eo;have neD:∀b ob,(∃xs n,ob.data=.seq xs n)->h1.get? b=some ob->b≠d:=fun b ob ⟨xs,m,z⟩ e z'=>by
   obtain⟨oS,es,Kh,q1,_,q4,_⟩:=K8;rw[z',q1] at e;cases e;rw[q4] at z;cases z
  have hT:Shared.TypeIs { s with heap:=h1 } (.ref a) "tuple":=⟨o,OM,ec⟩
  refine aI (jw ?_);show wpAny _ A.in1 (Sem.tryCatch (Builtin.Dict.pairItems (.ref a)) _ >>= _) _ _ _;refine aI (wpAny_tryCatch ?_);unfold Builtin.Dict.pairItems;refine aI (wpAny_typeOf hT ?_);rw[ao (by decide)];refine aI (ue OM ed (wpAny_pure ?_));show wpAny _ A.in1 (holding [key,x] (dictSet d key x)) _ _ _;refine jw (wpAny_dictSet_pairs (s:={ s with heap:=h1 }) ek K8 (fun h2 l0 Di=>?_) (br (by lia:kvs.length<=4096) (by decide)));refine wpAny_pure ⟨plainId_quiet g_ _,?_⟩;have Bt:i<ps.length:=by have:=hp.1;lia
  have Um:ps.drop i=(kk,x)::ps.drop (i+1):=by
   rw[tw Bt];have:ps[i]?=some ps[i]:=cm Bt;rw[this] at ep;rw[aY ep]
  have dZ:(stored kvs kk x).length<=kvs.length+1:=by
   unfold stored;split
   .rw[aN];lia
   .rw[cr];simp
  refine ih (i+1) _ _ { s with heap:=h2,toks:=s.toks+1 } (stored kvs kk x) (by lia) eB ?_ ?_ (OL.keeps fun b ob hb e=>(Di.2 b (neD b ob hb e)).trans e) l0 (by lia) fun h3 Uo k3 D3=>?_
  .obtain⟨oi,q1,q2⟩:=KP;exact⟨oi,(Di.2 Ia (Ne.symm UQ)).trans q1,q2⟩
  .obtain⟨ol,q1,q2⟩:=Gs;exact⟨ol,(Di.2 l hlD).trans q1,q2⟩
  .refine hR h3 Uo (fun b ob hb Gr e=>k3 b ob hb Gr ((Di.2 b hb).trans ((z8.2 b Gr).trans e))) ?_;rw[Um];exact D3
end
section
variable {prog:Program} {w:World} {A:Around} {E:Value->Shared->Prop} {s:Shared} {l:Addr}
theorem BR{vs:List Value}{n:Nat}{ps:List (dq×Value)}{Q:Value->Shared->Prop}(hh:A.handled=none)(hl:s.heap.get? l=some { cls:=.type "list",data:=.seq vs.toArray n })(hp:lQ prog w s.heap vs ps)(hz:vs.length<=4096)(h:∀h' tk,h'.DictOf (bu prog w) s.heap.objs.size (ps.foldl (fun m p=>stored m p.1 p.2) [])->(∀b o,s.heap.get? b=some o->h'.get? b=some o)->Q (.ref s.heap.objs.size) { s with heap:=h',toks:=tk }):
  wpAny (model prog w) A (call (.type "dict") [.ref l]) Q E s:=by
 refine callType_codes (Q₁:=fun obj s₁=>obj=.ref s.heap.objs.size/\s₁={ s with heap:=s.heap.push { cls:=.type "dict",data:=.dict #[] } }) F.kt_called_dict (F.kt_typeCall_dict_1 _) F.entry_dict_init (kt_code_dict_new _ ⟨rfl,rfl⟩) ?_;rintro obj s₁ ⟨rfl,rfl⟩;have nE:(s.heap.push { cls:=.type "dict",data:=.dict #[] }).DictOf (bu prog w) s.heap.objs.size []:=Heap.DictOf.new s.heap;have hsz:(s.heap.push { cls:=.type "dict",data:=.dict #[] }).objs.size=s.heap.objs.size+1:=iK ..;have up:∀b o,s.heap.get? b=some o->(s.heap.push { cls:=.type "dict",data:=.dict #[] }).get? b=some o:=fun b o e=>cq _ e;have eB:l<s.heap.objs.size:=aX hl;refine⟨nE.typeIs,F.args_dict_init_2 _ _,?_⟩;generalize (s.heap.push { cls:=.type "dict",data:=.dict #[] })=hD at *;have hT:Shared.TypeIs { s with heap:=hD } (.ref l) "list":=⟨_,up _ _ hl,rfl⟩
 unfold Builtin.«dict.__init__»;refine aI ?_;unfold Builtin.Dict.selfAndRest;refine aI (wpAny_notOrdered_dict nE.typeIs (wpAny_pure ?_));show wpAny _ _ (Builtin.Dict.updateFrom "dict.__init__" s.heap.objs.size (.ref l) [] .none) _ _ _;unfold Builtin.Dict.updateFrom;refine aI (wpAny_typeOf hT ?_);rw[ao (by decide)];refine aI (K7 (s:={ s with heap:=hD }) (show A.in1.handled=none from hh) (up _ _ hl) fun h1 tk1 k1=>?_);have Gs:h1.get? l=some { cls:=.type "list",data:=.seq vs.toArray n }:=k1 _ _ (up _ _ hl);have UR:h1.IsList l vs.toArray:=⟨_,Gs,rfl,n,rfl⟩
 rw[ao (by rfl)];refine aI (iN ?_);refine aI (pT (s:={ s with heap:=h1,toks:=tk1 }) UR ?_);have US:s.heap.objs.size<h1.objs.size:=by
  obtain⟨o,es,ep,q1,q2⟩:=nE;exact aX (k1 _ _ q1)
 refine wpAny_pure ⟨plainId_quiet g_ _,?_⟩;refine BQ (l:=l) (vs:=vs) (ps:=ps) (Ia:=h1.objs.size) (show A.in1.handled=none from hh) (aW eB) (aW (pX eB US)) (aW US) vs.length 0 0 0 _ [] (by simp) (dg _) ⟨_,cW _ rfl,rfl,rfl⟩ ?_ ?_ ?_ (by simpa using hz) fun h2 tk2 k2 D2=>?_
 .exact⟨_,cq _ Gs,rfl,n,rfl⟩
 .exact hp.keeps fun b o _ e=>cq _ (k1 _ _ (up _ _ e))
 .obtain⟨o,es,ep,q1,q2⟩:=nE;exact⟨o,es,ep,cq _ (k1 _ _ q1),q2⟩
 .refine⟨rfl,h h2 tk2 D2 fun b o e=>k2 b o (aW (aX e)) (aW (pX (aX e) US)) (cq _ (k1 _ _ (up _ _ e)))⟩
end
def iX(m:List (dq×V))(ps:List (dq×V)):List (dq×V):=ps.foldl (fun m p=>fT m p.1 p.2) m
theorem KV.fold:∀ {ps:List (dq×V)} {us:List (dq×Value)} {m:List (dq×V)} {m':List (dq×Value)},KV ps us->KV m m'->KV (iX m ps) (us.foldl (fun m p=>stored m p.1 p.2) m')
 |[],_,_,_,.nil,r=>r
 |(k,v)::ps,_,m,m',.cons (b:=(k',u)) q rr,r=>by
  obtain⟨rfl,qv⟩:k=k'/\bf v u:=q;rename_i us;have:=KV.fold (ps:=ps) (us:=us) rr (r.put k qv);exact this
theorem qA:∀ (ps m:List (dq×V)),(iX m ps).length<=m.length+ps.length
 |[],m=>by show m.length<=_;simp
 |p::ps,m=>by
  have h1:=qA ps (fT m p.1 p.2);have h2:=g9 m p.1 p.2;show (iX (fT m p.1 p.2) ps).length<=_;rw[cw];lia
theorem Ao{P:Program}{w:World}{H:Hp}{h:Heap}(ok:iP P w H h):∀ (ts:List Addr) (ps:List (dq×V)),ts.length=ps.length->(∀i,i<ps.length->∃k v,ps[i]?=some (k,v)/\H (ts.getD i 0)=some (.tup [kV k,v]))->
  ∃us:List (dq×Value),KV ps us/\lQ P w h (ts.map Value.ref) us
 |[],[],_,_=>⟨[],.nil,rfl,fun i v hv=>by simp at hv⟩
 |[],_::_,e,_=>by simp at e
 |_::_,[],e,_=>by simp at e
 |t::ts,(k,v)::ps,e,hs=>by
  obtain⟨us,r,T⟩:=Ao ok ts ps (by simpa using e) fun i hi=>by
   obtain⟨k',v',h1,h2⟩:=hs (i+1) (by simp;lia);exact⟨k',v',by simpa using h1,by simpa using h2⟩
  obtain⟨k0,v0,g1,g2⟩:=hs 0 (by simp);have g1':(k,v)=(k0,v0):=by simpa using g1
  cases g1';have g2':H t=some (.tup [kV k,v]):=by simpa using g2
  obtain⟨_,its,rv,o,q1,q2,n,q3⟩:=ok t _ g2';cases rv with
  |cons ra rr=>
   cases rr with
   |cons rb rr2=>
    cases rr2;rename_i ka vb;refine⟨(k,vb)::us,.cons ⟨rfl,rb⟩ r,by simp[T.1],fun i x hx=>?_⟩;cases i with
    |zero=>
     have sA:Value.ref t=x:=by simpa using hx
     exact⟨t,o,n,ka,k,vb,sA.symm,q1,q2,q3.1,sG ra,rfl⟩
    |succ i=>exact T.2 i x (by simpa using hx)
section
variable {X:Cx}
def K9:List V->Hp->VK->Prop:=fun xs H Q=>∃ (l:Addr) (ts:List Addr) (ps:List (dq×V)),xs=[.ref l]/\H l=some (.lst (ts.map V.ref))/\ts.length=ps.length/\(∀i,i<ps.length->∃k v,ps[i]?=some (k,v)/\H (ts.getD i 0)=some (.tup [kV k,v]))/\ps.length<=4096/\
 ∀D,H D=none->Q (.ref D) (upd H D (.dK (iX [] ps)))
theorem y3(hc:X.calm=true):eO X (.type "dict") K9:=by
 intro ae s σ H xs us Q I r h;obtain⟨l,ts,ps,rfl,hl,dZ,ht,hz,q⟩:=h;obtain⟨u1,rfl,r1⟩:=r.one;obtain rfl:u1=Value.ref l:=r1;obtain⟨z,its,n,rv,_,e⟩:=I.vW hl;have yU:its=ts.map Value.ref:=uO rv;subst yU;obtain⟨vs,kv,T⟩:=Ao I.bC ts ps dZ ht;refine BR (I.ok.hd hc) e T (by rw[aN,dZ];exact hz) fun h' tk D k=>?_;have hs:sysModules<s.heap.objs.size:=pX (by decide:sysModules<mainGlobals) (I.mod.glob.keeps I.bk).lt;have I2:aK X ae σ (upd H s.heap.objs.size (.dK (iX [] ps))) { s with heap:=h',toks:=tk }:=by
  refine I.wa (t':=tk) k (lf (aZ _)) ⟨?_,?_,_,KV.fold kv .nil,D⟩
  .have:=qA ps [];exact br this (br (by simpa using hz) (by decide:4096<=sizeLine))
  .rw[kO];exact jC hs
 exact⟨.ref s.heap.objs.size,_,I2,rfl,q _ (I.bC.fresh (aZ _))⟩
theorem qB{d:Addr}{o:Obj}{kvs:List (dq×V)}{g:TG}{tb:TS}{D:vG}{σ:St}{H:Hp}(Pv:Nat->St->Hp->Prop)(h0:Pv 0 σ H)(hl:∀i σ H,i<=kvs.length->Pv i σ H->H d=some (.iI o (.dK kvs)))(hs:∀i k v σ H,kvs[i]?=some (k,v)->Pv i σ H->g (kV k) σ H fun σ2 H2=>tb { D with nx:=Pv (i+1),ct:=Pv (i+1),bk:=D.nx } σ2 H2)(hd:∀σ H,Pv kvs.length σ H->D.nx σ H):
  ∃W:Nat->Nat->St->Hp->Prop,(∃m,W 0 m σ H)/\∀i m σ H,W i m σ H->
   ((K6 d o kvs).stop i H/\D.nx σ H)\/((K6 d o kvs).go i H/\∃N:St->Hp->Prop,(∀σ' H',N σ' H'->∃m',m'<m/\W (i+1) m' σ' H')/\∀x H',(K6 d o kvs).Jf i H x H'->g x σ H' fun σ2 H2=>tb { D with nx:=N,ct:=N,bk:=D.nx } σ2 H2):=by
 refine⟨fun i m σ H=>m=kvs.length-i/\i<=kvs.length/\Pv i σ H,⟨kvs.length,by simp,dg _,h0⟩,?_⟩;rintro i m σ H ⟨rfl,hi,p⟩;have q:=hl i σ H hi p;by_cases eB:i<kvs.length
 .refine .inr ⟨⟨q,eB⟩,Pv (i+1),fun σ' H' p'=>⟨kvs.length-(i+1),by lia,rfl,eB,p'⟩,fun x H' y=>?_⟩;obtain⟨rfl,k,v,hk,rfl⟩:=y;exact hs i k v σ _ hk p
 .have e:i=kvs.length:=by lia
  subst e;exact .inl ⟨⟨q,aZ _⟩,hd σ H p⟩
theorem BS(hc:X.calm=true):eO X (.builtin "all") (fun xs H Q=>∃ (p:Addr) (bs:List Bool),xs=[.ref p]/\aT X.K H p (bs.map V.bl)/\Q (.bl (bs.all id)) H):=by
 intro ae s σ H xs us Q I r h;obtain⟨p,bs,rfl,hp,q⟩:=h;obtain⟨u1,rfl,r1⟩:=r.one;obtain rfl:u1=Value.ref p:=r1;obtain⟨its,rv,pl,hz⟩:=I.list hp;have yU:its=bs.map Value.bool:=by
  have go:∀ (bs:List Bool) (its:List Value),aV (bs.map V.bl) its->its=bs.map Value.bool:=by
   intro bs;induction bs with
   |nil=>intro its r;cases r;rfl
   |cons b bs ih=>
    intro its r;cases r with
    |cons r rr=>
     obtain rfl:=(show _=Value.bool b from r)
     rw[ih _ rr];rfl
  exact go bs its rv
 subst yU;obtain⟨ob,Ux,_⟩:=id pl.isList;have eB:p<s.heap.objs.size:=aX Ux;refine call_all_walk (pT pl.isList ⟨s.heap.objs.size,_,_,_,_,_,fun i=>bs.getD i true,rfl,Walks.list (show X.A.in1.handled=none from I.ok.hd hc) _ p (aW eB) _,⟨⟨_,cW _ rfl,rfl,rfl⟩,pl.isList.push _⟩,fun i v s1 Q' E' hv hq=>?_,fun h' tk k=>?_⟩)
 .have yy:(bs.map Value.bool)[i]?=some v:=by simpa using hv
  rw[bo] at yy;cases eb:bs[i]? with
  |none=>rw[eb] at yy;cases yy
  |some b=>
   rw[eb] at yy;obtain rfl:Value.bool b=v:=aY yy;have:bs.getD i true=b:=by rw[bP,eb];rfl
   have F8:Q' b s1:=by rw[<-this];exact hq
   exact wpAny_pure F8
 .have keep:∀b o,s.heap.get? b=some o->h'.get? b=some o:=fun b o e=>k b o (by simpa using aW (aX e)) (cq _ e);refine⟨.bl (bs.all id),H,I.kept (t':=tk) keep,?_,q⟩;show Value.bool _=Value.bool _;congr 1;have go:∀ (bs:List Bool),((List.range bs.length).all fun i=>bs.getD i true)=bs.all id:=by
   intro bs;induction bs with
   |nil=>rfl
   |cons b bs ih=>
    rw[cw,tG,lw,List.all_map,lw,<-ih];rfl
  rw[<-go bs];simp
end
structure b_(P:Program)(w:World)(K:PySem.W.Frag)(mg:Str->Option Value)(base:Heap)(CX:vP)(k:Nat)(x:Str)(ps:List Str)(sp:Sp):Prop where
 ex:∃f fd,mg x=some (.ref f)/\PySem.W.keepIn K (.ref f)=true/\jK K fd ps []/\bv P w K mg base CX k f fd ps sp
theorem aD(C:b_ X.prog X.w X.K X.mg X.base CX k x ps sp)(hr:bW k X.A)(hx:lK CX X E)(ha:PA X (e::es) t)(hg:Gl X x:=by rfl)(Bg:(x==("__debug__":Str))=false:=by decide)(he:starEach (e::es) X.env=(false,eval e X.env)::starEach es X.env:=by rfl)(xr:(backTo pos (starEach es X.env)).any (·.1)=false:=by rfl):
  PE X (.Call (.Name x p) (e::es) [] pos) (r_ sp [] E t):=by
 obtain⟨f,fd,a,b,c,d⟩:=C.ex;exact F7 d hr hg a b c .nil hx ha Bg he xr
theorem aj(h:H D=none):aE H (upd H D o):=fun b u e=>by rw[ak (ai e h)];exact e
def ba(p:Addr)(H H':Hp):Prop:=∀b o,H b=some o->b≠p->H' b=some o
theorem ba.trans(a:ba p H H1)(b:ba p H1 H2):ba p H H2:=fun c o h n=>b c o (a c o h n) n
theorem ba.upd:ba p H (upd H p o):=fun b u h n=>by rw[ak n];exact h
theorem ba.of(s:aE H H'):ba p H H':=fun b o h _=>s b o h
theorem ba.free(s:ba p H H')(hp:H' p≠none)(h:H' q=none):H q=none:=by
 cases z:H q with
 |none=>rfl
 |some o=>
  by_cases e:q=p
  .subst e;exact absurd h hp
  .rw[s q o z e] at h;cases h
theorem j_(h:j<n):C8 n (j:Int)=some j:=by
 unfold C8;rw[ao (by lia),ao (by lia)];simp
theorem kd(h:as.length=n):(as++[t]).getD j 0=if j=n then t else as.getD j 0:=by
 rw[bP,bP];by_cases hj:j=n
 .subst hj;subst h;rw[ao rfl,n8 (aZ _),Nat.sub_self];rfl
 .rw[ap hj];by_cases eB:j<as.length
  .rw[ja eB]
  .rw[n8 (by lia),gX (by simp;lia),gX (by lia)]
def Holds(H:Hp)(as:List Addr)(n:Nat)(o:Nat->HO):Prop:=as.length=n/\∀j,j<n->H (as.getD j 0)=some (o j)
theorem Holds.nil:Holds H [] 0 o:=⟨rfl,fun j hj=>absurd hj (by lia)⟩
theorem Holds.snoc(h:Holds H as n o)(ht:H t=some (o n)):Holds H (as++[t]) (n+1) o:=by
 refine⟨by rw[cr,h.1];rfl,fun j hj=>?_⟩;rw[kd h.1];by_cases e:j=n
 .rw[ao e,e];exact ht
 .rw[ap e];exact h.2 j (by lia)
theorem Holds.mono(h:Holds H as n o)(e:∀j,j<n->H (as.getD j 0)=some (o j)->H' (as.getD j 0)=some (o j)):Holds H' as n o:=⟨h.1,fun j hj=>e j hj (h.2 j hj)⟩
end L2
namespace PyProof.Rows
open PySem
def eT:Bool->Keyed->Array Keyed->Nat->Nat->Nat->StateT SortSt Sem (Option Nat):=sortPriv% PySem.Builtin.gallop
def qC:Array Keyed->Array Keyed->StateT SortSt Sem (Array Keyed):=sortPriv% PySem.Builtin.mergeLo
def qD:Array Keyed->Array Keyed->StateT SortSt Sem (Array Keyed):=sortPriv% PySem.Builtin.mergeHi
def cU:Nat->StateT SortSt Sem Unit:=sortPriv% PySem.Builtin.setMinGallop
def uV(prog:Program)(w:World)(A:Around)(s:Shared)(κ:SortKind)(a₀:Array Keyed)(key:Keyed->Int):Prop:=
 ∀x y,x∈a₀.toList->y∈a₀.toList->∀ (Q:Bool->Shared->Prop) (E:Value->Shared->Prop),Q (decide (key x<key y)) s->wpAny (model prog w) A (keyLt' κ x.1 y.1) Q E s
structure SQ(κ:SortKind)(a₀:Array Keyed)(pd:Array (Nat×Nat×Nat))(st:SortSt):Prop where
 perm:(arrOf st).Perm a₀
 kind:kindOf st=κ
 failed:failedOf st=none
 pend:pendingOf st=pd
def kk(key:Keyed->Int)(a:Array Keyed)(i:Nat):Int:=(a[i]?.map key).getD 0
def So(key:Keyed->Int)(a:Array Keyed)(lo hi:Nat):Prop:=∀i j,lo<=i->i<=j->j<hi->kk key a i<=kk key a j
def l4(a b:Array Keyed)(lo hi:Nat):Prop:=∀k,k<lo\/hi<=k->b[k]?=a[k]?
theorem l4.refl{a:Array Keyed}{lo hi:Nat}:l4 a a lo hi:=fun _ _=>rfl
theorem l4.trans{a b c:Array Keyed}{lo hi:Nat}(x:l4 a b lo hi)(y:l4 b c lo hi):l4 a c lo hi:=fun k h=>(y k h).trans (x k h)
theorem l4.wide{a b:Array Keyed}{lo hi X0 lZ:Nat}(x:l4 a b lo hi)(h1:X0<=lo)(h2:hi<=lZ):l4 a b X0 lZ:=fun k h=>x k (by lia)
theorem cJ(h:i<a.size):kk key a i=key a[i]:=by unfold kk;rw[df a i h];rfl
theorem fU(h:a[i]?=b[j]?):kk key a i=kk key b j:=by unfold kk;rw[h]
section
variable {prog:Program} {w:World} {A:Around} {E:Value->Shared->Prop} {s:Shared} {κ:SortKind} {a₀:Array Keyed} {pd:Array (Nat×Nat×Nat)} {key:Keyed->Int}
theorem SQ.size{st:SortSt}(h:SQ κ a₀ pd st):(arrOf st).size=a₀.size:=h.perm.size_eq
theorem SQ.setArr{st:SortSt}(h:SQ κ a₀ pd st){xs:Array Keyed}(hp:xs.Perm (arrOf st)):SQ κ a₀ pd (setArr st xs):=⟨hp.trans h.perm,h.kind,h.failed,h.pend⟩
theorem SQ.at{st:SortSt}(h:SQ κ a₀ pd st){i:Nat}(hi:i<a₀.size):∃p,(arrOf st)[i]?=some p/\p∈a₀.toList:=by
 have lZ:i<(arrOf st).size:=by rw[h.size];exact hi
 exact⟨(arrOf st)[i],df _ i lZ,(kJ.mp h.perm).mem_iff.mp (by simp)⟩
theorem qE{st:SortSt}{x y:Keyed}{Q:Option Bool->SortSt->Prop}(hC:uV prog w A s κ a₀ key)(hk:kindOf st=κ)(hx:x∈a₀.toList)(hy:y∈a₀.toList)(h:Q (some (decide (key x<key y))) st):wpS (model prog w) A E s (lt' x y) Q st:=by
 rw[lt'_eq];refine av (fX ?_);rw[hk];refine av (lG (uh (hC x y hx hy _ _ ⟨rfl,?_⟩)));exact aJ h
theorem bj{st:SortSt}{arr:Array Keyed}{i:Nat}{p:Keyed}{Q:Keyed->SortSt->Prop}(hi:arr[i]?=some p)(h:Q p st):wpS (model prog w) A E s (elem' arr i) Q st:=by
 rw[elem'_eq,hi];exact aJ h
theorem mB{st:SortSt}{i j:Nat}{Q:Option Bool->SortSt->Prop}(hC:uV prog w A s κ a₀ key)(hB:SQ κ a₀ pd st)(hi:i<a₀.size)(hj:j<a₀.size)(h:∀b,b=decide (kk key (arrOf st) i<kk key (arrOf st) j)->Q (some b) st):wpS (model prog w) A E s (ltAt' i j) Q st:=by
 obtain⟨p,e1,m1⟩:=hB.at hi;obtain⟨q,e2,m2⟩:=hB.at hj;rw[ltAt'_eq];refine av (fX ?_);refine av (bj e1 (av (bj e2 (qE hC hB.kind m1 m2 (h _ ?_)))));unfold kk;rw[e1,e2];rfl
theorem o8{st:SortSt}{i j:Nat}{Q:Unit->SortSt->Prop}(hB:SQ κ a₀ pd st)(hj:j<=a₀.size)(h:∀aS,SQ κ a₀ pd aS->(∀k,(arrOf aS)[k]?=if i<=k/\k<j then (arrOf st)[i+j-1-k]? else (arrOf st)[k]?)->Q () aS):wpS (model prog w) A E s (reverseSlice' i j) Q st:=by
 rw[reverseSlice'_eq];exact fz (h _ (hB.setArr (mirror_perm _ _ _ _)) (getElem?_mirror_all (by rw[hB.size];exact hj)))
theorem DK{st:SortSt}{i j:Nat}{Q:Unit->SortSt->Prop}(hB:SQ κ a₀ pd st)(hi:i<a₀.size)(hj:j<=i)(h:∀aS,SQ κ a₀ pd aS->(∀k,(arrOf aS)[k]?=if k=j then (arrOf st)[i]? else if j<k/\k<=i then (arrOf st)[k-1]? else (arrOf st)[k]?)->Q () aS):wpS (model prog w) A E s (moveDown' i j) Q st:=by
 rw[moveDown'_eq];refine fz (h _ (hB.setArr (bubble_perm _ _ _)) fun k=>?_);have:=getElem?_bubble (xs:=arrOf st) (src:=i) (by rw[hB.size];exact hi) (i-j) (by lia) k;rw[show i-(i-j)=j by lia] at this;exact this
theorem GQ{st:SortSt}{lo n ok:Nat}{Q:Bool->SortSt->Prop}(hC:uV prog w A s κ a₀ key)(hn:lo+n<=a₀.size)(bC:ok<=n)(hB:SQ κ a₀ pd st)(hs:So key (arrOf st) lo (lo+ok))(h:∀aS,SQ κ a₀ pd aS->So key (arrOf aS) lo (lo+n)->l4 (arrOf st) (arrOf aS) lo (lo+n)->Q true aS):wpS (model prog w) A E s (binarySort' lo n ok) Q st:=by
 rw[binarySort'_eq];refine av (dA (fO (I:=fun k c aS=>c=(none,())/\SQ κ a₀ pd aS/\So key (arrOf aS) lo (lo+k)/\l4 (arrOf st) (arrOf aS) lo (lo+n)) (Q:=fun c aS=>c=(none,())/\SQ κ a₀ pd aS/\So key (arrOf aS) lo (lo+n)/\l4 (arrOf st) (arrOf aS) lo (lo+n)) ?_ (fun c aS hh=>⟨hh.1,hh.2.1,fun i j h1 h2 h3=>hh.2.2.1 i j h1 h2 (by lia),hh.2.2.2⟩) ⟨rfl,hB,fun i j h1 h2 h3=>?_,l4.refl⟩) ?_)
 .rintro k c aS BP K_ ⟨rfl,R8,so,ou⟩;dsimp only;refine av (dA (fO (I:=fun x c La=>(∃l r,c=(none,l,r)/\l<=r/\r<=k/\r<=l+(k-x)/\(∀i,i<l->kk key (arrOf aS) (lo+i)<=kk key (arrOf aS) (lo+k))/\(∀i,r<=i->i<k->kk key (arrOf aS) (lo+k)<=kk key (arrOf aS) (lo+i)))/\La=aS) (Q:=fun c La=>(∃l r,c=(none,l,r)/\l<=k/\(∀i,i<l->kk key (arrOf aS) (lo+i)<=kk key (arrOf aS) (lo+k))/\(∀i,l<=i->i<k->kk key (arrOf aS) (lo+k)<=kk key (arrOf aS) (lo+i)))/\La=aS) ?_ ?_ ⟨⟨_,_,rfl,dg _,aZ _,by lia,fun i h=>by lia,fun i h h'=>by lia⟩,rfl⟩) ?_)
  .rintro x c gU _ hx ⟨⟨l,r,rfl,UT,hr,hrl,f1,f2⟩,rfl⟩;dsimp only;by_cases Ap:l>=r
   .rw[ao Ap];exact aJ ⟨⟨_,_,rfl,by lia,f1,fun i hi lZ=>f2 i (by lia) lZ⟩,rfl⟩
   .rw[ap Ap];refine av (mB hC R8 (by lia) (by lia) fun b eb=>?_);cases b
    .have e:=l5 eb.symm;refine aJ ⟨⟨_,_,rfl,by lia,hr,by lia,fun i hi=>?_,f2⟩,rfl⟩;have:=so (lo+i) (lo+(l+r) / 2) (by lia) (by lia) (by lia);lia
    .have e:=bV eb.symm;refine aJ ⟨⟨_,_,rfl,by lia,by lia,by lia,f1,fun i hi lZ=>?_⟩,rfl⟩;have:=so (lo+(l+r) / 2) (lo+i) (by lia) (by lia) (by lia);lia
  .rintro c gU ⟨⟨l,r,rfl,UT,hr,hrl,f1,f2⟩,rfl⟩;exact⟨⟨_,_,rfl,by lia,f1,fun i hi lZ=>f2 i (by lia) lZ⟩,rfl⟩
  .rintro c gU ⟨⟨l,r,rfl,hl,f1,f2⟩,rfl⟩;dsimp only;refine av (DK R8 (by lia) (by lia) fun uv BU hg=>aJ ⟨rfl,BU,fun i j h1 h2 h3=>?_,fun q hq=>?_⟩)
   .have gi:=hg i;have gj:=hg j;have ei:kk key (arrOf uv) i=if i=lo+l then kk key (arrOf gU) (lo+k) else if lo+l<i/\i<=lo+k then kk key (arrOf gU) (i-1) else kk key (arrOf gU) i:=by
     unfold kk;rw[gi];split
     .rfl
     .split <;> rfl
    have ej:kk key (arrOf uv) j=if j=lo+l then kk key (arrOf gU) (lo+k) else if lo+l<j/\j<=lo+k then kk key (arrOf gU) (j-1) else kk key (arrOf gU) j:=by
     unfold kk;rw[gj];split
     .rfl
     .split <;> rfl
    rw[ei,ej];by_cases c1:i=lo+l
    .rw[ao c1];by_cases c2:j=lo+l
     .rw[ao c2];lia
     .rw[ap c2,ao (by lia)];have:=f2 (j-1-lo) (by lia) (by lia);rw[show lo+(j-1-lo)=j-1 by lia] at this;exact this
    .rw[ap c1];by_cases c3:lo+l<i/\i<=lo+k
     .rw[ao c3,ap (by lia),ao (by lia)];exact so _ _ (by lia) (by lia) (by lia)
     .rw[ap c3];by_cases c2:j=lo+l
      .rw[ao c2];have:=f1 (i-lo) (by lia);rw[show lo+(i-lo)=i by lia] at this;exact this
      .rw[ap c2];by_cases c4:lo+l<j/\j<=lo+k
       .rw[ao c4];exact so _ _ (by lia) (by lia) (by lia)
       .rw[ap c4];exact so _ _ (by lia) (by lia) (by lia)
   .rw[hg q,ap (by lia),ap (by lia)];exact ou q hq
 .by_cases ho:ok=0
  .have:i=j:=by subst ho;have:max 0 1=1:=rfl;lia
   rw[this];exact lD _
  .exact hs i j h1 h2 (by (have:max ok 1=ok:=by lia);lia)
 .rintro c aS ⟨rfl,R8,so,ou⟩;exact aJ (h aS R8 so ou)
end
def Lb(lo cA n:Nat):StateT SortSt Sem (Option Nat):=do
 reverseSlice' lo (lo+n)
 let mut n:=n
 for _ in [n:cA] do
  let some iY <- ltAt' (lo+n) (lo+n-1)|return none
  if iY then break
  n:=n+1
 return some n
def Lc(lo cA n:Nat):StateT SortSt Sem (Option Nat):=do
 rule "list.sort.descending-run"
 let mut n:=n+1
 let mut neq:=0
 for _ in [n:cA] do
  let some iY <- ltAt' (lo+n) (lo+n-1)|return none
  if iY then
   if neq > 0 then reverseSlice' (lo+n-(neq+1)) (lo+n)
   neq:=0
  else
   let some Ld <- ltAt' (lo+n-1) (lo+n)|return none
   if Ld then break
   neq:=neq+1
  n:=n+1
 if neq > 0 then reverseSlice' (lo+n-(neq+1)) (lo+n)
 Lb lo cA n
theorem rH(lo cA:Nat):countRun' lo cA=(do
 let mut n:=1
 for _ in [1:cA] do
  let some iY <- ltAt' (lo+n) (lo+n-1)|return none
  if iY then break
  n:=n+1
 if n==cA then return some n
 if n > 1 then
  let some UU <- ltAt' lo (lo+n-1)|return none
  if UU then return some n
  reverseSlice' lo (lo+n)
 Lc lo cA n):=rfl
section
variable {prog:Program} {w:World} {A:Around} {E:Value->Shared->Prop} {s:Shared} {κ:SortKind} {a₀:Array Keyed} {pd:Array (Nat×Nat×Nat)} {key:Keyed->Int} {ar:Array Keyed}
def De(key:Keyed->Int)(a:Array Keyed)(lo hi:Nat):Prop:=∀i j,lo<=i->i<=j->j<hi->kk key a j<=kk key a i
theorem y4(h:∀k,b[k]?=if i<=k/\k<j then a[i+j-1-k]? else a[k]?)(k:Nat):kk key b k=if i<=k/\k<j then kk key a (i+j-1-k) else kk key a k:=by
 unfold kk;rw[h k];split <;> rfl
theorem qF(h:∀k,b[k]?=if i<=k/\k<j then a[i+j-1-k]? else a[k]?)(e:∀k,i<=k->k<j->kk key a k=kk key a (j-1))(k:Nat):kk key b k=kk key a k:=by
 rw[y4 h];split
 .rename_i c;rw[e _ (by lia) (by lia),e k c.1 c.2]
 .rfl
theorem o9{a b:Array Keyed}{i j lo hi:Nat}(h:∀k,b[k]?=if i<=k/\k<j then a[i+j-1-k]? else a[k]?)(h1:lo<=i)(h2:j<=hi):l4 a b lo hi:=fun k hk=>by rw[h k,ap (by lia)]
theorem Aq{st:SortSt}{lo cA n:Nat}{Q:Option (Option Nat)×Nat->SortSt->Prop}(hC:uV prog w A s κ a₀ key)(hn:lo+cA<=a₀.size)(h1:1<=n)(h2:n<=cA)(hB:SQ κ a₀ pd st)(so:So key (arrOf st) lo (lo+n))(h:∀m,n<=m->m<=cA->So key (arrOf st) lo (lo+m)->(m=cA\/kk key (arrOf st) (lo+m)<kk key (arrOf st) (lo+m-1))->Q (none,m) st):
  wpS (model prog w) A E s (forIn [n:cA] ((none:Option (Option Nat)),n) fun _ r=>do
   let some iY <- ltAt' (lo+r.2) (lo+r.2-1)|pure (ForInStep.done (some none,r.2))
   if iY then pure (ForInStep.done (none,r.2)) else pure (ForInStep.yield (none,r.2+1))) Q st:=by
 refine dA (fO (I:=fun i c aS=>aS=st/\c=(none,i)/\So key (arrOf st) lo (lo+i)) (Q:=fun c aS=>aS=st/\∃m,c=(none,m)/\n<=m/\m<=cA/\So key (arrOf st) lo (lo+m)/\(m=cA\/kk key (arrOf st) (lo+m)<kk key (arrOf st) (lo+m-1))) ?_ ?_ ⟨rfl,rfl,so⟩) ?_
 .rintro i c Cq hi1 Bt ⟨rfl,rfl,Jw⟩;dsimp only;refine av (mB hC hB (by lia) (by lia) fun b eb=>?_);cases b
  .have e:=l5 eb.symm;refine aJ ⟨rfl,rfl,fun x y hx FG hy=>?_⟩;by_cases c1:y<lo+i
   .exact Jw x y hx FG c1
   .have:y=lo+i:=by lia
    subst this;by_cases c2:x=lo+i
    .rw[c2];lia
    .have:=Jw x (lo+i-1) hx (by lia) (by lia);lia
  .exact aJ ⟨rfl,_,rfl,by lia,by lia,Jw,.inr (bV eb.symm)⟩
 .rintro c Cq ⟨rfl,rfl,Jw⟩;have:max n cA=cA:=by lia
  rw[this] at Jw |-;exact⟨rfl,_,rfl,by lia,by lia,Jw,.inl rfl⟩
 .rintro c Cq ⟨rfl,m,rfl,m1,m2,Jw,e⟩;exact h m m1 m2 Jw e
theorem Ar{st:SortSt}{lo cA n:Nat}{Q:Option Nat->SortSt->Prop}(hC:uV prog w A s κ a₀ key)(hn:lo+cA<=a₀.size)(h1:1<=n)(h2:n<=cA)(hB:SQ κ a₀ pd st)(de:De key (arrOf st) lo (lo+n))(ou:l4 ar (arrOf st) lo (lo+cA))(h:∀n aS,SQ κ a₀ pd aS->1<=n->n<=cA->So key (arrOf aS) lo (lo+n)->l4 ar (arrOf aS) lo (lo+cA)->Q (some n) aS):wpS (model prog w) A E s (Lb lo cA n) Q st:=by
 unfold Lb;refine av (o8 hB (by lia) fun gU y6 hg=>?_);refine av (Aq hC hn h1 h2 y6 (fun i j hi GS hj=>?_) fun m m1 m2 so _=>?_)
 .rw[y4 hg,y4 hg,ao (by lia),ao (by lia)];exact de _ _ (by lia) (by lia) (by lia)
 .exact aJ (h m gU y6 (by lia) m2 so (ou.trans (o9 hg (by lia) (by lia))))
theorem As{st:SortSt}{lo cA n:Nat}{Q:Option Nat->SortSt->Prop}(hC:uV prog w A s κ a₀ key)(hn:lo+cA<=a₀.size)(h1:1<=n)(h2:n<cA)(hB:SQ κ a₀ pd st)(de:De key (arrOf st) lo (lo+(n+1)))(ou:l4 ar (arrOf st) lo (lo+cA))(h:∀n aS,SQ κ a₀ pd aS->1<=n->n<=cA->So key (arrOf aS) lo (lo+n)->l4 ar (arrOf aS) lo (lo+cA)->Q (some n) aS):wpS (model prog w) A E s (Lc lo cA n) Q st:=by
 unfold Lc;refine av (lG (iN ⟨rfl,?_⟩));dsimp only;refine av (dA (fO (I:=fun i c aS=>SQ κ a₀ pd aS/\De key (arrOf aS) lo (lo+i)/\l4 ar (arrOf aS) lo (lo+cA)/\∃q,c=(none,i,q)/\q+1<=i/\∀k,lo+i-(q+1)<=k->k<lo+i->kk key (arrOf aS) k=kk key (arrOf aS) (lo+i-1)) (Q:=fun c aS=>SQ κ a₀ pd aS/\l4 ar (arrOf aS) lo (lo+cA)/\∃i q,c=(none,i,q)/\De key (arrOf aS) lo (lo+i)/\1<=i/\i<=cA/\q+1<=i/\∀k,lo+i-(q+1)<=k->k<lo+i->kk key (arrOf aS) k=kk key (arrOf aS) (lo+i-1)) ?_ ?_ ⟨hB,de,ou,_,rfl,by lia,fun k BP K_=>by rw[show k=lo+(n+1)-1 by lia]⟩) ?_)
 .rintro i c uv hi1 Bt ⟨BU,GU,DL,q,rfl,hq,eq⟩;dsimp only;have step:∀aS,(∀k,kk key (arrOf aS) k=kk key (arrOf uv) k)->kk key (arrOf uv) (lo+i)<=kk key (arrOf uv) (lo+i-1)->De key (arrOf aS) lo (lo+(i+1)):=by
   intro aS e eB x y hx FG hy;rw[e,e];by_cases c1:y<lo+i
   .exact GU x y hx FG c1
   .have:y=lo+i:=by lia
    subst this;by_cases c2:x=lo+i
    .rw[c2];lia
    .have:=GU x (lo+i-1) hx (by lia) (by lia);lia
  refine av (mB hC BU (by lia) (by lia) fun b3 e3=>?_);cases b3
  .have e3':=l5 e3.symm;dsimp only;rw[ap (by decide)];refine av (mB hC BU (by lia) (by lia) fun b4 e4=>?_);cases b4
   .have e4':=l5 e4.symm;refine aJ ⟨BU,step uv (fun _=>rfl) (by lia),DL,_,rfl,by lia,fun k BP K_=>?_⟩;rw[show lo+(i+1)-1=lo+i by lia];by_cases c1:k=lo+i
    .rw[c1]
    .have:=eq k (by lia) (by lia);lia
   .exact aJ ⟨BU,DL,_,_,rfl,GU,by lia,by lia,hq,eq⟩
  .have e3':=bV e3.symm;dsimp only;rw[ao rfl];split
   .refine av (o8 BU (by lia) fun rm No hg=>aJ ⟨No,step rm (qF hg eq) (by lia),DL.trans (o9 hg (by lia) (by lia)),_,rfl,by lia,fun k BP K_=>by rw[show k=lo+(i+1)-1 by lia]⟩)
   .exact aJ ⟨BU,step uv (fun _=>rfl) (by lia),DL,_,rfl,by lia,fun k BP K_=>by rw[show k=lo+(i+1)-1 by lia]⟩
 .rintro c uv ⟨BU,GU,DL,q,rfl,hq,eq⟩;have:max (n+1) cA=cA:=by lia
  rw[this] at GU hq eq |-;exact⟨BU,DL,_,_,rfl,GU,by lia,by lia,hq,eq⟩
 .rintro c uv ⟨BU,DL,i,q,rfl,GU,i1,i2,hq,eq⟩;dsimp only;split
  .refine av (o8 BU (by lia) fun rm No hg=>?_);refine Ar hC hn i1 i2 No (fun x y hx FG hy=>?_) (DL.trans (o9 hg (by lia) (by lia))) h;rw[qF hg eq,qF hg eq];exact GU x y hx FG hy
  .exact Ar hC hn i1 i2 BU GU DL h
theorem BV{st:SortSt}{lo cA:Nat}{Q:Option Nat->SortSt->Prop}(hC:uV prog w A s κ a₀ key)(hn:lo+cA<=a₀.size)(h1:1<=cA)(hB:SQ κ a₀ pd st)(h:∀n aS,SQ κ a₀ pd aS->1<=n->n<=cA->So key (arrOf aS) lo (lo+n)->l4 (arrOf st) (arrOf aS) lo (lo+cA)->Q (some n) aS):wpS (model prog w) A E s (countRun' lo cA) Q st:=by
 rw[rH];refine av (Aq hC hn (aZ 1) h1 hB (fun i j hi GS hj=>by rw[show i=j by lia];exact lD _) fun n n1 n2 so e=>?_);dsimp only;by_cases e1:(n==cA)=true
 .rw[ao e1];exact aJ (h n st hB n1 n2 so l4.refl)
 rw[ap e1];have g1:¬ (n=cA):=by simpa using e1
 have eB:kk key (arrOf st) (lo+n)<kk key (arrOf st) (lo+n-1):=e.resolve_left g1;by_cases e2:n > 1
 .rw[ao e2];refine av (mB hC hB (by lia) (by lia) fun b2 eb=>?_);cases b2
  .have e3:=l5 eb.symm;dsimp only;rw[ap (by decide)];have eq:∀k,lo<=k->k<lo+n->kk key (arrOf st) k=kk key (arrOf st) (lo+n-1):=fun k BP K_=>by
    have a1:=so lo k (by lia) BP K_;have a2:=so k (lo+n-1) BP (by lia) (by lia);lia
   refine av (o8 hB (by lia) fun gU y6 hg=>?_);refine As hC hn n1 (by lia) y6 (fun i j hi GS hj=>?_) (o9 hg (by lia) (by lia)) h;rw[qF hg eq,qF hg eq];by_cases c1:j<lo+n
   .rw[eq j (by lia) c1,eq i hi (by lia)];exact lD _
   .have:j=lo+n:=by lia
    subst this;by_cases c2:i=lo+n
    .rw[c2];exact lD _
    .rw[eq i hi (by lia)];lia
  .exact aJ (h n st hB n1 n2 so l4.refl)
 .rw[ap e2];have:n=1:=by lia
  subst this;refine As hC hn n1 (by lia) hB (fun i j hi GS hj=>?_) l4.refl h;by_cases c1:i=j
  .rw[c1];exact lD _
  .have:i=lo:=by lia
   have:j=lo+1:=by lia
   subst i;subst j;rw[show lo+1-1=lo by lia] at eB;lia
end
theorem y7(left:Bool)(key:Keyed)(arr:Array Keyed)(base n eG:Nat):eT left key arr base n eG=(do
 let uW (i:Nat):StateT SortSt Sem (Option Bool):=do
  let x <- elem' arr (base+i)
  if left then lt' x key else return (<-lt' key x).map (!·)
 let mut lastofs:=0
 let mut ofs:=1
 let mut lo:=0
 let mut hi:=0
 let some right <- uW eG|return none
 if right then
  let qG:=n-eG
  for _ in [0:n] do
   if ofs>=qG then break
   let some more <- uW (eG+ofs)|return none
   if !more then break
   lastofs:=ofs
   ofs:=2*ofs+1
  lo:=eG+lastofs+1
  hi:=eG+min ofs qG
 else
  let qG:=eG+1
  for _ in [0:n] do
   if ofs>=qG then break
   let some DM <- uW (eG-ofs)|return none
   if DM then break
   lastofs:=ofs
   ofs:=2*ofs+1
  lo:=eG+1-min ofs qG
  hi:=eG-lastofs
 for _ in [0:n] do
  if lo>=hi then break
  let m:=lo+(hi-lo) / 2
  let some more <- uW m|return none
  if more then lo:=m+1 else hi:=m
 return some hi):=rfl
def qH(left:Bool)(k:Int):Int:=if left then k else k+1
section
variable {prog:Program} {w:World} {A:Around} {E:Value->Shared->Prop} {s:Shared} {κ:SortKind} {a₀:Array Keyed} {pd:Array (Nat×Nat×Nat)} {key:Keyed->Int}
theorem iZ{st:SortSt}{left:Bool}{x:Keyed}{arr:Array Keyed}{j:Nat}{Q:Option Bool->SortSt->Prop}(hC:uV prog w A s κ a₀ key)(hk:kindOf st=κ)(oJ:x∈a₀.toList)(sK:∀x∈arr.toList,x∈a₀.toList)(hj:j<arr.size)(h:∀b,b=decide (kk key arr j<qH left (key x))->Q (some b) st):
  wpS (model prog w) A E s (do
  let y <- elem' arr j
  if left then lt' y x else return (<-lt' x y).map (!·)) Q st:=by
 have hm:arr[j]∈a₀.toList:=sK _ (by simp);refine av (bj (df arr j hj) ?_);cases left
 .rw[ap (by decide)];refine av (qE hC hk oJ hm (aJ (h _ ?_)));rw[cJ hj];show (!decide (key x<key arr[j]))=decide (key arr[j]<key x+1);by_cases c:key x<key arr[j]
  .rw[bK c,cE (by lia)];rfl
  .rw[cE c,bK (by lia)];rfl
 .rw[ao rfl];refine qE hC hk hm oJ (h _ ?_);rw[cJ hj];rfl
theorem wz{st:SortSt}{left:Bool}{x:Keyed}{arr:Array Keyed}{base n l u:Nat}{Q:Option Nat->SortSt->Prop}(hC:uV prog w A s κ a₀ key)(hk:kindOf st=κ)(oJ:x∈a₀.toList)(sK:∀x∈arr.toList,x∈a₀.toList)(hn:base+n<=arr.size)(so:So key arr base (base+n))(hl:l<=u)(hu:u<=n)(f1:∀i,i<l->kk key arr (base+i)<qH left (key x))(f2:∀i,u<=i->i<n->qH left (key x)<=kk key arr (base+i))(h:∀k,k<=n->(∀i,i<k->kk key arr (base+i)<qH left (key x))->(∀i,k<=i->i<n->qH left (key x)<=kk key arr (base+i))->Q (some k) st):wpS (model prog w) A E s (do
   let mut lo:=l
   let mut hi:=u
   for _ in [0:n] do
    if lo>=hi then break
    let m:=lo+(hi-lo) / 2
    let some more <- (do
     let y <- elem' arr (base+m)
     if left then lt' y x else return (<-lt' x y).map (!·))|return none
    if more then lo:=m+1 else hi:=m
   return some hi) Q st:=by
 refine av (dA (fO (I:=fun j c aS=>(∃l u,c=(none,l,u)/\l<=u/\u<=n/\u<=l+(n-j)/\(∀i,i<l->kk key arr (base+i)<qH left (key x))/\(∀i,u<=i->i<n->qH left (key x)<=kk key arr (base+i)))/\st=aS) (Q:=fun c aS=>(∃l u,c=(none,l,u)/\u<=l/\u<=n/\(∀i,i<l->kk key arr (base+i)<qH left (key x))/\(∀i,u<=i->i<n->qH left (key x)<=kk key arr (base+i)))/\st=aS) ?_ ?_ ⟨⟨_,_,rfl,hl,hu,by lia,f1,f2⟩,rfl⟩) ?_)
 .rintro j c aS _ hj ⟨⟨l,u,rfl,X7,hu,hd,f1,f2⟩,rfl⟩;dsimp only;by_cases Ap:l>=u
  .rw[ao Ap];exact aJ ⟨⟨_,_,rfl,Ap,hu,f1,f2⟩,rfl⟩
  .rw[ap Ap];refine av (iZ hC hk oJ sK (by lia) fun more e=>?_);cases more
   .have e':=l5 e.symm;refine aJ ⟨⟨_,_,rfl,by lia,by lia,by lia,f1,fun i hi lZ=>?_⟩,rfl⟩;have:=so (base+(l+(u-l) / 2)) (base+i) (by lia) (by lia) (by lia);lia
   .have e':=bV e.symm;refine aJ ⟨⟨_,_,rfl,by lia,by lia,by lia,fun i hi=>?_,f2⟩,rfl⟩;have:=so (base+i) (base+(l+(u-l) / 2)) (by lia) (by lia) (by lia);lia
 .rintro c aS ⟨⟨l,u,rfl,X7,hu,hd,f1,f2⟩,rfl⟩;exact⟨⟨_,_,rfl,by lia,hu,f1,f2⟩,rfl⟩
 .rintro c aS ⟨⟨l,u,rfl,X7,hu,f1,f2⟩,rfl⟩;exact aJ (h u hu (fun i hi=>f1 i (by lia)) f2)
theorem fE{st:SortSt}{left:Bool}{x:Keyed}{arr:Array Keyed}{base n eG:Nat}{Q:Option Nat->SortSt->Prop}(hC:uV prog w A s κ a₀ key)(hk:kindOf st=κ)(oJ:x∈a₀.toList)(sK:∀x∈arr.toList,x∈a₀.toList)(hn:base+n<=arr.size)(hh:eG<n)(so:So key arr base (base+n))(h:∀k,k<=n->(∀i,i<k->kk key arr (base+i)<qH left (key x))->(∀i,k<=i->i<n->qH left (key x)<=kk key arr (base+i))->Q (some k) st):wpS (model prog w) A E s (eT left x arr base n eG) Q st:=by
 rw[y7];refine av (iZ hC hk oJ sK (by lia) fun right er=>?_);cases right
 .have X9:=l5 er.symm;dsimp only;rw[ap (by decide)];refine av (dA (fO (I:=fun j c aS=>(∃l o,c=(none,l,o)/\l<o/\j<o/\l<=eG/\qH left (key x)<=kk key arr (base+(eG-l)))/\st=aS) (Q:=fun c aS=>(∃l o,c=(none,l,o)/\l<o/\l<=eG/\qH left (key x)<=kk key arr (base+(eG-l))/\(eG+1<=o\/kk key arr (base+(eG-o))<qH left (key x)))/\st=aS) ?_ ?_ ⟨⟨_,_,rfl,by lia,by lia,by lia,by rw[Nat.sub_zero];lia⟩,rfl⟩) ?_)
  .rintro j c aS _ _ ⟨⟨l,o,rfl,vZ,UV,hl,f⟩,rfl⟩;dsimp only;by_cases Ap:o>=eG+1
   .rw[ao Ap];exact aJ ⟨⟨_,_,rfl,vZ,hl,f,.inl Ap⟩,rfl⟩
   .rw[ap Ap];refine av (iZ hC hk oJ sK (by lia) fun DM e=>?_);cases DM
    .have e':=l5 e.symm;exact aJ ⟨⟨_,_,rfl,by lia,by lia,by lia,by lia⟩,rfl⟩
    .exact aJ ⟨⟨_,_,rfl,vZ,hl,f,.inr (bV e.symm)⟩,rfl⟩
  .rintro c aS ⟨⟨l,o,rfl,vZ,UV,hl,f⟩,rfl⟩;exact⟨⟨_,_,rfl,vZ,hl,f,.inl (by lia)⟩,rfl⟩
  .rintro c aS ⟨⟨l,o,rfl,vZ,hl,f,e⟩,rfl⟩;dsimp only;refine wz hC hk oJ sK hn so (by lia) (by lia) (fun i hi=>?_) (fun i hi lZ=>?_) h
   .rcases e with e|e
    .lia
    .by_cases c:eG+1<=o
     .lia
     .have:=so (base+i) (base+(eG-o)) (by lia) (by lia) (by lia);lia
   .have:=so (base+(eG-l)) (base+i) (by lia) (by lia) (by lia);lia
 .have X9:=bV er.symm;dsimp only;rw[ao rfl];refine av (dA (fO (I:=fun j c aS=>(∃l o,c=(none,l,o)/\l<o/\j<o/\l<n-eG/\kk key arr (base+(eG+l))<qH left (key x))/\st=aS) (Q:=fun c aS=>(∃l o,c=(none,l,o)/\l<o/\l<n-eG/\kk key arr (base+(eG+l))<qH left (key x)/\(n-eG<=o\/qH left (key x)<=kk key arr (base+(eG+o))))/\st=aS) ?_ ?_ ⟨⟨_,_,rfl,by lia,by lia,by lia,by rw[h_];exact X9⟩,rfl⟩) ?_)
  .rintro j c aS _ _ ⟨⟨l,o,rfl,vZ,UV,hl,f⟩,rfl⟩;dsimp only;by_cases Ap:o>=n-eG
   .rw[ao Ap];exact aJ ⟨⟨_,_,rfl,vZ,hl,f,.inl Ap⟩,rfl⟩
   .rw[ap Ap];refine av (iZ hC hk oJ sK (by lia) fun more e=>?_);cases more
    .have e':=l5 e.symm;exact aJ ⟨⟨_,_,rfl,vZ,hl,f,.inr (by lia)⟩,rfl⟩
    .exact aJ ⟨⟨_,_,rfl,by lia,by lia,by lia,bV e.symm⟩,rfl⟩
  .rintro c aS ⟨⟨l,o,rfl,vZ,UV,hl,f⟩,rfl⟩;exact⟨⟨_,_,rfl,vZ,hl,f,.inl (by lia)⟩,rfl⟩
  .rintro c aS ⟨⟨l,o,rfl,vZ,hl,f,e⟩,rfl⟩;dsimp only;refine wz hC hk oJ sK hn so (by lia) (by lia) (fun i hi=>?_) (fun i hi lZ=>?_) h
   .have:=so (base+i) (base+(eG+l)) (by lia) (by lia) (by lia);lia
   .rcases e with e|e
    .lia
    .by_cases c:n-eG<=o
     .lia
     .have:=so (base+(eG+o)) (base+i) (by lia) (by lia) (by lia);lia
end
theorem eC(g:Nat):cU g=modify fun s=>SortSt.mk' (kindOf s) (arrOf s) (pendingOf s) g (failedOf s):=rfl
structure SM(κ:SortKind)(ar:Array Keyed)(pd:Array (Nat×Nat×Nat))(st:SortSt):Prop where
 arr:arrOf st=ar
 kind:kindOf st=κ
 failed:failedOf st=none
 pend:pendingOf st=pd
abbrev R9:=Option (Array Keyed)×Array Keyed×Nat×Nat×Nat×Nat×Nat
abbrev lR(a b out:Array Keyed)(ia ib:Nat):=out++a.extract ia a.size++b.extract ib b.size
abbrev uX(a b out:Array Keyed)(ia ib:Nat):=out++b.extract ib b.size++a.extract ia a.size
def R_(a b out:Array Keyed)(ia ib mg ac bc:Nat):StateT SortSt Sem (ForInStep R9):=do
 let x <- elem' a ia
 if ia+1+1==a.size then pure (.done (some (uX a b (out.push x) (ia+1) ib),out.push x,ia+1,ib,mg,ac,bc))
 else if ac<7&&bc<7 then pure (.done (none,out.push x,ia+1,ib,mg,ac,bc)) else pure (.yield (none,out.push x,ia+1,ib,mg,ac,bc))
def Sa(a b out:Array Keyed)(ia ib mg ac bc:Nat):StateT SortSt Sem (ForInStep R9):=do
 let x <- elem' b ib
 if ib+1==b.size then pure (.done (some (lR a b (out.push x) ia (ib+1)),out.push x,ia,ib+1,mg,ac,bc))
 else do
  let some k <- eT true (<-elem' a ia) b (ib+1) (b.size-(ib+1)) 0|pure (.done (some (lR a b (out.push x) ia (ib+1)),out.push x,ia,ib+1,mg,ac,bc))
  if k > 0 then
   if ib+1+k==b.size then pure (.done (some (lR a b (out.push x++b.extract (ib+1) (ib+1+k)) ia (ib+1+k)),out.push x++b.extract (ib+1) (ib+1+k),ia,ib+1+k,mg,ac,k))
   else R_ a b (out.push x++b.extract (ib+1) (ib+1+k)) ia (ib+1+k) mg ac k
  else R_ a b (out.push x) ia (ib+1) mg ac k
def Sb(a b out:Array Keyed)(ia ib mg ac bc:Nat):StateT SortSt Sem (ForInStep R9):=do
 cU mg
 let some k <- eT false (<-elem' b ib) a ia (a.size-ia) 0|pure (.done (some (lR a b out ia ib),out,ia,ib,mg,ac,bc))
 if k > 0 then
  if ia+k+1==a.size then pure (.done (some (uX a b (out++a.extract ia (ia+k)) (ia+k) ib),out++a.extract ia (ia+k),ia+k,ib,mg,k,bc))
  else if ia+k==a.size then pure (.done (some (lR a b (out++a.extract ia (ia+k)) (ia+k) ib),out++a.extract ia (ia+k),ia+k,ib,mg,k,bc))
  else Sa a b (out++a.extract ia (ia+k)) (ia+k) ib mg k bc
 else Sa a b out ia ib mg k bc
theorem wA(a b:Array Keyed):qC a b=(do
 rule "list.sort.merge-lo"
 let qI:=a.size+b.size
 let done (out:Array Keyed) (ia ib:Nat):=out++a.extract ia a.size++b.extract ib b.size
 let o_ (out:Array Keyed) (ia ib:Nat):=out++b.extract ib b.size++a.extract ia a.size
 let mut out:Array Keyed:=#[<-elem' b 0]
 let mut ia:=0
 let mut ib:=1
 if ib==b.size then return done out ia ib
 if ia+1==a.size then return o_ out ia ib
 let mut minGallop:=gallopOf (<-get)
 for _ in [0:qI] do
  let mut acount:=0
  let mut bcount:=0
  for _ in [0:qI] do
   let some Pa <- lt' (<-elem' b ib) (<-elem' a ia)|return done out ia ib
   if Pa then
    out:=out.push (<-elem' b ib);ib:=ib+1;bcount:=bcount+1;acount:=0
    if ib==b.size then return done out ia ib
    if bcount>=minGallop then break
   else
    out:=out.push (<-elem' a ia);ia:=ia+1;acount:=acount+1;bcount:=0
    if ia+1==a.size then return o_ out ia ib
    if acount>=minGallop then break
  rule "list.sort.gallop"
  minGallop:=minGallop+1
  for _ in [0:qI] do
   if minGallop > 1 then minGallop:=minGallop-1
   cU minGallop
   let some k <- eT false (<-elem' b ib) a ia (a.size-ia) 0|return done out ia ib
   acount:=k
   if k > 0 then
    out:=out++a.extract ia (ia+k);ia:=ia+k
    if ia+1==a.size then return o_ out ia ib
    if ia==a.size then return done out ia ib
   out:=out.push (<-elem' b ib);ib:=ib+1
   if ib==b.size then return done out ia ib
   let some k <- eT true (<-elem' a ia) b ib (b.size-ib) 0|return done out ia ib
   bcount:=k
   if k > 0 then
    out:=out++b.extract ib (ib+k);ib:=ib+k
    if ib==b.size then return done out ia ib
   out:=out.push (<-elem' a ia);ia:=ia+1
   if ia+1==a.size then return o_ out ia ib
   if acount<7&&bcount<7 then break
  minGallop:=minGallop+1
  cU minGallop
 unsupported "internal:list.sort.merge-bound"):=rfl
def PI(a b out:Array Keyed)(ia ib:Nat):Prop:=out.toList.Perm (a.toList.take ia++b.toList.take ib)
theorem wB{l:List Keyed}{i:Nat}(h:i<l.length):l.take (i+1)=l.take i++[l[i]]:=by rw[iq,cm h];rfl
theorem PI.hJ{a b out:Array Keyed}{ia ib:Nat}(h:PI a b out ia ib)(hi:ia<a.size):PI a b (out.push a[ia]) (ia+1) ib:=by
 unfold PI at h |-;rw[jd,wB (by simpa using hi),jc];refine(h.append_right _).trans ?_;rw[jc];refine List.Perm.append_left _ ?_;have:a.toList[ia]'(by simpa using hi)=a[ia]:=by simp
 rw[this];exact pB
theorem fk{a:Array Keyed}{i j:Nat}:(a.extract i j).toList=(a.toList.drop i).take (j-i):=by
 rw[xN,List.extract_eq_take_drop]
theorem DN{a:Array Keyed}{i k:Nat}(h:i+k<a.size):a.extract i (i+(k+1))=(a.extract i (i+k)).push a[i+k]:=by
 apply Array.toList_inj.mp;rw[jd,fk,fk,Nat.add_sub_cancel_left,Nat.add_sub_cancel_left,wB (by simp;lia)];congr 2;simp
structure MI(key:Keyed->Int)(a b out:Array Keyed)(ia ib:Nat):Prop where
 perm:PI a b out ia ib
 so:out.toList.Pairwise fun x y=>key x<=key y
 la:∀x∈out.toList,ia<a.size->key x<=kk key a ia
 lb:∀x∈out.toList,ib<b.size->key x<=kk key b ib
def Fi(key:Keyed->Int)(a b r:Array Keyed):Prop:=r.Perm (a++b)/\r.toList.Pairwise fun x y=>key x<=key y
section
variable {key:Keyed->Int} {a b out:Array Keyed} {ia ib:Nat}
theorem MI.swap(h:MI key a b out ia ib):MI key b a out ib ia:=⟨h.perm.trans pB,h.so,h.lb,h.la⟩
theorem MI.hJ(h:MI key a b out ia ib)(hi:ia<a.size)(sa:So key a 0 a.size)(c:ib<b.size->kk key a ia<=kk key b ib):MI key a b (out.push a[ia]) (ia+1) ib:=by
 refine⟨h.perm.hJ hi,?_,fun x hx hl=>?_,fun x hx hl=>?_⟩
 .rw[jd];refine tK.mpr ⟨h.so,List.pairwise_singleton _ _,fun x hx y hy=>?_⟩;rw[bS.mp hy,<-cJ (key:=key) hi];exact h.la x hx hi
 .rw[jd] at hx;have:=sa ia (ia+1) (by lia) (by lia) hl;rcases bq.mp hx with z|z
  .have:=h.la x z hi;lia
  .rw[bS.mp z,<-cJ (key:=key) hi];exact this
 .rw[jd] at hx;rcases bq.mp hx with z|z
  .exact h.lb x z hl
  .rw[bS.mp z,<-cJ (key:=key) hi];exact c hl
theorem MI.uY(h:MI key a b out ia ib)(sa:So key a 0 a.size):∀ (k:Nat),ia+k<=a.size->(ib<b.size->∀i,i<k->kk key a (ia+i)<=kk key b ib)->MI key a b (out++a.extract ia (ia+k)) (ia+k) ib
 |0,_,_=>by
  have e:a.extract ia (ia+0)=#[]:=by simp;lia
  rw[e,Array.append_empty];exact h
 |k+1,hk,c=>by
  have:=(MI.uY h sa k (by lia) fun hb i hi=>c hb i (by lia)).hJ (by lia) sa fun hb=>c hb k (by lia);rw[DN (by lia),<-Array.push_append];exact this
theorem MI.sL(h:MI key a b out ia ib)(hi:ib<b.size)(sb:So key b 0 b.size)(c:ia<a.size->kk key b ib<=kk key a ia):MI key a b (out.push b[ib]) ia (ib+1):=(h.swap.hJ hi sb c).swap
theorem MI.DO(h:MI key a b out ia ib)(sb:So key b 0 b.size)(k:Nat)(hk:ib+k<=b.size)(c:ia<a.size->∀i,i<k->kk key b (ib+i)<=kk key a ia):MI key a b (out++b.extract ib (ib+k)) ia (ib+k):=(h.swap.uY sb k hk c).swap
theorem MI.fin(h:MI key a b out a.size b.size):Fi key a b out:=by
 refine⟨?_,h.so⟩;have:=h.perm;unfold PI at this;rw[xJ (by simp),xJ (by simp)] at this;rw[kJ,n_];exact this
theorem MI.done(h:MI key a b out ia ib)(sa:So key a 0 a.size)(sb:So key b 0 b.size)(ha:ia<=a.size)(hb:ib<=b.size)(c:ib<b.size->∀i,i<a.size-ia->kk key a (ia+i)<=kk key b ib):Fi key a b (lR a b out ia ib):=by
 have h1:=h.uY sa (a.size-ia) (by lia) c;rw[show ia+(a.size-ia)=a.size by lia] at h1;have h2:=h1.DO sb (b.size-ib) (by lia) fun z=>by lia
 rw[show ib+(b.size-ib)=b.size by lia] at h2;exact h2.fin
theorem MI.last(h:MI key a b out ia ib)(sa:So key a 0 a.size)(sb:So key b 0 b.size)(ha:ia<=a.size)(hb:ib<=b.size)(c:ia<a.size->∀i,i<b.size-ib->kk key b (ib+i)<=kk key a ia):Fi key a b (uX a b out ia ib):=by
 have:=h.swap.done sb sa hb ha c;refine⟨this.1.trans ?_,this.2⟩;rw[kJ,n_,n_];exact pB
end
section
variable {prog:Program} {w:World} {A:Around} {E:Value->Shared->Prop} {s:Shared} {κ:SortKind} {a₀:Array Keyed} {pd:Array (Nat×Nat×Nat)} {ar:Array Keyed} {key:Keyed->Int}
structure wC(key:Keyed->Int)(a₀ a b:Array Keyed):Prop where
 ha:∀x∈a.toList,x∈a₀.toList
 hb:∀x∈b.toList,x∈a₀.toList
 a1:1<=a.size
 b1:1<=b.size
 sa:So key a 0 a.size
 sb:So key b 0 b.size
 c0:kk key b 0<=kk key a 0
 c1:∀i,i<b.size->kk key b i<=kk key a (a.size-1)
theorem wC.last(T:wC key a₀ a b)(h:MI key a b out ia ib)(ha:ia+1=a.size)(hb:ib<=b.size):Fi key a b (uX a b out ia ib):=
 h.last T.sa T.sb (by lia) hb fun _ i hi=>by
  have:=T.c1 (ib+i) (by lia);rw[show a.size-1=ia by lia] at this;exact this
theorem wC.done(T:wC key a₀ a b)(h:MI key a b out ia ib)(ha:ia<=a.size)(hb:ib=b.size):Fi key a b (lR a b out ia ib):=
 h.done T.sa T.sb ha (by lia) fun z=>by lia
def GP(κ:SortKind)(ar:Array Keyed)(pd:Array (Nat×Nat×Nat))(key:Keyed->Int)(a b:Array Keyed)(n:Nat)(r:ForInStep R9)(st:SortSt):Prop:=SM κ ar pd st/\
 ((∃x c,r=.done (some x,c)/\Fi key a b x)\/∃out ia ib mg ac bc,(r=.done (none,out,ia,ib,mg,ac,bc)\/r=.yield (none,out,ia,ib,mg,ac,bc))/\MI key a b out ia ib/\ia+1<a.size/\ib<b.size/\n<=ia+ib)
theorem At{st:SortSt}{a b out:Array Keyed}{ia ib mg ac bc n:Nat}(T:wC key a₀ a b)(hB:SM κ ar pd st)(h:MI key a b out ia ib)(la:ia+1<a.size)(lb:ib<b.size)(li:n<=ia+ib)(c:kk key a ia<=kk key b ib):
  wpS (model prog w) A E s (R_ a b out ia ib mg ac bc) (GP κ ar pd key a b n) st:=by
 unfold R_;refine av (bj (df a ia (by lia)) ?_);have p:=h.hJ (show ia<a.size by lia) T.sa fun _=>c;by_cases f:(ia+1+1==a.size)=true
 .rw[ao f];exact aJ ⟨hB,.inl ⟨_,_,rfl,T.last p (by simpa using f) (by lia)⟩⟩
 rw[ap f];have g:¬ (ia+1+1=a.size):=by simpa using f
 split
 .exact aJ ⟨hB,.inr ⟨_,_,_,_,_,_,.inl rfl,p,by lia,by lia,by lia⟩⟩
 .exact aJ ⟨hB,.inr ⟨_,_,_,_,_,_,.inr rfl,p,by lia,by lia,by lia⟩⟩
theorem Au{st:SortSt}{a b out:Array Keyed}{ia ib mg ac bc n:Nat}(hC:uV prog w A s κ a₀ key)(T:wC key a₀ a b)(hB:SM κ ar pd st)(h:MI key a b out ia ib)(la:ia+1<a.size)(lb:ib<b.size)(li:n<=ia+ib)(c:kk key b ib<=kk key a ia):
  wpS (model prog w) A E s (Sa a b out ia ib mg ac bc) (GP κ ar pd key a b n) st:=by
 unfold Sa;refine av (bj (df b ib (by lia)) ?_);have p:=h.sL lb T.sb fun _=>c;by_cases f:(ib+1==b.size)=true
 .rw[ao f];exact aJ ⟨hB,.inl ⟨_,_,rfl,T.done p (by lia) (by simpa using f)⟩⟩
 rw[ap f];have g:¬ (ib+1=b.size):=by simpa using f
 refine av (bj (df a ia (by lia)) ?_);refine av (fE hC hB.kind (T.ha _ (by simp)) T.hb (by lia) (by lia) (fun i j h1 h2 h3=>T.sb i j (by lia) h2 (by lia)) fun k hk q1 q2=>?_);rw[<-cJ (key:=key) (a:=a) (i:=ia) (by lia)] at q1 q2;simp only[qH,iO] at q1 q2;dsimp only;by_cases kp:k > 0
 .rw[ao kp];have p2:=p.DO T.sb k (by lia) fun _ i hi=>by have:=q1 i hi;lia
  by_cases f2:(ib+1+k==b.size)=true
  .rw[ao f2];exact aJ ⟨hB,.inl ⟨_,_,rfl,T.done p2 (by lia) (by simpa using f2)⟩⟩
  rw[ap f2];have g2:¬ (ib+1+k=b.size):=by simpa using f2
  exact At T hB p2 la (by lia) (by lia) (q2 k (by lia) (by lia))
 .rw[ap kp];have e:k=0:=by lia
  subst e;exact At T hB p la (by lia) (by lia) (q2 0 (by lia) (by lia))
theorem GV{st:SortSt}{a b out:Array Keyed}{ia ib mg ac bc n:Nat}(hC:uV prog w A s κ a₀ key)(T:wC key a₀ a b)(hB:SM κ ar pd st)(h:MI key a b out ia ib)(la:ia+1<a.size)(lb:ib<b.size)(li:n<=ia+ib):
  wpS (model prog w) A E s (Sb a b out ia ib mg ac bc) (GP κ ar pd key a b n) st:=by
 unfold Sb;rw[eC];refine av (fz ?_);have y6:SM κ ar pd (SortSt.mk' (kindOf st) (arrOf st) (pendingOf st) mg (failedOf st)):=⟨hB.arr,hB.kind,hB.failed,hB.pend⟩
 refine av (bj (df b ib (by lia)) ?_);refine av (fE hC y6.kind (T.hb _ (by simp)) T.ha (by lia) (by lia) (fun i j h1 h2 h3=>T.sa i j (by lia) h2 (by lia)) fun k hk q1 q2=>?_);rw[<-cJ (key:=key) (a:=b) (i:=ib) (by lia)] at q1 q2;simp only[qH,l7,fA] at q1 q2;dsimp only;by_cases kp:k > 0
 .rw[ao kp];have p2:=h.uY T.sa k (by lia) fun _ i hi=>by have:=q1 i hi;lia
  by_cases f4:(ia+k+1==a.size)=true
  .rw[ao f4];exact aJ ⟨y6,.inl ⟨_,_,rfl,T.last p2 (by simpa using f4) (by lia)⟩⟩
  rw[ap f4];have g4:¬ (ia+k+1=a.size):=by simpa using f4
  by_cases f5:(ia+k==a.size)=true
  .rw[ao f5];have g5:ia+k=a.size:=by simpa using f5
   exact aJ ⟨y6,.inl ⟨_,_,rfl,p2.done T.sa T.sb (by lia) (by lia) fun _ i hi=>by lia⟩⟩
  rw[ap f5];have g5:¬ (ia+k=a.size):=by simpa using f5
  exact Au hC T y6 p2 (by lia) lb (by lia) (by have:=q2 k (by lia) (by lia);lia)
 .rw[ap kp];have e:k=0:=by lia
  subst e;exact Au hC T y6 h la lb li (by have:=q2 0 (by lia) (by lia);rw[h_] at this;lia)
theorem wD{st:SortSt}{a b:Array Keyed}{Q:Array Keyed->SortSt->Prop}(hC:uV prog w A s κ a₀ key)(hB:SM κ ar pd st)(T:wC key a₀ a b)(h:∀out aS,Fi key a b out->SM κ ar pd aS->Q out aS):wpS (model prog w) A E s (qC a b) Q st:=by
 have a1:=T.a1;have b1:=T.b1;rw[wA];refine av (lG (iN ⟨rfl,?_⟩));refine av (bj (df b 0 (by lia)) ?_);dsimp only;have p0:MI key a b #[b[0]] 0 1:=by
  have:MI key a b #[] 0 0:=⟨by unfold PI;simp,List.Pairwise.nil,fun x hx=>by simp at hx,fun x hx=>by simp at hx⟩
  exact this.sL (by lia) T.sb fun _=>T.c0
 by_cases e1:(1==b.size)=true
 .rw[ao e1];exact aJ (h _ _ (T.done p0 (by lia) (by simpa using e1)) hB)
 rw[ap e1];have n1:¬ (1=b.size):=by simpa using e1
 by_cases e2:(0+1==a.size)=true
 .rw[ao e2];exact aJ (h _ _ (T.last p0 (by simpa using e2) (by lia)) hB)
 rw[ap e2];have n2:¬ (0+1=a.size):=by simpa using e2
 refine av (fX ?_);refine av (dA (fO (I:=fun i c aS=>SM κ ar pd aS/\∃out ia ib mg,c=(none,out,ia,ib,mg)/\MI key a b out ia ib/\ia+1<a.size/\ib<b.size/\i<=ia+ib) (Q:=fun c aS=>SM κ ar pd aS/\∃r c',c=(some r,c')/\Fi key a b r) ?_ ?_ ⟨hB,_,_,_,_,rfl,p0,by lia,by lia,by lia⟩) ?_)
 .rintro i c Cq _ hi ⟨GW,out,ia,ib,mg,rfl,p1,la,lb,li⟩;dsimp only;refine av (dA (fO (I:=fun x c aS=>SM κ ar pd aS/\∃out ia ib ac bc,c=(none,out,ia,ib,ac,bc)/\MI key a b out ia ib/\ia+1<a.size/\ib<b.size/\i+x<=ia+ib) (Q:=fun c aS=>SM κ ar pd aS/\((∃r c',c=(some r,c')/\Fi key a b r)\/∃out ia ib ac bc,c=(none,out,ia,ib,ac,bc)/\MI key a b out ia ib/\ia+1<a.size/\ib<b.size/\i+1<=ia+ib)) ?_ ?_ ⟨GW,_,_,_,_,_,rfl,p1,la,lb,by lia⟩) ?_)
  .rintro x c gU _ hx ⟨gW,out,ia,ib,ac,bc,rfl,p1,la,lb,li⟩;dsimp only;refine av (bj (df b ib (by lia)) ?_);refine av (bj (df a ia (by lia)) ?_);refine av (qE hC gW.kind (T.hb _ (by simp)) (T.ha _ (by simp)) ?_);rw[<-cJ (key:=key) (a:=b) (i:=ib) (by lia),<-cJ (key:=key) (a:=a) (i:=ia) (by lia)];by_cases bw:kk key b ib<kk key a ia
   .rw[bK bw];dsimp only;rw[ao rfl];refine av (bj (df b ib (by lia)) ?_);have p2:=p1.sL (show ib<b.size by lia) T.sb fun _=>by lia
    by_cases f1:(ib+1==b.size)=true
    .rw[ao f1];exact aJ ⟨gW,.inl ⟨_,_,rfl,T.done p2 (by lia) (by simpa using f1)⟩⟩
    rw[ap f1];have g1:¬ (ib+1=b.size):=by simpa using f1
    split
    .exact aJ ⟨gW,.inr ⟨_,_,_,_,_,rfl,p2,by lia,by lia,by lia⟩⟩
    .exact aJ ⟨gW,_,_,_,_,_,rfl,p2,by lia,by lia,by lia⟩
   .rw[cE bw];dsimp only;rw[ap (by decide)];refine av (bj (df a ia (by lia)) ?_);have p2:=p1.hJ (show ia<a.size by lia) T.sa fun _=>by lia
    by_cases f1:(ia+1+1==a.size)=true
    .rw[ao f1];exact aJ ⟨gW,.inl ⟨_,_,rfl,T.last p2 (by simpa using f1) (by lia)⟩⟩
    rw[ap f1];have g1:¬ (ia+1+1=a.size):=by simpa using f1
    split
    .exact aJ ⟨gW,.inr ⟨_,_,_,_,_,rfl,p2,by lia,by lia,by lia⟩⟩
    .exact aJ ⟨gW,_,_,_,_,_,rfl,p2,by lia,by lia,by lia⟩
  .rintro c gU ⟨gW,out,ia,ib,ac,bc,rfl,p1,la,lb,li⟩;exact⟨gW,.inr ⟨_,_,_,_,_,rfl,p1,la,lb,by lia⟩⟩
  .rintro c gU ⟨gW,⟨r,c',rfl,hp⟩|⟨out,ia,ib,ac,bc,rfl,p1,la,lb,li⟩⟩
   .exact aJ ⟨gW,_,_,rfl,hp⟩
   .dsimp only;refine av (lG (iN ⟨rfl,?_⟩));refine av (dA (fO (I:=fun x c aS=>SM κ ar pd aS/\∃out ia ib mg ac bc,c=(none,out,ia,ib,mg,ac,bc)/\MI key a b out ia ib/\ia+1<a.size/\ib<b.size/\i+1<=ia+ib) (Q:=fun c aS=>SM κ ar pd aS/\((∃r c',c=(some r,c')/\Fi key a b r)\/∃out ia ib mg ac bc,c=(none,out,ia,ib,mg,ac,bc)/\MI key a b out ia ib/\ia+1<a.size/\ib<b.size/\i+1<=ia+ib)) ?_ ?_ ⟨gW,_,_,_,_,_,_,rfl,p1,la,lb,li⟩) ?_)
    .rintro x c gU _ hx ⟨gW,out,ia,ib,mg,ac,bc,rfl,p1,la,lb,li⟩;change wpS (model prog w) A E s (if mg > 1 then Sb a b out ia ib (mg-1) ac bc else Sb a b out ia ib mg ac bc) _ gU;split <;>
     .refine dA (GV hC T gW p1 la lb li) ?_;rintro r aS ⟨m,⟨x,c,rfl,hf⟩|⟨out,ia,ib,mg,ac,bc,rfl|rfl,hh⟩⟩
      .exact⟨m,.inl ⟨_,_,rfl,hf⟩⟩
      .exact⟨m,.inr ⟨_,_,_,_,_,_,rfl,hh⟩⟩
      .exact⟨m,_,_,_,_,_,_,rfl,hh⟩
    .rintro c gU ⟨gW,hh⟩;exact⟨gW,.inr hh⟩
    .rintro c gU ⟨gW,⟨r,c',rfl,hp⟩|⟨out,ia,ib,mg,ac,bc,rfl,p1,la,lb,li⟩⟩
     .exact aJ ⟨gW,_,_,rfl,hp⟩
     .dsimp only;rw[eC];refine av (fz ?_);exact aJ ⟨⟨gW.arr,gW.kind,gW.failed,gW.pend⟩,_,_,_,_,rfl,p1,la,lb,li⟩
 .rintro c Cq ⟨GW,out,ia,ib,mg,rfl,p1,la,lb,li⟩;lia
 .rintro c Cq ⟨GW,r,c',rfl,hp⟩;exact aJ (h r Cq hp GW)
end
abbrev Sc:=Option (Array Keyed)×Nat×Nat×Array Keyed×Nat×Nat×Nat
abbrev lS(a b out:Array Keyed)(na nb:Nat):=a.extract 0 na++b.extract 0 nb++out.reverse
abbrev mC(a b out:Array Keyed)(na nb:Nat):=b.extract 0 nb++a.extract 0 na++out.reverse
def Se(a b:Array Keyed)(na nb:Nat)(out:Array Keyed)(mg ac bc:Nat):StateT SortSt Sem (ForInStep Sc):=do
 let x <- elem' a (na-1)
 if na-1==0 then pure (.done (some (lS a b (out.push x) (na-1) nb),na-1,nb,out.push x,mg,ac,bc))
 else if ac<7&&bc<7 then pure (.done (none,na-1,nb,out.push x,mg,ac,bc)) else pure (.yield (none,na-1,nb,out.push x,mg,ac,bc))
def Sf(a b:Array Keyed)(na nb:Nat)(out:Array Keyed)(mg ac bc:Nat):StateT SortSt Sem (ForInStep Sc):=do
 let x <- elem' b (nb-1)
 if nb-1==1 then pure (.done (some (mC a b (out.push x) na (nb-1)),na,nb-1,out.push x,mg,ac,bc))
 else do
  let some at_ <- eT true (<-elem' a (na-1)) b 0 (nb-1) (nb-1-1)|pure (.done (some (lS a b (out.push x) na (nb-1)),na,nb-1,out.push x,mg,ac,bc))
  if nb-1-at_ > 0 then
   if at_==1 then pure (.done (some (mC a b (out.push x++(b.extract at_ (nb-1)).reverse) na at_),na,at_,out.push x++(b.extract at_ (nb-1)).reverse,mg,ac,nb-1-at_))
   else if at_==0 then pure (.done (some (lS a b (out.push x++(b.extract at_ (nb-1)).reverse) na at_),na,at_,out.push x++(b.extract at_ (nb-1)).reverse,mg,ac,nb-1-at_))
   else Se a b na at_ (out.push x++(b.extract at_ (nb-1)).reverse) mg ac (nb-1-at_)
  else Se a b na (nb-1) (out.push x) mg ac (nb-1-at_)
def Sg(a b:Array Keyed)(na nb:Nat)(out:Array Keyed)(mg ac bc:Nat):StateT SortSt Sem (ForInStep Sc):=do
 cU mg
 let some at_ <- eT false (<-elem' b (nb-1)) a 0 na (na-1)|pure (.done (some (lS a b out na nb),na,nb,out,mg,ac,bc))
 if na-at_ > 0 then
  if at_==0 then pure (.done (some (lS a b (out++(a.extract at_ na).reverse) at_ nb),at_,nb,out++(a.extract at_ na).reverse,mg,na-at_,bc))
  else Sf a b at_ nb (out++(a.extract at_ na).reverse) mg (na-at_) bc
 else Sf a b na nb out mg (na-at_) bc
theorem wE(a b:Array Keyed):qD a b=(do
 rule "list.sort.merge-hi"
 let qI:=a.size+b.size
 let done (out:Array Keyed) (na nb:Nat):=a.extract 0 na++b.extract 0 nb++out.reverse
 let mD (out:Array Keyed) (na nb:Nat):=b.extract 0 nb++a.extract 0 na++out.reverse
 let mut na:=a.size-1
 let mut nb:=b.size
 let mut out:Array Keyed:=#[<-elem' a na]
 if na==0 then return done out na nb
 if nb==1 then return mD out na nb
 let mut minGallop:=gallopOf (<-get)
 for _ in [0:qI] do
  let mut acount:=0
  let mut bcount:=0
  for _ in [0:qI] do
   let some Pc <- lt' (<-elem' b (nb-1)) (<-elem' a (na-1))|return done out na nb
   if Pc then
    na:=na-1;out:=out.push (<-elem' a na);acount:=acount+1;bcount:=0
    if na==0 then return done out na nb
    if acount>=minGallop then break
   else
    nb:=nb-1;out:=out.push (<-elem' b nb);bcount:=bcount+1;acount:=0
    if nb==1 then return mD out na nb
    if bcount>=minGallop then break
  rule "list.sort.gallop"
  minGallop:=minGallop+1
  for _ in [0:qI] do
   if minGallop > 1 then minGallop:=minGallop-1
   cU minGallop
   let some at_ <- eT false (<-elem' b (nb-1)) a 0 na (na-1)|return done out na nb
   let k:=na-at_
   acount:=k
   if k > 0 then
    out:=out++(a.extract at_ na).reverse;na:=at_
    if na==0 then return done out na nb
   nb:=nb-1;out:=out.push (<-elem' b nb)
   if nb==1 then return mD out na nb
   let some at_ <- eT true (<-elem' a (na-1)) b 0 nb (nb-1)|return done out na nb
   let k:=nb-at_
   bcount:=k
   if k > 0 then
    out:=out++(b.extract at_ nb).reverse;nb:=at_
    if nb==1 then return mD out na nb
    if nb==0 then return done out na nb
   na:=na-1;out:=out.push (<-elem' a na)
   if na==0 then return done out na nb
   if acount<7&&bcount<7 then break
  minGallop:=minGallop+1
  cU minGallop
 unsupported "internal:list.sort.merge-bound"):=rfl
def PH(a b out:Array Keyed)(na nb:Nat):Prop:=out.toList.Perm (a.toList.drop na++b.toList.drop nb)
theorem PH.hJ(h:PH a b out na nb)(h1:1<=na)(hi:na-1<a.size):PH a b (out.push a[na-1]) (na-1) nb:=by
 unfold PH at h |-;have e:a.toList.drop (na-1)=a[na-1]::a.toList.drop na:=by
  have:=tw (l:=a.toList) (i:=na-1) (by simpa using hi);rw[this,Nat.sub_add_cancel h1];simp
 rw[jd,e];refine(h.append_right _).trans ?_;exact pB
theorem GX{a:Array Keyed}{k n:Nat}(h:k<n)(hn:n<=a.size):(a.extract k n).reverse=(a.extract (k+1) n).reverse.push a[k]:=by
 apply Array.toList_inj.mp;rw[jd,tQ,tQ,fk,fk];have e:=tw (l:=a.toList) (i:=k) (by simp;lia);rw[e,show n-k=(n-(k+1))+1 by lia,List.take_succ_cons,List.reverse_cons];congr 2
theorem wF{l:List Keyed}{i j:Nat}(h:i<=j):l.drop i=(l.drop i).take (j-i)++l.drop j:=by
 have:=(xL (j-i) (l.drop i)).symm;rw[List.drop_drop,show i+(j-i)=j by lia] at this;exact this
structure HI(key:Keyed->Int)(a b out:Array Keyed)(na nb:Nat):Prop where
 perm:PH a b out na nb
 so:out.toList.Pairwise fun x y=>key y<=key x
 la:∀x∈out.toList,0<na->kk key a (na-1)<=key x
 lb:∀x∈out.toList,0<nb->kk key b (nb-1)<=key x
section
variable {key:Keyed->Int} {a b out:Array Keyed} {na nb:Nat}
theorem HI.swap(h:HI key a b out na nb):HI key b a out nb na:=⟨h.perm.trans pB,h.so,h.lb,h.la⟩
theorem HI.hJ(h:HI key a b out na nb)(h1:1<=na)(hi:na-1<a.size)(sa:So key a 0 a.size)(c:0<nb->kk key b (nb-1)<=kk key a (na-1)):HI key a b (out.push a[na-1]) (na-1) nb:=by
 refine⟨h.perm.hJ h1 hi,?_,fun x hx hl=>?_,fun x hx hl=>?_⟩
 .rw[jd];refine tK.mpr ⟨h.so,List.pairwise_singleton _ _,fun x hx y hy=>?_⟩;rw[bS.mp hy,<-cJ (key:=key) hi];exact h.la x hx (by lia)
 .rw[jd] at hx;have:=sa (na-1-1) (na-1) (by lia) (by lia) hi;rcases bq.mp hx with z|z
  .have:=h.la x z (by lia);lia
  .rw[bS.mp z,<-cJ (key:=key) hi];exact this
 .rw[jd] at hx;rcases bq.mp hx with z|z
  .exact h.lb x z hl
  .rw[bS.mp z,<-cJ (key:=key) hi];exact c hl
theorem HI.uY(h:HI key a b out na nb)(sa:So key a 0 a.size)(hn:na<=a.size):∀ (d k:Nat),na=k+d->(0<nb->∀i,k<=i->i<na->kk key b (nb-1)<=kk key a i)->HI key a b (out++(a.extract k na).reverse) k nb
 |0,k,e,_=>by
  have e':a.extract k na=#[]:=by simp;lia
  have e2:k=na:=by lia
  subst e2;rw[e',Array.reverse_empty,Array.append_empty];exact h
 |d+1,k,e,c=>by
  have:=(HI.uY h sa hn d (k+1) (by lia) fun hb i h1 h2=>c hb i (by lia) h2).hJ (by lia) (by lia) sa fun hb=>c hb _ (by lia) (by lia);rw[GX (by lia) hn,<-Array.push_append];exact this
theorem HI.sL(h:HI key a b out na nb)(h1:1<=nb)(hi:nb-1<b.size)(sb:So key b 0 b.size)(c:0<na->kk key a (na-1)<=kk key b (nb-1)):HI key a b (out.push b[nb-1]) na (nb-1):=(h.swap.hJ h1 hi sb c).swap
theorem HI.DO(h:HI key a b out na nb)(sb:So key b 0 b.size)(hn:nb<=b.size)(k:Nat)(hk:k<=nb)(c:0<na->∀i,k<=i->i<nb->kk key a (na-1)<=kk key b i):HI key a b (out++(b.extract k nb).reverse) na k:=(h.swap.uY sb hn (nb-k) k (by lia) c).swap
theorem HI.first(h:HI key a b out na nb)(sa:So key a 0 a.size)(sb:So key b 0 b.size)(ha:na<=a.size)(hb:nb<=b.size)(c:0<nb->∀i,i<na->kk key b (nb-1)<=kk key a i):Fi key a b (mC a b out na nb):=by
 have h1:=h.uY sa ha na 0 (by lia) fun z i _ hi=>c z i hi;have h2:=h1.DO sb hb 0 (by lia) fun z=>by lia
 have e:mC a b out na nb=(out++(a.extract 0 na).reverse++(b.extract 0 nb).reverse).reverse:=by simp
 rw[e];refine⟨?_,?_⟩
 .have:=h2.perm;unfold PH at this;rw[yj,yj] at this;rw[kJ,tQ,n_ (xs:=a)];exact(List.reverse_perm _).trans this
 .rw[tQ,List.pairwise_reverse];exact h2.so
theorem HI.done(h:HI key a b out na nb)(sa:So key a 0 a.size)(sb:So key b 0 b.size)(ha:na<=a.size)(hb:nb<=b.size)(c:0<na->∀i,i<nb->kk key a (na-1)<=kk key b i):Fi key a b (lS a b out na nb):=by
 have:=h.swap.first sb sa hb ha c;refine⟨this.1.trans ?_,this.2⟩;rw[kJ,n_,n_];exact pB
end
section
variable {prog:Program} {w:World} {A:Around} {E:Value->Shared->Prop} {s:Shared} {κ:SortKind} {a₀:Array Keyed} {pd:Array (Nat×Nat×Nat)} {ar:Array Keyed} {key:Keyed->Int}
theorem wC.first(T:wC key a₀ a b)(h:HI key a b out na nb)(ha:na<=a.size)(hb:nb=1):Fi key a b (mC a b out na nb):=
 h.first T.sa T.sb ha (by have:=T.b1;lia) fun _ i hi=>by
  have h0:=T.c0;have h1:=T.sa 0 i (by lia) (by lia) (by lia);rw[show nb-1=0 by lia];lia
theorem wC.wG(T:wC key a₀ a b)(h:HI key a b out na nb)(ha:na<=a.size)(hb:nb<=b.size)(hz:na=0\/nb=0):Fi key a b (lS a b out na nb):=
 h.done T.sa T.sb ha hb fun z i hi=>by lia
def GH(κ:SortKind)(ar:Array Keyed)(pd:Array (Nat×Nat×Nat))(key:Keyed->Int)(a b:Array Keyed)(n:Nat)(r:ForInStep Sc)(st:SortSt):Prop:=SM κ ar pd st/\
 ((∃x c,r=.done (some x,c)/\Fi key a b x)\/∃na nb out mg ac bc,(r=.done (none,na,nb,out,mg,ac,bc)\/r=.yield (none,na,nb,out,mg,ac,bc))/\HI key a b out na nb/\1<=na/\2<=nb/\na<=a.size/\nb<=b.size/\n+na+nb<=a.size+b.size)
theorem Av{st:SortSt}{a b out:Array Keyed}{na nb mg ac bc n:Nat}(T:wC key a₀ a b)(hB:SM κ ar pd st)(h:HI key a b out na nb)(la:1<=na)(lb:2<=nb)(ma:na<=a.size)(mb:nb<=b.size)(li:n+na+nb<=a.size+b.size)(c:kk key b (nb-1)<=kk key a (na-1)):
  wpS (model prog w) A E s (Se a b na nb out mg ac bc) (GH κ ar pd key a b n) st:=by
 unfold Se;refine av (bj (df a (na-1) (by lia)) ?_);have p:=h.hJ la (show na-1<a.size by lia) T.sa fun _=>c;by_cases f:(na-1==0)=true
 .rw[ao f];exact aJ ⟨hB,.inl ⟨_,_,rfl,T.wG p (by lia) (by lia) (.inl (by simpa using f))⟩⟩
 rw[ap f];have g:¬ (na-1=0):=by simpa using f
 split
 .exact aJ ⟨hB,.inr ⟨_,_,_,_,_,_,.inl rfl,p,by lia,by lia,by lia,by lia,by lia⟩⟩
 .exact aJ ⟨hB,.inr ⟨_,_,_,_,_,_,.inr rfl,p,by lia,by lia,by lia,by lia,by lia⟩⟩
theorem Aw{st:SortSt}{a b out:Array Keyed}{na nb mg ac bc n:Nat}(hC:uV prog w A s κ a₀ key)(T:wC key a₀ a b)(hB:SM κ ar pd st)(h:HI key a b out na nb)(la:1<=na)(lb:2<=nb)(ma:na<=a.size)(mb:nb<=b.size)(li:n+na+nb<=a.size+b.size)(c:kk key a (na-1)<=kk key b (nb-1)):
  wpS (model prog w) A E s (Sf a b na nb out mg ac bc) (GH κ ar pd key a b n) st:=by
 unfold Sf;refine av (bj (df b (nb-1) (by lia)) ?_);have p:=h.sL (by lia) (show nb-1<b.size by lia) T.sb fun _=>c;by_cases f:(nb-1==1)=true
 .rw[ao f];exact aJ ⟨hB,.inl ⟨_,_,rfl,T.first p (by lia) (by simpa using f)⟩⟩
 rw[ap f];have g:¬ (nb-1=1):=by simpa using f
 refine av (bj (df a (na-1) (by lia)) ?_);refine av (fE hC hB.kind (T.ha _ (by simp)) T.hb (by lia) (by lia) (fun i j h1 h2 h3=>T.sb i j (by lia) h2 (by lia)) fun k hk q1 q2=>?_);rw[<-cJ (key:=key) (a:=a) (i:=na-1) (by lia)] at q1 q2;simp only[qH,iO,pW] at q1 q2;dsimp only;by_cases kp:nb-1-k > 0
 .rw[ao kp];have p2:=p.DO T.sb (by lia) k hk fun _ i h1 h2=>q2 i h1 h2;by_cases f2:(k==1)=true
  .rw[ao f2];exact aJ ⟨hB,.inl ⟨_,_,rfl,T.first p2 (by lia) (by simpa using f2)⟩⟩
  rw[ap f2];have g2:¬ (k=1):=by simpa using f2
  by_cases f6:(k==0)=true
  .rw[ao f6];exact aJ ⟨hB,.inl ⟨_,_,rfl,T.wG p2 (by lia) (by lia) (.inr (by simpa using f6))⟩⟩
  rw[ap f6];have g6:¬ (k=0):=by simpa using f6
  exact Av T hB p2 la (by lia) ma (by lia) (by lia) (by have:=q1 (k-1) (by lia);lia)
 .rw[ap kp];have e:k=nb-1:=by lia
  subst e;exact Av T hB p la (by lia) ma (by lia) (by lia) (by have:=q1 (nb-1-1) (by lia);lia)
theorem GY{st:SortSt}{a b out:Array Keyed}{na nb mg ac bc n:Nat}(hC:uV prog w A s κ a₀ key)(T:wC key a₀ a b)(hB:SM κ ar pd st)(h:HI key a b out na nb)(la:1<=na)(lb:2<=nb)(ma:na<=a.size)(mb:nb<=b.size)(li:n+na+nb<=a.size+b.size):
  wpS (model prog w) A E s (Sg a b na nb out mg ac bc) (GH κ ar pd key a b n) st:=by
 unfold Sg;rw[eC];refine av (fz ?_);have y6:SM κ ar pd (SortSt.mk' (kindOf st) (arrOf st) (pendingOf st) mg (failedOf st)):=⟨hB.arr,hB.kind,hB.failed,hB.pend⟩
 refine av (bj (df b (nb-1) (by lia)) ?_);refine av (fE hC y6.kind (T.hb _ (by simp)) T.ha (by lia) (by lia) (fun i j h1 h2 h3=>T.sa i j (by lia) h2 (by lia)) fun k hk q1 q2=>?_);rw[<-cJ (key:=key) (a:=b) (i:=nb-1) (by lia)] at q1 q2;simp only[qH,l7,fA,pW] at q1 q2;dsimp only;by_cases kp:na-k > 0
 .rw[ao kp];have p2:=h.uY T.sa ma (na-k) k (by lia) fun _ i h1 h2=>by have:=q2 i h1 h2;lia
  by_cases f4:(k==0)=true
  .rw[ao f4];exact aJ ⟨y6,.inl ⟨_,_,rfl,T.wG p2 (by lia) (by lia) (.inl (by simpa using f4))⟩⟩
  rw[ap f4];have g4:¬ (k=0):=by simpa using f4
  exact Aw hC T y6 p2 (by lia) lb (by lia) mb (by lia) (by have:=q1 (k-1) (by lia);lia)
 .rw[ap kp];have e:k=na:=by lia
  subst e;exact Aw hC T y6 h la lb ma mb li (by have:=q1 (k-1) (by lia);lia)
theorem wH{st:SortSt}{a b:Array Keyed}{Q:Array Keyed->SortSt->Prop}(hC:uV prog w A s κ a₀ key)(hB:SM κ ar pd st)(T:wC key a₀ a b)(h:∀out aS,Fi key a b out->SM κ ar pd aS->Q out aS):wpS (model prog w) A E s (qD a b) Q st:=by
 have a1:=T.a1;have b1:=T.b1;rw[wE];refine av (lG (iN ⟨rfl,?_⟩));refine av (bj (df a (a.size-1) (by lia)) ?_);dsimp only;have p0:HI key a b #[a[a.size-1]] (a.size-1) b.size:=by
  have:HI key a b #[] a.size b.size:=⟨by unfold PH;simp,List.Pairwise.nil,fun x hx=>by simp at hx,fun x hx=>by simp at hx⟩
  exact this.hJ a1 (by lia) T.sa fun _=>T.c1 _ (by lia)
 by_cases e1:(a.size-1==0)=true
 .rw[ao e1];exact aJ (h _ _ (T.wG p0 (by lia) (by lia) (.inl (by simpa using e1))) hB)
 rw[ap e1];have n1:¬ (a.size-1=0):=by simpa using e1
 by_cases e2:(b.size==1)=true
 .rw[ao e2];exact aJ (h _ _ (T.first p0 (by lia) (by simpa using e2)) hB)
 rw[ap e2];have n2:¬ (b.size=1):=by simpa using e2
 refine av (fX ?_);refine av (dA (fO (I:=fun i c aS=>SM κ ar pd aS/\∃na nb out mg,c=(none,na,nb,out,mg)/\HI key a b out na nb/\1<=na/\2<=nb/\na<=a.size/\nb<=b.size/\i+na+nb<=a.size+b.size) (Q:=fun c aS=>SM κ ar pd aS/\∃r c',c=(some r,c')/\Fi key a b r) ?_ ?_ ⟨hB,_,_,_,_,rfl,p0,by lia,by lia,by lia,by lia,by lia⟩) ?_)
 .rintro i c Cq _ hi ⟨GW,na,nb,out,mg,rfl,p1,la,lb,ma,mb,li⟩;dsimp only;refine av (dA (fO (I:=fun x c aS=>SM κ ar pd aS/\∃na nb out ac bc,c=(none,na,nb,out,ac,bc)/\HI key a b out na nb/\1<=na/\2<=nb/\na<=a.size/\nb<=b.size/\i+x+na+nb<=a.size+b.size) (Q:=fun c aS=>SM κ ar pd aS/\((∃r c',c=(some r,c')/\Fi key a b r)\/∃na nb out ac bc,c=(none,na,nb,out,ac,bc)/\HI key a b out na nb/\1<=na/\2<=nb/\na<=a.size/\nb<=b.size/\i+1+na+nb<=a.size+b.size)) ?_ ?_ ⟨GW,_,_,_,_,_,rfl,p1,la,lb,ma,mb,by lia⟩) ?_)
  .rintro x c gU _ hx ⟨gW,na,nb,out,ac,bc,rfl,p1,la,lb,ma,mb,li⟩;dsimp only;refine av (bj (df b (nb-1) (by lia)) ?_);refine av (bj (df a (na-1) (by lia)) ?_);refine av (qE hC gW.kind (T.hb _ (by simp)) (T.ha _ (by simp)) ?_);rw[<-cJ (key:=key) (a:=b) (i:=nb-1) (by lia),<-cJ (key:=key) (a:=a) (i:=na-1) (by lia)];by_cases aw:kk key b (nb-1)<kk key a (na-1)
   .rw[bK aw];dsimp only;rw[ao rfl];refine av (bj (df a (na-1) (by lia)) ?_);have p2:=p1.hJ (show 1<=na by lia) (show na-1<a.size by lia) T.sa fun _=>by lia
    by_cases f1:(na-1==0)=true
    .rw[ao f1];exact aJ ⟨gW,.inl ⟨_,_,rfl,T.wG p2 (by lia) (by lia) (.inl (by simpa using f1))⟩⟩
    rw[ap f1];have g1:¬ (na-1=0):=by simpa using f1
    split
    .exact aJ ⟨gW,.inr ⟨_,_,_,_,_,rfl,p2,by lia,by lia,by lia,by lia,by lia⟩⟩
    .exact aJ ⟨gW,_,_,_,_,_,rfl,p2,by lia,by lia,by lia,by lia,by lia⟩
   .rw[cE aw];dsimp only;rw[ap (by decide)];refine av (bj (df b (nb-1) (by lia)) ?_);have p2:=p1.sL (show 1<=nb by lia) (show nb-1<b.size by lia) T.sb fun _=>by lia
    by_cases f1:(nb-1==1)=true
    .rw[ao f1];exact aJ ⟨gW,.inl ⟨_,_,rfl,T.first p2 (by lia) (by simpa using f1)⟩⟩
    rw[ap f1];have g1:¬ (nb-1=1):=by simpa using f1
    split
    .exact aJ ⟨gW,.inr ⟨_,_,_,_,_,rfl,p2,by lia,by lia,by lia,by lia,by lia⟩⟩
    .exact aJ ⟨gW,_,_,_,_,_,rfl,p2,by lia,by lia,by lia,by lia,by lia⟩
  .rintro c gU ⟨gW,na,nb,out,ac,bc,rfl,p1,la,lb,ma,mb,li⟩;exact⟨gW,.inr ⟨_,_,_,_,_,rfl,p1,la,lb,ma,mb,by lia⟩⟩
  .rintro c gU ⟨gW,⟨r,c',rfl,hp⟩|⟨na,nb,out,ac,bc,rfl,p1,la,lb,ma,mb,li⟩⟩
   .exact aJ ⟨gW,_,_,rfl,hp⟩
   .dsimp only;refine av (lG (iN ⟨rfl,?_⟩));refine av (dA (fO (I:=fun x c aS=>SM κ ar pd aS/\∃na nb out mg ac bc,c=(none,na,nb,out,mg,ac,bc)/\HI key a b out na nb/\1<=na/\2<=nb/\na<=a.size/\nb<=b.size/\i+1+na+nb<=a.size+b.size) (Q:=fun c aS=>SM κ ar pd aS/\((∃r c',c=(some r,c')/\Fi key a b r)\/∃na nb out mg ac bc,c=(none,na,nb,out,mg,ac,bc)/\HI key a b out na nb/\1<=na/\2<=nb/\na<=a.size/\nb<=b.size/\i+1+na+nb<=a.size+b.size)) ?_ ?_ ⟨gW,_,_,_,_,_,_,rfl,p1,la,lb,ma,mb,li⟩) ?_)
    .rintro x c gU _ hx ⟨gW,na,nb,out,mg,ac,bc,rfl,p1,la,lb,ma,mb,li⟩;change wpS (model prog w) A E s (if mg > 1 then Sg a b na nb out (mg-1) ac bc else Sg a b na nb out mg ac bc) _ gU;split <;>
     .refine dA (GY hC T gW p1 la lb ma mb li) ?_;rintro r aS ⟨m,⟨x,c,rfl,hf⟩|⟨na,nb,out,mg,ac,bc,rfl|rfl,hh⟩⟩
      .exact⟨m,.inl ⟨_,_,rfl,hf⟩⟩
      .exact⟨m,.inr ⟨_,_,_,_,_,_,rfl,hh⟩⟩
      .exact⟨m,_,_,_,_,_,_,rfl,hh⟩
    .rintro c gU ⟨gW,hh⟩;exact⟨gW,.inr hh⟩
    .rintro c gU ⟨gW,⟨r,c',rfl,hp⟩|⟨na,nb,out,mg,ac,bc,rfl,p1,la,lb,ma,mb,li⟩⟩
     .exact aJ ⟨gW,_,_,rfl,hp⟩
     .dsimp only;rw[eC];refine av (fz ?_);exact aJ ⟨⟨gW.arr,gW.kind,gW.failed,gW.pend⟩,_,_,_,_,rfl,p1,la,lb,ma,mb,li⟩
 .rintro c Cq ⟨GW,na,nb,out,mg,rfl,p1,la,lb,ma,mb,li⟩;lia
 .rintro c Cq ⟨GW,r,c',rfl,hp⟩;exact aJ (h r Cq hp GW)
end
abbrev Le:=Nat×Nat×Nat
def gu(key:Keyed->Int)(a:Array Keyed):List Le->Nat->Nat->Prop
 |[],s,e=>s=e
 |r::rs,s,e=>r.1=s/\1<=r.2.1/\So key a s (s+r.2.1)/\gu key a rs (s+r.2.1) e
section
variable {key:Keyed->Int} {a:Array Keyed}
theorem gu.le:∀ {l:List Le} {s e:Nat},gu key a l s e->s+l.length<=e
 |[],_,_,h=>ug h
 |r::rs,s,e,⟨_,h2,_,h3⟩=>by have:=h3.le;rw[cw];lia
theorem So.keep(h:So key a s e)(k:∀i,s<=i->i<e->a'[i]?=a[i]?):So key a' s e:=fun i j h1 h2 h3=>by
 rw[fU (k i h1 (by lia)),fU (k j (by lia) h3)];exact h i j h1 h2 h3
theorem gu.keep:∀ {l:List Le} {s e:Nat},gu key a l s e->(∀i,s<=i->i<e->a'[i]?=a[i]?)->gu key a' l s e
 |[],_,_,h,_=>h
 |r::rs,s,e,⟨h1,h2,h3,h4⟩,k=>by
  have:=h4.le;exact⟨h1,h2,h3.keep fun i a b=>k i a (by lia),h4.keep fun i a b=>k i (by lia) b⟩
theorem gu.two:∀ {l:List Le} {s e i:Nat} {x y:Le},gu key a l s e->l[i]?=some x->l[i+1]?=some y->
  s<=x.1/\x.1+x.2.1=y.1/\y.1+y.2.1<=e/\1<=x.2.1/\1<=y.2.1/\So key a x.1 y.1/\So key a y.1 (y.1+y.2.1)/\∀p a',l4 a a' x.1 (y.1+y.2.1)->So key a' x.1 (y.1+y.2.1)->gu key a' ((l.set i (x.1,x.2.1+y.2.1,p)).eraseIdx (i+1)) s e
 |r::q::rs,s,e,0,x,y,⟨h1,h2,h3,h4,h5,h6,h7⟩,hx,hy=>by
  obtain rfl:=aY hx;obtain rfl:=aY hy;have:=h7.le;rw[h1,h4];refine⟨aZ _,rfl,by lia,h2,h5,h3,h6,fun p a' o so=>⟨rfl,by show 1<=r.2.1+q.2.1;lia,?_,?_⟩⟩
  .show So key a' s (s+(r.2.1+q.2.1));rw[<-uc];exact so
  .show gu key a' rs (s+(r.2.1+q.2.1)) e;rw[<-uc];exact h7.keep fun i a b=>o i (.inr a)
 |r::rs,s,e,i+1,x,y,⟨h1,h2,h3,h4⟩,hx,hy=>by
  obtain⟨a0,a1,a2,a3,a4,a5,a6,a7⟩:=gu.two (i:=i) h4 hx hy;exact⟨by lia,a1,a2,a3,a4,a5,a6,fun p a' o so=>⟨h1,h2,h3.keep fun i a b=>o i (.inl (by lia)),a7 p a' o so⟩⟩
theorem gu.push:∀ {l:List Le} {s e n p:Nat},gu key a l s e->1<=n->So key a e (e+n)->gu key a (l++[(e,n,p)]) s (e+n)
 |[],s,e,n,p,h,hn,so=>⟨h.symm,hn,by rw[show s=e from h];exact so,by rw[show s=e from h];rfl⟩
 |r::rs,s,e,n,p,⟨h1,h2,h3,h4⟩,hn,so=>⟨h1,h2,h3,gu.push h4 hn so⟩
theorem gu.pw:∀ {l:List Le} {s e:Nat} (i p:Nat),gu key a l s e->gu key a (l.modify i fun r=>(r.1,r.2.1,p)) s e
 |[],s,e,i,p,h=>by cases i <;> exact h
 |r::rs,s,e,0,p,⟨h1,h2,h3⟩=>⟨h1,h2,h3⟩
 |r::rs,s,e,i+1,p,⟨h1,h2,h3,h4⟩=>⟨h1,h2,h3,gu.pw i p h4⟩
end
theorem GZ{M:Model}{A:Around}{E:Value->Shared->Prop}{s:Shared}{σ:Type}{x:σ}{Q:PUnit->σ->Prop}{st:σ}(h:Q ⟨⟩ x):wpS M A E s (set x:StateT σ Sem PUnit) Q st:=by
 unfold wpS;rw[StateT.run_set];exact wpAny_pure ⟨rfl,h⟩
theorem wI(i:Nat):mergeAt' i=(do
 let s <- get
 let (some (sa,na,Pd),some (sb,nb,_)):=((pendingOf s)[i]?,(pendingOf s)[i+1]?)|unsupported "internal:list.sort.pending"
 set (setPending s (((pendingOf s).setIfInBounds i (sa,na+nb,Pd)).eraseIdxIfInBounds (i+1)))
 let some k <- eT false (<-elem' (arrOf s) sb) (arrOf s) sa na 0|return false
 let (sa,na):=(sa+k,na-k)
 if na==0 then return true
 let some nb <- eT true (<-elem' (arrOf s) (sa+na-1)) (arrOf s) sb nb (nb-1)|return false
 if nb==0 then return true
 let x:=(arrOf s).extract sa sb
 let y:=(arrOf s).extract sb (sb+nb)
 let merged <- if na<=nb then qC x y else qD x y
 modify fun s=>setArr s (merged.toList.zipIdx.foldl (fun a (p,j)=>a.setIfInBounds (sa+j) p) (arrOf s))
 return (failedOf (<-get)).isNone):=rfl
theorem qJ:∀ (l:List Keyed) (k:Nat) (arr:Array Keyed),sa+k+l.length<=arr.size->
  ((l.zipIdx k).foldl (fun (a:Array Keyed) (x:Keyed×Nat)=>a.setIfInBounds (sa+x.2) x.1) arr).toList=arr.toList.take (sa+k)++l++arr.toList.drop (sa+k+l.length)
 |[],k,arr,_=>by simp
 |x::l,k,arr,h=>by
  rw[cw] at h;have hs:sa+k<arr.toList.length:=by rw[ip];lia
  rw[List.zipIdx_cons,t9,qJ l (k+1) _ (by rw[Array.size_setIfInBounds];lia),xB];dsimp only;have e1:(arr.toList.set (sa+k) x).take (sa+(k+1))=arr.toList.take (sa+k)++[x]:=by
   rw[<-uc,iq,pI hs,List.take_set_of_le (aZ _)];rfl
  have e2:(arr.toList.set (sa+k) x).drop (sa+(k+1)+l.length)=arr.toList.drop (sa+k+(x::l).length):=by
   rw[List.drop_set_of_lt (by lia),cw];congr 1;lia
  rw[e1,e2,jc,jc,jc];rfl
section
variable {prog:Program} {w:World} {A:Around} {E:Value->Shared->Prop} {s:Shared} {κ:SortKind} {a₀:Array Keyed} {key:Keyed->Int}
theorem uZ:kk key a i=(a.toList[i]?.map key).getD 0:=by unfold kk;rw[kN]
theorem ig(h:k<j-i):kk key (a.extract i j) k=kk key a (i+k):=by
 rw[uZ,uZ,fk,List.getElem?_take,ao h,List.getElem?_drop]
def SR(κ:SortKind)(a₀:Array Keyed)(key:Keyed->Int)(lo:Nat)(st:SortSt):Prop:=∃pd,SQ κ a₀ pd st/\gu key (arrOf st) pd.toList 0 lo/\lo<=a₀.size
theorem G0(h1:sa+k<=sb)(h2:sb+k2<=e)(he:e<=a.size)(hl:out.length=sb+k2-(sa+k))(wl:a'.toList=a.toList.take (sa+k)++out++a.toList.drop (sb+k2))(s1:So key a sa sb)(s2:So key a sb e)(so:out.Pairwise fun x y=>key x<=key y)(g1:∀i,sa<=i->i<sa+k->kk key a i<=b)(g2:∀i,sb+k2<=i->i<e->t<=kk key a i)(go:∀x∈out,b<=key x/\key x<=t)(gb:∀i,sb+k2<=i->i<e->b<=kk key a i):
  So key a' sa e/\l4 a a' sa e:=by
 have tl:(a.toList.take (sa+k)).length=sa+k:=by rw[jf,ip];lia
 have p1:∀i,i<sa+k->a'[i]?=a[i]?:=fun i hi=>by
  rw[<-kN,wl,jc,ja (by rw[tl];exact hi),List.getElem?_take,ao hi,kN]
 have p3:∀i,sb+k2<=i->a'[i]?=a[i]?:=fun i hi=>by
  rw[<-kN,wl,n8 (by rw[cr,tl,hl];lia),cr,tl,hl,List.getElem?_drop,kN];congr 1;lia
 have p2:∀i,sa+k<=i->i<sb+k2->∃h:i-(sa+k)<out.length,kk key a' i=key out[i-(sa+k)]:=fun i hi lZ=>by
  have hh:i-(sa+k)<out.length:=by lia
  refine⟨hh,?_⟩;rw[uZ,wl,jc,n8 (by rw[tl];exact hi),tl,ja hh,cm hh];rfl
 refine⟨fun i j hi GS hj=>?_,fun i hi=>?_⟩
 .by_cases c1:i<sa+k
  .rw[fU (p1 i c1)];by_cases c2:j<sa+k
   .rw[fU (p1 j c2)];exact s1 i j hi GS (by lia)
   .have:=g1 i hi c1;by_cases c3:j<sb+k2
    .obtain⟨hh,e⟩:=p2 j (by lia) c3;have:=(go _ (jg hh)).1;rw[e];lia
    .rw[fU (p3 j (by lia))];have:=gb j (by lia) hj;lia
  .by_cases c2:i<sb+k2
   .obtain⟨hh,ei⟩:=p2 i (by lia) c2;rw[ei];by_cases c3:j<sb+k2
    .obtain⟨hh',ej⟩:=p2 j (by lia) c3;rw[ej];by_cases c4:i=j
     .subst c4;exact lD _
     .exact rQ.mp so _ _ hh hh' (by lia)
    .rw[fU (p3 j (by lia))];have:=(go _ (jg hh)).2;have:=g2 j (by lia) hj;lia
   .rw[fU (p3 i (by lia)),fU (p3 j (by lia))];exact s2 i j (by lia) GS hj
 .rcases hi with hi|hi
  .exact p1 i (by lia)
  .exact p3 i (by lia)
theorem jP{st:SortSt}{i lo:Nat}{Q:Bool->SortSt->Prop}(hC:uV prog w A s κ a₀ key)(hB:SR κ a₀ key lo st)(hi:i+1<(pendingOf st).size)(h:∀aS,SR κ a₀ key lo aS->l4 (arrOf st) (arrOf aS) 0 lo->(pendingOf aS).size+1=(pendingOf st).size->Q true aS):wpS (model prog w) A E s (mergeAt' i) Q st:=by
 obtain⟨pd,hq,hr,vZ⟩:=hB;rw[hq.pend] at hi h;rw[wI];refine av (fX ?_);have e1:pd[i]?=some pd[i]:=df pd i (by lia);have e2:pd[i+1]?=some pd[i+1]:=df pd (i+1) hi;obtain⟨_,a1,a2,a3,a4,b1,b2,a5⟩:=hr.two (i:=i) (x:=pd[i]) (y:=pd[i+1]) (by simpa using e1) (by simpa using e2);rw[hq.pend,e1,e2];revert a1 a2 a3 a4 a5 b1 b2;generalize pd[i]=x;generalize pd[i+1]=y;obtain⟨sa,na,pw⟩:=x;obtain⟨sb,nb,pw2⟩:=y;intro a1 a2 a3 a4 b1 b2 a5;dsimp only at a1 a2 a3 a4 a5 b1 b2 |-;obtain⟨FH,Lf⟩:∃FH,FH=(pd.setIfInBounds i (sa,na+nb,pw)).eraseIdxIfInBounds (i+1):=⟨_,rfl⟩
 have X_:FH.size+1=pd.size:=by
  rw[Lf,<-ip,Cy,xB,List.length_eraseIdx,lm,ao (by simpa using hi),ip];lia
 have vA:∀a',l4 (arrOf st) a' sa (sb+nb)->So key a' sa (sb+nb)->gu key a' FH.toList 0 lo:=by
  intro a' o so;rw[Lf,Cy,xB];exact a5 pw a' o so
 refine av (GZ ?_);rw[<-Lf];have Jo:SM κ (arrOf st) FH (setPending st FH):=⟨rfl,hq.kind,hq.failed,rfl⟩
 have hsz:=hq.size;have sK:∀x∈(arrOf st).toList,x∈a₀.toList:=fun x hx=>(kJ.mp hq.perm).mem_iff.mp hx;have fin:∀aS,SM κ (arrOf st) FH aS->So key (arrOf st) sa (sb+nb)->Q true aS:=fun aS m so=>h aS ⟨FH,⟨by rw[m.arr];exact hq.perm,m.kind,m.failed,m.pend⟩,by rw[m.arr];exact vA _ l4.refl so,vZ⟩ (by rw[m.arr];exact l4.refl) (by rw[m.pend];exact X_);refine av (bj (df (arrOf st) sb (by lia)) ?_);refine av (fE hC Jo.kind (sK _ (by simp)) sK (by lia) (by lia) (by rw[a1];exact b1) fun k hk q1 q2=>?_);rw[<-cJ (key:=key) (a:=arrOf st) (i:=sb) (by lia)] at q1 q2;simp only[qH,l7,fA] at q1 q2;dsimp only;by_cases f1:(na-k==0)=true
 .rw[ao f1];have g1:na-k=0:=by simpa using f1
  refine aJ (fin _ Jo fun i j h1 h2 h3=>?_);by_cases c1:j<sb
  .exact b1 i j h1 h2 c1
  .by_cases c2:i<sb
   .have:=q1 (i-sa) (by lia);rw[show sa+(i-sa)=i by lia] at this;have:=b2 sb j (by lia) (by lia) h3;lia
   .exact b2 i j (by lia) h2 h3
 rw[ap f1];have g1:¬ (na-k=0):=by simpa using f1
 have el:sa+k+(na-k)-1=sb-1:=by lia
 rw[el];refine av (bj (df (arrOf st) (sb-1) (by lia)) ?_);refine av (fE hC Jo.kind (sK _ (by simp)) sK (by lia) (by lia) b2 fun k2 K_ q3 q4=>?_);rw[<-cJ (key:=key) (a:=arrOf st) (i:=sb-1) (by lia)] at q3 q4;simp only[qH,iO] at q3 q4;dsimp only;by_cases f2:(k2==0)=true
 .rw[ao f2];have g2:k2=0:=by simpa using f2
  refine aJ (fin _ Jo fun i j h1 h2 h3=>?_);by_cases c1:j<sb
  .exact b1 i j h1 h2 c1
  .by_cases c2:i<sb
   .have:=q4 (j-sb) (by lia) (by lia);rw[show sb+(j-sb)=j by lia] at this;have:=b1 i (sb-1) h1 (by lia) (by lia);lia
   .exact b2 i j (by lia) h2 h3
 rw[ap f2];have g2:¬ (k2=0):=by simpa using f2
 have sx:((arrOf st).extract (sa+k) sb).size=sb-(sa+k):=by rw[Array.size_extract];lia
 have sy:((arrOf st).extract sb (sb+k2)).size=k2:=by rw[Array.size_extract];lia
 have T:wC key a₀ ((arrOf st).extract (sa+k) sb) ((arrOf st).extract sb (sb+k2)):=by
  refine⟨fun x hx=>sK x (by rw[fk] at hx;exact tL (mU hx)),fun x hx=>sK x (by rw[fk] at hx;exact tL (mU hx)),by lia,by lia,fun i j h1 h2 h3=>?_,fun i j h1 h2 h3=>?_,?_,fun i hi=>?_⟩
  .rw[sx] at h3;rw[ig (by lia),ig (by lia)];exact b1 _ _ (by lia) (by lia) (by lia)
  .rw[sy] at h3;rw[ig (by lia),ig (by lia)];exact b2 _ _ (by lia) (by lia) (by lia)
  .rw[ig (by lia),ig (by lia)];have:=q2 k (by lia) (by lia);rw[h_,h_];lia
  .rw[sy] at hi;rw[sx,ig (by lia),ig (by lia)];have:=q3 i hi;rw[show sa+k+(sb-(sa+k)-1)=sb-1 by lia];lia
 have last:∀ (out:Array Keyed) (aS:SortSt),Fi key ((arrOf st).extract (sa+k) sb) ((arrOf st).extract sb (sb+k2)) out->SM κ (arrOf st) FH aS->wpS (model prog w) A E s (do
   modify fun s=>setArr s (out.toList.zipIdx.foldl (fun a (p,j)=>a.setIfInBounds (sa+k+j) p) (arrOf s))
   return (failedOf (<-get)).isNone) Q aS:=by
  intro out aS hF m;obtain⟨hp,so⟩:=hF;refine av (fz ?_);refine av (fX (aJ ?_));have Ya:out.toList.length=sb-(sa+k)+k2:=by
   rw[ip,hp.size_eq,Array.size_append,sx,sy]
  have wl:=qJ (sa:=sa+k) out.toList 0 (arrOf aS) (by rw[m.arr,Ya];lia);have e3:sa+k+(sb-(sa+k)+k2)=sb+k2:=by lia
  rw[m.arr,Ya,h_,e3] at wl;have Jn:=kJ.mp hp;rw[n_] at Jn;have pm:(out.toList.zipIdx.foldl (fun a (p,j)=>a.setIfInBounds (sa+k+j) p) (arrOf st)).Perm (arrOf st):=by
   rw[kJ];refine(t_ wl).trans ?_;rw[fk,fk] at Jn;refine((Jn.append_left _).append_right _).trans ?_;have e1:(arrOf st).toList.drop (sa+k)=((arrOf st).toList.drop (sa+k)).take (sb-(sa+k))++(arrOf st).toList.drop sb:=wF (by lia);have e2:(arrOf st).toList.drop sb=((arrOf st).toList.drop sb).take (sb+k2-sb)++(arrOf st).toList.drop (sb+k2):=wF (by lia);refine t_ ?_;conv=>rhs;rw[<-xL (sa+k) (arrOf st).toList,e1,e2]
   simp only[jc]
  have hf:(failedOf aS).isNone=true:=by rw[m.failed];rfl
  show Q (failedOf aS).isNone _;rw[hf];have go:∀x∈out.toList,kk key (arrOf st) sb<=key x/\key x<=kk key (arrOf st) (sb-1):=by
   intro x hx;rcases bq.mp (Jn.mem_iff.mp hx) with z|z
   .obtain⟨n,hn,rfl⟩:=mV.mp z;rw[ip] at hn;have e:key (((arrOf st).extract (sa+k) sb).toList[n]'(by rw[ip];exact hn))=kk key (arrOf st) (sa+k+n):=by
     rw[<-ig (i:=sa+k) (j:=sb) (by lia),cJ hn,xO]
    rw[e];have h1:=q2 (k+n) (by lia) (by lia);rw[<-uc] at h1;have h2:=b1 (sa+k+n) (sb-1) (by lia) (by lia) (by lia);lia
   .obtain⟨n,hn,rfl⟩:=mV.mp z;rw[ip] at hn;have e:key (((arrOf st).extract sb (sb+k2)).toList[n]'(by rw[ip];exact hn))=kk key (arrOf st) (sb+n):=by
     rw[<-ig (i:=sb) (j:=sb+k2) (by lia),cJ hn,xO]
    rw[e];have h1:=q3 n (by lia);have h2:=b2 sb (sb+n) (by lia) (by lia) (by lia);lia
  have bk:=G0 (key:=key) (a:=arrOf st) (a':=out.toList.zipIdx.foldl (fun a (p,j)=>a.setIfInBounds (sa+k+j) p) (arrOf st)) (out:=out.toList) (sa:=sa) (k:=k) (sb:=sb) (k2:=k2) (e:=sb+nb) (by lia) (by lia) (by lia) (by lia) wl b1 b2 so (b:=kk key (arrOf st) sb) (t:=kk key (arrOf st) (sb-1))
   (fun i h1 h2=>by have:=q1 (i-sa) (by lia);rw[show sa+(i-sa)=i by lia] at this;lia) (fun i h1 h2=>by have:=q4 (i-sb) (by lia) (by lia);rw[show sb+(i-sb)=i by lia] at this;lia) go (fun i h1 h2=>b2 sb i (by lia) (by lia) h2)
  have ea:arrOf (setArr aS (out.toList.zipIdx.foldl (fun a (p,j)=>a.setIfInBounds (sa+k+j) p) (arrOf aS)))=out.toList.zipIdx.foldl (fun a (p,j)=>a.setIfInBounds (sa+k+j) p) (arrOf st):=by rw[m.arr]
  refine h _ ⟨FH,⟨by rw[ea];exact pm.trans hq.perm,m.kind,m.failed,m.pend⟩,by rw[ea];exact vA _ bk.2 bk.1,vZ⟩ (by rw[ea];exact bk.2.wide (by lia) (by lia)) (by show (pendingOf aS).size+1=_;rw[m.pend];exact X_)
 by_cases f3:na-k<=k2
 .rw[ao f3];exact av (wD hC Jo T fun out aS hp m=>last out aS hp m)
 .rw[ap f3];exact av (wH hC Jo T fun out aS hp m=>last out aS hp m)
theorem wJ[Decidable c]:(if c then x-1 else x)<=x:=by split <;> lia
theorem SR.pw{lo:Nat}{st:SortSt}(h:SR κ a₀ key lo st)(i p:Nat):SR κ a₀ key lo (setPending st ((pendingOf st).modify i fun r=>(r.1,r.2.1,p))):=by
 obtain⟨pd,hq,hr,hl⟩:=h;refine⟨_,⟨hq.perm,hq.kind,hq.failed,rfl⟩,?_,hl⟩;show gu key (arrOf st) ((pendingOf st).modify i fun r=>(r.1,r.2.1,p)).toList 0 lo;rw[hq.pend,Array.toList_modify];exact hr.pw i p
theorem SR.push{lo n:Nat}{st:SortSt}(h:SR κ a₀ key lo st)(h1:1<=n)(hn:lo+n<=a₀.size)(so:So key (arrOf st) lo (lo+n)):SR κ a₀ key (lo+n) (setPending st ((pendingOf st).push (lo,n,0))):=by
 obtain⟨pd,hq,hr,hl⟩:=h;refine⟨_,⟨hq.perm,hq.kind,hq.failed,rfl⟩,?_,hn⟩;show gu key (arrOf st) ((pendingOf st).push (lo,n,0)).toList 0 (lo+n);rw[hq.pend,jd];exact hr.push h1 so
theorem BW{st:SortSt}{Q:Unit->SortSt->Prop}(hC:uV prog w A s κ a₀ key)(hp:(arrOf st).Perm a₀)(hk:kindOf st=κ)(hf:failedOf st=none)(hpd:pendingOf st=#[])(h:∀aS,(arrOf aS).Perm a₀->failedOf aS=none->So key (arrOf aS) 0 a₀.size->Q () aS):wpS (model prog w) A E s sortRuns' Q st:=by
 have h0:SR κ a₀ key 0 st:=⟨#[],⟨hp,hk,hf,hpd⟩,rfl,dg _⟩
 have hsz:(arrOf st).size=a₀.size:=hp.size_eq;rw[sortRuns'_eq];refine av (fX ?_);dsimp only;rw[hsz];refine av (dA (fO (I:=fun i c aS=>∃lo,c=(none,lo)/\SR κ a₀ key lo aS/\i<=lo) (Q:=fun c aS=>∃lo,c=(none,lo)/\SR κ a₀ key lo aS/\a₀.size<=lo) ?_ (fun c aS ⟨lo,a,b,c⟩=>⟨lo,a,b,by lia⟩) ⟨0,rfl,h0,by lia⟩) ?_)
 .rintro i c Cq _ _ ⟨lo,rfl,hR,hil⟩;by_cases e1:lo>=a₀.size
  .dsimp only;rw[ao e1];exact aJ ⟨lo,rfl,hR,e1⟩
  have vZ:lo<a₀.size:=by lia
  obtain⟨pd,hq,hr,hl⟩:=hR;dsimp only;rw[ap e1];refine av (BV hC (by lia) (by lia) hq fun n gU R1 n1 n2 so ou=>?_);have Np:gu key (arrOf gU) pd.toList 0 lo:=hr.keep fun i _ h2=>ou i (.inl h2);dsimp only;by_cases hm:n<minRun' a₀.size a₀.size 0
  .rw[ao hm];refine av (lG (iN ⟨rfl,?_⟩));refine av (GQ hC (by lia) (by lia) R1 so fun uv XF Yb DL=>?_);simp only[ud,l7,fA];have vB:SR κ a₀ key lo uv:=⟨pd,XF,Np.keep fun i _ h2=>DL i (.inl h2),hl⟩
   refine av (fX ?_);cases hb:(pendingOf uv).back? with
   |none=>
    dsimp only;exact av (fz (aJ ⟨_,rfl,SR.push vB (by lia) (by lia) Yb,by lia⟩))
   |some r=>
    obtain⟨s1,n1',pw1⟩:=r;dsimp only;refine av (dA (fO (I:=fun _ c aS=>c=(none,())/\SR κ a₀ key lo aS/\So key (arrOf aS) lo (lo+min (a₀.size-lo) (minRun' a₀.size a₀.size 0))) (Q:=fun c aS=>c=(none,())/\SR κ a₀ key lo aS/\So key (arrOf aS) lo (lo+min (a₀.size-lo) (minRun' a₀.size a₀.size 0))) ?_ (fun c aS hh=>hh) ⟨rfl,vB,Yb⟩) ?_)
    .rintro x c rm _ _ ⟨rfl,rp,DP⟩;refine av (fX ?_);by_cases hs:(pendingOf rm).size > 1
     .rw[ao hs,df (pendingOf rm) ((pendingOf rm).size-2) (by lia)];generalize (pendingOf rm)[(pendingOf rm).size-2]=r4;obtain⟨_,_,Pf⟩:=r4;dsimp only;split
      .exact aJ ⟨rfl,rp,DP⟩
      .refine av (jP hC rp (by lia) fun zO Pg ou _=>?_);simp only[ud,l7,fA];exact aJ ⟨rfl,Pg,DP.keep fun i h1 _=>ou i (.inr h1)⟩
     .rw[ap hs];exact aJ ⟨rfl,rp,DP⟩
    .rintro c rm ⟨rfl,rp,DP⟩;dsimp only;exact av (fz (av (fz (aJ ⟨_,rfl,(rp.pw _ _).push (by lia) (by lia) DP,by lia⟩))))
  .rw[ap hm];have vB:SR κ a₀ key lo gU:=⟨pd,R1,Np,hl⟩
   refine av (fX ?_);cases hb:(pendingOf gU).back? with
   |none=>
    dsimp only;exact av (fz (aJ ⟨_,rfl,SR.push vB n1 (by lia) so,by lia⟩))
   |some r=>
    obtain⟨s1,n1',pw1⟩:=r;dsimp only;refine av (dA (fO (I:=fun _ c aS=>c=(none,())/\SR κ a₀ key lo aS/\So key (arrOf aS) lo (lo+n)) (Q:=fun c aS=>c=(none,())/\SR κ a₀ key lo aS/\So key (arrOf aS) lo (lo+n)) ?_ (fun c aS hh=>hh) ⟨rfl,vB,so⟩) ?_)
    .rintro x c rm _ _ ⟨rfl,rp,DP⟩;refine av (fX ?_);by_cases hs:(pendingOf rm).size > 1
     .rw[ao hs,df (pendingOf rm) ((pendingOf rm).size-2) (by lia)];generalize (pendingOf rm)[(pendingOf rm).size-2]=r4;obtain⟨_,_,Pf⟩:=r4;dsimp only;split
      .exact aJ ⟨rfl,rp,DP⟩
      .refine av (jP hC rp (by lia) fun zO Pg ou _=>?_);simp only[ud,l7,fA];exact aJ ⟨rfl,Pg,DP.keep fun i h1 _=>ou i (.inr h1)⟩
     .rw[ap hs];exact aJ ⟨rfl,rp,DP⟩
    .rintro c rm ⟨rfl,rp,DP⟩;dsimp only;exact av (fz (av (fz (aJ ⟨_,rfl,(rp.pw _ _).push n1 (by lia) DP,by lia⟩))))
 .rintro c Cq ⟨lo,rfl,hR,vZ⟩;dsimp only;refine av (dA (fO (I:=fun i c aS=>c=(none,())/\SR κ a₀ key lo aS/\(pendingOf aS).size<=max 1 (a₀.size-i)) (Q:=fun c aS=>c=(none,())/\SR κ a₀ key lo aS/\(pendingOf aS).size<=1) ?_ ?_ ⟨rfl,hR,?_⟩) ?_)
  .rintro x c rm _ _ ⟨rfl,rp,hz⟩;refine av (fX ?_);by_cases hs:(pendingOf rm).size<=1
   .rw[ao hs];exact aJ ⟨rfl,rp,hs⟩
   rw[ap hs];refine av (jP hC rp ?_ fun zO Pg _ hz5=>?_)
   .exact gh (Nat.succ_le_succ wJ) (show (pendingOf rm).size-2+1<(pendingOf rm).size by lia)
   .simp only[ud,l7,fA];exact aJ ⟨rfl,Pg,by lia⟩
  .rintro c rm ⟨rfl,rp,hz⟩;exact⟨rfl,rp,by lia⟩
  .obtain⟨pd,hq,hr,hl⟩:=hR;have:=hr.le;rw[hq.pend];simp at this;lia
  .rintro c rm ⟨rfl,⟨pd,hq,hr,hl⟩,hz⟩;refine aJ (h _ hq.perm hq.failed ?_);rw[hq.pend] at hz;have UI:pd.toList.length<=1:=by simpa using hz
   have e:lo=a₀.size:=by lia
   subst e;revert UI;revert hr;cases pd.toList with
   |nil=>intro hr _ i j _ _ hj;have:0=a₀.size:=hr;lia
   |cons r rs=>
    cases rs with
    |nil=>intro hr _;obtain⟨_,_,so,e⟩:=hr;have e:0+r.2.1=a₀.size:=e;rw[<-e];exact so
    |cons r2 rs=>intro _ hz;simp at hz
end
end PyProof.Rows
namespace L2
open PySem PySem.Spec PyProof.Rows PySem.W
def i6(h:Heap)(g:Addr->Int×Int)(vs:List Value):Prop:=∀v∈vs,∃a o n t u,v=Value.ref a/\h.get? a=some o/\o.cls=.type "tuple"/\o.data=.seq #[.int (g a).1 t,.int (g a).2 u] n/\0<=(g a).2/\(g a).2<64
def pk(u:Int×Int):Int:=64*u.1+u.2
def kv(g:Addr->Int×Int)(v:Value):Int:=match v with
 |.ref a=>pk (g a)
 |_=>0
theorem i6.lH:∀ {vs:List Value},i6 h g vs->∃fs,KatTups h vs fs/\fs.length=vs.length/\∀v∈fs,∃n t,v=Value.int n t
 |[],_=>⟨[],trivial,rfl,fun v hv=>nomatch hv⟩
 |v::vs,hp=>by
  obtain⟨fs,k1,k2,k3⟩:=i6.lH (vs:=vs) fun b hb=>hp b (cC _ hb);obtain⟨a,o,n,t,u,rfl,e,c,d,_⟩:=hp v b9;refine⟨.int (g a).1 t::fs,KatTups.cons e c d rfl k1,by simp[k2],fun v hv=>?_⟩;rcases bL.mp hv with z|z
  .exact⟨_,t,z⟩
  .exact k3 v z
section
variable {prog:Program} {w:World} {A:Around} {E:Value->Shared->Prop} {s:Shared} {g:Addr->Int×Int}
theorem BX(hp:i6 s.heap g vs):uV prog w A s (tuples' true) (vs.toArray.zip vs.toArray) (fun x=>kv g x.1):=by
 have mem:∀x∈(vs.toArray.zip vs.toArray).toList,x.1∈vs:=by
  intro x hx;rw[ye] at hx;exact(m4 hx).1
 intro x y hx hy Q E' q;obtain⟨a,o,n,t1,t2,e1,eo,_,ed,a1,a2⟩:=hp x.1 (mem x hx);obtain⟨b,o',n',u1,u2,e2,eo',_,ed',b1,b2⟩:=hp y.1 (mem y hy);replace q:∀c,c=decide (kv g x.1<kv g y.1)->Q c s:=fun c e=>e ▸ q;rw[e1,e2] at q;rw[e1,e2];replace q:∀c,c=decide (64*(g a).1+(g a).2<64*(g b).1+(g b).2)->Q c s:=q;generalize (g a).1=x1 at *;generalize (g a).2=x2 at *;generalize (g b).1=y1 at *;generalize (g b).2=y2 at *;refine kat_lt eo ed eo' ed' (kat_cons (ym ?_));by_cases h1:x1=y1
 .rw[gZ.mpr h1];refine kat_yes (kat_cons (ym ?_));by_cases h2:x2=y2
  .rw[gZ.mpr h2];exact kat_yes (kat_nil (q _ (by
    have e:decide (64*x1+x2<64*y1+y2)=false:=cE (by lia);rw[e];rfl)))
  .rw[kO.mpr h2];exact kat_no (kat_one _ _ (lt_int (q _ (by congr 1;rw[eq_iff_iff];lia))))
 .rw[kO.mpr h1];exact kat_no (oneLt_int (q _ (by congr 1;rw[eq_iff_iff];lia)))
theorem G4{vs:List Value}:((vs.toArray.zip vs.toArray).map (·.2)).toList=vs:=by
 rw[pS,ye];show (vs.zip vs).map (·.2)=vs;rw[<-List.unzip_snd,List.unzip_zip_right (aZ _)]
theorem DQ{l:List Value}{p:Value×Value}:p∈l.zip l->p.2=p.1:=by
 induction l with
 |nil=>intro h;cases h
 |cons x l ih=>
  intro h;rw[List.zip_cons_cons] at h;rcases bL.mp h with z|z
  .rw[z]
  .exact ih z
theorem oP(ho:s.heap.get? a=some (seqObj "list" vs.toArray n))(hp:i6 s.heap g vs)(hz:vs.length<=4096)(h:∀ (out:Array Value),out.toList.Perm vs->out.toList.Pairwise (fun u v=>kv g u<=kv g v)->P (.done (.ret .none)) { s with heap:=sortedHeap s.heap a vs out }):
  wpAny (model prog w) A (Builtin.«list.sort» ⟨[.ref a],[]⟩) P E s:=by
 rw[list_sort_plain];have ha:a<s.heap.objs.size:=aX ho;have Sh:vs.toArray.size<=sizeLine:=by rw[cu,iM];lia
 refine aI (listItems_at ho rfl ?_);refine aI (listUpdate_at ho rfl ?_ Sh (dg _));obtain⟨e1,Si⟩:∃e1,(s.heap.update a (Obj.mapSeq fun _=>#[])).get? a=some (seqObj "list" #[] e1):=⟨_,get?_update_seq ho (fun _=>#[])⟩
 refine aI (seqEpoch_at Si rfl ?_);refine aI (wpAny_newTuple ?_ (by show vs.length<=_;rw[iM];lia));refine aI (wpAny_newList ?_ (dg _));refine jw ?_;have Nq:(((s.heap.update a (Obj.mapSeq fun _=>#[])).push (seqObj "tuple" vs.toArray 0)).push (seqObj "list" #[] 0)).get? a=some (seqObj "list" #[] e1):=by
  rw[je _ _ _ (by rw[lF,kQ];exact aW (fc ha)),je _ _ _ (by rw[kQ];exact aW ha)];exact Si
 have Yc:i6 (((s.heap.update a (Obj.mapSeq fun _=>#[])).push (seqObj "tuple" vs.toArray 0)).push (seqObj "list" #[] 0)) g vs:=by
  intro v hv;obtain⟨b,o,n,t,u,ev,e,c,d⟩:=hp v hv;have hb:b<s.heap.objs.size:=aX e;have jp:b≠a:=by
   rintro rfl;rw[ho] at e;cases e;exact absurd (Value.type.inj c) (by decide)
  refine⟨b,o,n,t,u,ev,?_,c,d⟩;rw[je _ _ _ (by rw[lF,kQ];exact aW (fc hb)),je _ _ _ (by rw[kQ];exact aW hb),pP _ _ _ _ jp];exact e
 show wpAny (model prog w) A _ P E { s with heap:=((s.heap.update a (Obj.mapSeq fun _=>#[])).push (seqObj "tuple" vs.toArray 0)).push (seqObj "list" #[] 0) };dsimp only;have fin:∀aS:SortSt,(arrOf aS).Perm (vs.toArray.zip vs.toArray)->So (fun x=>kv g x.1) (arrOf aS) 0 (arrOf aS).size->P (.done (.ret .none)) { s with heap:=sortedHeap s.heap a vs ((arrOf aS).map (·.2)) }:=by
  intro aS Nr so;refine h _ ?_ ?_
  .have:=(kJ.mp Nr).map (·.2);rw[<-pS,<-pS,G4] at this;exact this
  .have same:∀p∈(arrOf aS).toList,p.2=p.1:=by
    intro p hp;have:=(kJ.mp Nr).mem_iff.mp hp;rw[ye] at this;exact DQ this
   rw[pS,ir];refine rQ.mpr fun i j hi hj GS=>?_;rw[same _ (jg hi),same _ (jg hj)];have:=so i j (by lia) (by lia) (by simpa using hj);rw[cJ (by simpa using hi),cJ (by simpa using hj)] at this;simpa using this
 have UW:(vs.toArray.zip vs.toArray).size=vs.length:=by simp
 by_cases h2:vs.toArray.size<2
 .rw[ao h2,ao h2];refine aI (wpAny_pure ?_);rw[StateT.run_pure];refine aI (wpAny_pure ?_);dsimp only;refine aI (seqEpoch_at Nq rfl ?_);refine aI (listUpdate_at Nq rfl ?_ (dg _) (by show ((vs.toArray.zip vs.toArray).map (·.2)).size<=_;rw[iJ,UW,iM];lia));simp only[bne_self_eq_false,l7,fA];exact wpAny_pure (fin (SortSt.mk' general' (vs.toArray.zip vs.toArray) #[] 7 none) (Array.Perm.refl _) fun i j _ h3 h4=>by
   have h4:j<(vs.toArray.zip vs.toArray).size:=h4;rw[UW] at h4;rw[cu] at h2;rw[show i=j by lia];exact lD _)
 .rw[ap h2,ap h2];have dZ:2<=vs.length:=by rw[cu] at h2;lia
  obtain⟨fs,k1,k2,k3⟩:=Yc.lH;refine aI (kat_kind (T:=.type "int") k1 (by lia) (fun v hv=>?_) rfl ?_)
  .obtain⟨m,t,rfl⟩:=k3 v hv;exact .now
  refine aI (ic (BW (a₀:=vs.toArray.zip vs.toArray) (κ:=tuples' true) (st:=SortSt.mk' (tuples' true) (vs.toArray.zip vs.toArray) #[] 7 none)
   (Q:=fun _ aS=>(arrOf aS).Perm (vs.toArray.zip vs.toArray)/\failedOf aS=none/\So (fun x=>kv g x.1) (arrOf aS) 0 (vs.toArray.zip vs.toArray).size) (BX Yc) (Array.Perm.refl _) rfl rfl rfl fun aS b1 b2 b3=>⟨b1,b2,b3⟩) ?_ fun _ _ e=>e)
  rintro⟨⟨⟩,aS⟩ s' ⟨rfl,Nr,hf,so⟩;dsimp only;refine aI (seqEpoch_at Nq rfl ?_);refine aI (listUpdate_at Nq rfl ?_ (dg _) (by refine br (ug ((iJ ..).trans (Nr.size_eq.trans UW))) ?_;rw[iM];lia));rw[hf];simp only[bne_self_eq_false,l7,fA];exact wpAny_pure (fin aS Nr (by rw[Nr.size_eq];exact so))
theorem u0(hl:s.heap.IsList l vs.toArray)(hp:i6 s.heap g vs)(hz:vs.length<=4096)(h:∀ (out:Array Value),out.toList.Perm vs->out.toList.Pairwise (fun u v=>kv g u<=kv g v)->Q (.ref (s.heap.objs.size+1)) { s with heap:=sortedAll s.heap vs out }):
  wpAny (model prog w) A (call (.builtin "sorted") [.ref l]) Q E s:=by
 have Sh:vs.length<=sizeLine:=by rw[iM];lia
 refine Calls.call_function_entry kind_sorted plain_sorted entry_sorted (args_sorted1 _) ?_;unfold Builtin.«sorted»;refine aI (m:=checkCount "sorted" 1 1 _) (wpAny_pure ?_);refine aI (collect_list hl ?_ Sh);refine aI (wpAny_newList ?_ Sh);have hsz:((s.heap.push (seqObj "list" #[] 0)).update s.heap.objs.size (Obj.mapSeq (·++vs.toArray))).objs.size=s.heap.objs.size+1:=by
  rw[kQ,lF]
 have Ja:(((s.heap.push (seqObj "list" #[] 0)).update s.heap.objs.size (Obj.mapSeq (·++vs.toArray))).push (seqObj "list" vs.toArray 0)).get? (s.heap.objs.size+1)=some (seqObj "list" vs.toArray 0):=by
  rw[<-hsz];exact cW _ rfl
 have UO:i6 (((s.heap.push (seqObj "list" #[] 0)).update s.heap.objs.size (Obj.mapSeq (·++vs.toArray))).push (seqObj "list" vs.toArray 0)) g vs:=by
  intro v hv;obtain⟨b,o,n,t,u,ev,e,c,d⟩:=hp v hv;have hb:b<s.heap.objs.size:=aX e;refine⟨b,o,n,t,u,ev,?_,c,d⟩;rw[je _ _ _ (by rw[hsz];exact aW (fc hb)),pP _ _ _ _ (aW hb),je _ _ _ (aW hb)];exact e
 show wpAny _ _ _ _ _ { s with heap:=((s.heap.push (seqObj "list" #[] 0)).update s.heap.objs.size (Obj.mapSeq (·++vs.toArray))).push (seqObj "list" vs.toArray 0) };rw[hsz];refine aI (jw (pV slot_list_sort ⟨_,Ja,rfl⟩ entry_list_sort (oP Ja UO hz fun out a1 a2=>⟨_,rfl,?_⟩) (args_list_sort _)));exact wpAny_pure ⟨_,rfl,h out a1 a2⟩
end
theorem wK:∀ {as:List Addr} {its:List Value},aV (as.map V.ref) its->its=as.map Value.ref
 |[],_,r=>by cases r;rfl
 |a::as,_,r=>by
  cases r with
  |cons r rr=>
   obtain rfl:=(show _=Value.ref a from r)
   rw[wK rr];rfl
theorem sO:∀ {as:List Addr},aV (as.map V.ref) (as.map Value.ref)
 |[]=>.nil
 |_::_=>.cons rfl sO
theorem BY(h:vs.Perm (as.map Value.ref)):∃mT:List Addr,vs=mT.map Value.ref/\mT.Perm as:=by
 let un:Value->Addr:=fun v=>match v with|.ref a=>a|_=>0
 refine⟨vs.map un,?_,?_⟩
 .rw[fN];have:∀v∈vs,(Value.ref ∘ un) v=v:=by
   intro v hv;obtain⟨a,_,rfl⟩:=bQ.mp (h.mem_iff.mp hv);rfl
  conv=>lhs;rw[<-jD vs]
  exact jb fun v hv=>(this v hv).symm
 .have:=h.map un;rw[fN] at this;have e:as.map (un ∘ Value.ref)=as:=by
   conv=>rhs;rw[<-jD as]
   exact jb fun a _=>rfl
  rw[e] at this;exact this
def DR(K:PySem.W.Frag):List V->Hp->VK->Prop:=fun xs H Q=>∃ (l:Addr) (as:List Addr) (g:Addr->Int×Int),xs=[.ref l]/\aT K H l (as.map V.ref)/\(∀a∈as,cx K H a [.int (g a).1,.int (g a).2]/\0<=(g a).2/\(g a).2<64)/\as.length<=4096/\
 ∀ (D:Addr) (mT:List Addr),H D=none->mT.Perm as->mT.Pairwise (fun a b=>pk (g a)<=pk (g b))->Q (.ref D) (upd H D (.lst (mT.map V.ref)))
theorem qK:eO X (.builtin "sorted") (DR X.K):=by
 intro ae s σ H xs us Q I r h;obtain⟨l,as,g,rfl,hl,hp,hz,q⟩:=h;obtain⟨u1,rfl,r1⟩:=r.one;obtain rfl:u1=Value.ref l:=r1;obtain⟨its,rv,pl,_⟩:=I.list hl;have yU:=wK rv;subst yU;have hpv:i6 s.heap g (as.map Value.ref):=by
  intro v hv;obtain⟨a,ha,rfl⟩:=bQ.mp hv;obtain⟨FG,b1,b2⟩:=hp a ha;obtain⟨its,r,⟨o,e,c,n,d⟩,_⟩:=I.tuple FG;obtain⟨u1,u2,rfl,r1,r2⟩:=r.two;obtain⟨t,rfl⟩:=r1;obtain⟨t',rfl⟩:=r2;exact⟨a,o,n,t,t',rfl,e,c,d,b1,b2⟩
 refine u0 pl.isList hpv (by rw[aN];exact hz) fun out Pi Pj=>?_;obtain⟨mT,eo,pa⟩:=BY Pi;have BF:out=(mT.map Value.ref).toArray:=by rw[<-eo]
 subst BF;have ho:mT.Pairwise (fun a b=>pk (g a)<=pk (g b)):=by
  rw[eo,ir] at Pj;exact Pj
 have UX:((s.heap.push (seqObj "list" #[] 0)).update s.heap.objs.size (Obj.mapSeq (·++(as.map Value.ref).toArray))).objs.size=s.heap.objs.size+1:=by rw[kQ,lF]
 have k1:∀b u,s.heap.get? b=some u->(((s.heap.push (seqObj "list" #[] 0)).update s.heap.objs.size (Obj.mapSeq (·++(as.map Value.ref).toArray))).push (seqObj "list" (as.map Value.ref).toArray 0)).get? b=some u:=fun b u e=>by
  have hb:b<s.heap.objs.size:=aX e;rw[je _ _ _ (by rw[UX];exact aW (fc hb)),pP _ _ _ _ (aW hb),je _ _ _ (aW hb)];exact e
 have Ja:(((s.heap.push (seqObj "list" #[] 0)).update s.heap.objs.size (Obj.mapSeq (·++(as.map Value.ref).toArray))).push (seqObj "list" (as.map Value.ref).toArray 0)).get? (s.heap.objs.size+1)=some (seqObj "list" (as.map Value.ref).toArray 0):=by
  rw[<-UX];exact cW _ rfl
 have Nt:(((s.heap.push (seqObj "list" #[] 0)).update s.heap.objs.size (Obj.mapSeq (·++(as.map Value.ref).toArray))).push (seqObj "list" (as.map Value.ref).toArray 0)).objs.size=s.heap.objs.size+2:=by rw[lF,UX]
 show EP X ae σ Q (.ref (s.heap.objs.size+1)) { s with heap:=sortedHeap (((s.heap.push (seqObj "list" #[] 0)).update s.heap.objs.size (Obj.mapSeq (·++(as.map Value.ref).toArray))).push (seqObj "list" (as.map Value.ref).toArray 0)) (s.heap.objs.size+1) (as.map Value.ref) (mT.map Value.ref).toArray };revert k1 Ja Nt;generalize ((s.heap.push (seqObj "list" #[] 0)).update s.heap.objs.size (Obj.mapSeq (·++(as.map Value.ref).toArray))).push (seqObj "list" (as.map Value.ref).toArray 0)=h1;intro k1 Ja Nt;obtain⟨e1,Si⟩:∃e1,(h1.update (s.heap.objs.size+1) (Obj.mapSeq fun _=>(#[]:Array Value))).get? (s.heap.objs.size+1)=some (seqObj "list" #[] e1):=⟨_,get?_update_seq Ja (fun _=>#[])⟩
 have Nq:(((h1.update (s.heap.objs.size+1) (Obj.mapSeq fun _=>(#[]:Array Value))).push (seqObj "tuple" (as.map Value.ref).toArray 0)).push (seqObj "list" #[] 0)).get? (s.heap.objs.size+1)=some (seqObj "list" #[] e1):=by
  rw[je _ _ _ (by rw[lF,kQ,Nt];exact aW (fc (jy _))),je _ _ _ (by rw[kQ,Nt];exact aW (jy _))];exact Si
 obtain⟨e2,ho7⟩:∃e2,(sortedHeap h1 (s.heap.objs.size+1) (as.map Value.ref) (mT.map Value.ref).toArray).get? (s.heap.objs.size+1)=some (seqObj "list" (mT.map Value.ref).toArray e2):=⟨_,get?_update_seq Nq (fun _=>(mT.map Value.ref).toArray)⟩
 have keep:∀b u,s.heap.get? b=some u->(sortedHeap h1 (s.heap.objs.size+1) (as.map Value.ref) (mT.map Value.ref).toArray).get? b=some u:=fun b u e=>by
  have hb:b<s.heap.objs.size:=aX e;unfold sortedHeap;rw[pP _ _ _ _ (aW (fc hb)),je _ _ _ (by rw[lF,kQ,Nt];exact aW (fc (fc (fc hb)))),je _ _ _ (by rw[kQ,Nt];exact aW (fc (fc hb))),pP _ _ _ _ (aW (fc hb))];exact k1 b u e
 have Jx:s.heap.get? (s.heap.objs.size+1)=none:=lf (by lia);refine⟨.ref (s.heap.objs.size+1),_,I.wa (t':=s.toks) (o:=.lst (mT.map V.ref)) keep Jx ⟨?_,mT.map Value.ref,e2,sO,ho7⟩,rfl,q _ mT (I.bC.uK Jx) pa ho⟩;rw[aN,pa.length_eq];exact br hz (by decide)
open PySem PySem.Spec PyProof.Rows
section
variable {prog:Program} {w:World} {A:Around} {E:Value->Shared->Prop} {s:Shared}
end
section
variable {X:Cx}
end
end L2
namespace rJ
abbrev Ts:=List (Int×Int)
def T(ts:Ts)(a b:Nat):Prop:=(((a:Nat):Int),((b:Nat):Int))∈ts
instance (ts:Ts) (a b:Nat):Decidable (T ts a b):=inferInstanceAs (Decidable (_∈_))
def dk(ts:Ts):Nat->Nat->Nat->Prop
 |0,a,b=>a=b
 |k+1,a,b=>∃c,dk ts k a c/\T ts c b
theorem dk.trans(h:dk ts k a b):∀ {l:Nat} {c:Nat},dk ts l b c->dk ts (k+l) a c
 |0,_,e=>by cases e;exact h
 |l+1,_,⟨d,w,t⟩=>⟨d,h.trans w,t⟩
theorem dk.one(h:T ts a b):dk ts 1 a b:=⟨a,rfl,h⟩
theorem dk.cons(h:T ts a b)(w:dk ts k b c):dk ts (k+1) a c:=by
 have:=(dk.one h).trans w;rwa [Nat.add_comm] at this
theorem dk.DS{ts:Ts}:∀ {k:Nat} {a c:Nat},dk ts (k+1) a c->∃b,T ts a b/\dk ts k b c
 |0,a,c,⟨d,e,t⟩=>by cases e;exact⟨c,t,rfl⟩
 |k+1,a,c,⟨d,w,t⟩=>by
  obtain⟨b,t',w'⟩:=dk.DS w;exact⟨b,t',d,w',t⟩
def mE(ts:Ts)(a b d:Nat):Prop:=dk ts d a b/\∀k,dk ts k a b->d<=k
theorem mE.uniq(h:mE ts a b d)(g:mE ts a b e):d=e:=Nat.le_antisymm (h.2 _ g.1) (g.2 _ h.1)
theorem Lg{ts:Ts}{a b:Nat}:∀k,dk ts k a b->∃d,mE ts a b d:=by
 intro k;induction k using Nat.strongRecOn with
 |ind k ih=>
  intro w;by_cases h:∃j,j<k/\dk ts j a b
  .obtain⟨j,hj,wj⟩:=h;exact ih j hj wj
  .exact⟨k,w,fun j wj=>tD fun z=>h ⟨j,by lia,wj⟩⟩
open Classical in
noncomputable def far(ts:Ts)(a b:Nat):Nat:=if h:∃d,mE ts a b d then h.choose else 0
theorem qL(h:mE ts a b d):far ts a b=d:=by
 unfold far;have hx:∃d,mE ts a b d:=⟨d,h⟩
 rw[dif_pos hx];exact hx.choose_spec.uniq h
theorem Li{ts:Ts}{a b k:Nat}(w:dk ts k a b):mE ts a b (far ts a b):=by
 obtain⟨d,h⟩:=Lg k w;rw[qL h];exact h
structure eJ(n:Nat)(ts:Ts):Prop where
 n1:2<=n
 n2:n<=32
 nd:ts.Nodup
 rg:∀t∈ts,(0<=t.1/\t.1<n)/\(0<=t.2/\t.2<n)
 ne:∀t∈ts,t.1≠t.2
 Jy:∀h:Int,(ts.filter fun t=>decide (t.1=h)).length=(ts.filter fun t=>decide (t.2=h)).length
 most:∀h:Int,(ts.filter fun t=>decide (t.1=h)).length<=8
 con:∀a b,a<n->b<n->∃k,dk ts k a b
theorem BZ(f:α->Int):∀ (l:List α) (n:Nat),(∀x∈l,0<=f x/\f x<n)->(∀h:Int,(l.filter fun t=>decide (f t=h)).length<=8)->l.length<=8*n:=by
 intro l n;induction n generalizing l with
 |zero=>
  intro h _;cases l with
  |nil=>simp
  |cons x xs=>have:=h x b9;lia
 |succ n ih=>
  intro h h8;have e:l.length=(l.filter fun t=>decide (f t=(n:Int))).length+(l.filter fun t=>!decide (f t=(n:Int))).length:=by
   induction l with
   |nil=>rfl
   |cons x xs ih2=>
    have:=ih2 (fun y hy=>h y (cC _ hy)) (fun hh=>br (by rw[jv];split <;> simp) (h8 hh));by_cases q:f x=(n:Int) <;> simp[jv,q] <;> lia
  have i2:=ih (l.filter fun t=>!decide (f t=(n:Int))) (fun x hx=>by
   have a:=h x (bX.mp hx |>.1);have b:=(bX.mp hx).2;simp at b;lia) (fun hh=>by
   refine br ?_ (h8 hh);exact(List.filter_sublist.filter _).length_le)
  have:=h8 (n:Int);lia
theorem eJ.len(F:eJ n ts):ts.length<=256:=by
 have:=BZ (·.1) ts n (fun t ht=>(F.rg t ht).1) F.most;have:=F.n2;lia
theorem eJ.Cr(F:eJ n ts)(h:T ts a b):a<n/\b<n/\a≠b:=by
 have q:=F.rg _ h;have q2:=F.ne _ h;refine⟨by have:=q.1;simp at this;lia,by have:=q.2;simp at this;lia,fun e=>q2 (by rw[e])⟩
theorem eJ.G5{n:Nat}{ts:Ts}(F:eJ n ts){a b:Nat}(ha:a<n)(hb:b<n):mE ts a b (far ts a b):=
 let ⟨_,w⟩:=F.con a b ha hb;Li w
def eZ(n:Nat)(ts:Ts)(h:Nat):List Nat:=((List.range n).map fun s=>(h+s) % n).filter fun o=>decide (T ts h o)
theorem jQ(F:eJ n ts)(hh:h<n):o∈eZ n ts h↔T ts h o:=by
 unfold eZ;rw[bX,pQ];refine⟨fun z=>z.2,fun z=>⟨?_,z⟩⟩;obtain⟨_,h2,_⟩:=F.Cr z;refine bQ.mpr ⟨if h<=o then o-h else o+n-h,bO.mpr (by split <;> lia),?_⟩;split
 .rw[show h+(o-h)=o by lia,jx h2]
 .rw[show h+(o+n-h)=o+n by lia,Nat.add_mod_right,jx h2]
theorem Ax(F:eJ n ts)(hh:h<n)(ho:o∈eZ n ts h):o<n:=(F.Cr ((jQ F hh).mp ho)).2.1
def key(n h o:Nat):Int:=((o:Int)-(h:Int)) % (n:Int)
theorem lP(hh:h<n)(hs:s<n):key n h ((h+s) % n)=(s:Int):=by
 unfold key;by_cases c:h+s<n
 .rw[jx c,show (((h+s:Nat):Int)-(h:Int))=(s:Int) by lia];exact tU (by lia) (by lia)
 .have e:(h+s) % n=h+s-n:=by
   rw[Nat.mod_eq_sub_mod (by lia),jx (by lia)]
  rw[e,show ((((h+s-n:Nat)):Int)-(h:Int))=(s:Int)-(n:Int) by lia,Int.sub_emod_right];exact tU (by lia) (by lia)
theorem wL(hh:h<n):(eZ n ts h).Pairwise fun a b=>key n h a<key n h b:=by
 unfold eZ;refine pD _ ?_;refine ir.mpr ?_;refine xG ?_ (List.pairwise_lt_range (n:=n));intro a b ha hb Pk;rw[lP hh (bO.mp ha),lP hh (bO.mp hb)];lia
theorem oC{α:Type}{k:α->Int}:∀ {a b:List α},a.Pairwise (fun x y=>k x<k y)->b.Pairwise (fun x y=>k x<k y)->(∀x,x∈a↔x∈b)->a=b
 |[],[],_,_,_=>rfl
 |[],y::ys,_,_,h=>absurd ((h y).mpr b9) (by simp)
 |x::xs,[],_,_,h=>absurd ((h x).mp b9) (by simp)
 |x::xs,y::ys,ha,hb,h=>by
  obtain⟨a1,a2⟩:=List.pairwise_cons.mp ha;obtain⟨b1,b2⟩:=List.pairwise_cons.mp hb;have e:x=y:=by
   rcases bL.mp ((h x).mp b9) with z|z
   .exact z
   .rcases bL.mp ((h y).mpr b9) with z'|z'
    .exact z'.symm
    .have q1:=b1 x z;have q2:=a1 y z';lia
  subst e;refine congrArg (x::·) (oC a2 b2 fun z=>⟨fun hz=>?_,fun hz=>?_⟩)
  .rcases bL.mp ((h z).mp (cC _ hz)) with q|q
   .subst q;exact absurd (a1 _ hz) (by lia)
   .exact q
  .rcases bL.mp ((h z).mpr (cC _ hz)) with q|q
   .subst q;exact absurd (b1 _ hz) (by lia)
   .exact q
structure xu(n:Nat)(ts:Ts)(s i:Nat)(R:List Nat)(f:Nat->Nat):Prop where
 nd:R.Nodup
 lt:∀x∈R,x<n
 st:s∈R
 z:f s=0
 wk:∀x∈R,dk ts (f x) s x
 up:R.Pairwise fun a b=>f a<=f b
 bd:∀u,R[i]?=some u->∀x∈R,f x<=f u+1
 cl:∀j u,j<i->R[j]?=some u->∀v,T ts u v->v∈R/\f v<=f u+1
theorem xu.start(hs:s<n):xu n ts s 0 [s] (fun _=>0):=
 ⟨by simp,fun x hx=>by simp at hx;lia,by simp,rfl,fun x hx=>by simp at hx;subst hx;rfl,by simp,fun u _ x _=>by lia,fun j u h=>absurd h (by lia)⟩
def put(f:Nat->Nat)(v k:Nat):Nat->Nat:=fun y=>if y=v then k else f y
theorem gH:put f v k v=k:=by simp[put]
theorem eU(h:x≠v):put f v k x=f x:=by simp[put,h]
theorem xu.add(B:xu n ts s i R f)(hu:R[i]?=some u)(hv:v<n)(t:T ts u v)(hn:v∉R):xu n ts s i (R++[v]) (put f v (f u+1)):=by
 have Yd:u∈R:=dQ hu;have nv:∀x∈R,x≠v:=fun x hx e=>hn (e ▸ hx);have hi:i<R.length:=(cK.mp hu).1;refine⟨?_,fun x hx=>?_,gY _ B.st,by rw[eU (nv s B.st)];exact B.z,fun x hx=>?_,?_,fun w hw x hx=>?_,fun j w hj hw x hx=>?_⟩
 .rw[ju];exact⟨B.nd,by simp,fun a ha b hb e=>by simp at hb;subst hb;exact hn (e ▸ ha)⟩
 .rcases bq.mp hx with z|z
  .exact B.lt x z
  .simp at z;lia
 .rcases bq.mp hx with z|z
  .rw[eU (nv x z)];exact B.wk x z
  .simp at z;subst z;rw[gH];exact⟨u,B.wk u Yd,t⟩
 .rw[tK];refine⟨B.up.imp_of_mem fun {a b} ha hb h=>by rw[eU (nv a ha),eU (nv b hb)];exact h,by simp,fun a ha b hb=>?_⟩;simp at hb;subst hb;rw[eU (nv a ha),gH];exact B.bd u hu a ha
 .have hw':w=u:=by
   rw[ja hi,hu] at hw;exact(aY hw).symm
  subst hw';rw[eU (nv w Yd)];rcases bq.mp hx with z|z
  .rw[eU (nv x z)];exact B.bd w hu x z
  .simp at z;subst z;rw[gH];exact aZ _
 .rw[ja (by lia)] at hw;obtain⟨a,b⟩:=B.cl j w hj hw x hx;refine⟨gY _ a,?_⟩;rw[eU (nv x a),eU (nv w (dQ hw))];exact b
theorem xu.next(B:xu n ts s i R f)(hu:R[i]?=some u)(h:∀v,T ts u v->v∈R/\f v<=f u+1):xu n ts s (i+1) R f:=by
 refine⟨B.nd,B.lt,B.st,B.z,B.wk,B.up,fun w hw x hx=>?_,fun j w hj hw v hv=>?_⟩
 .have h1:=B.bd u hu x hx;have h2:f u<=f w:=by
   have hi:i<R.length:=(cK.mp hu).1;have lZ:i+1<R.length:=(cK.mp hw).1;have:=rQ.mp B.up i (i+1) hi lZ (by lia);rw[cm hi] at hu;rw[cm lZ] at hw;rw[aY hu,aY hw] at this;exact this
  lia
 .by_cases e:j=i
  .subst e;rw[hu] at hw;cases hw;exact h v hv
  .exact B.cl j w (by lia) hw v hv
theorem eD:∀ {n:Nat} {R:List Nat},R.Nodup->(∀x∈R,x<n)->R.length<=n:=by
 intro n R hn hl;have key:∀ (a b:List Nat),a.Nodup->(∀x∈a,x∈b)->a.length<=b.length:=by
  intro a;induction a with
  |nil=>intro b _ _;exact dg _
  |cons x xs ih=>
   intro b hn hs;obtain⟨h1,h2⟩:=dR.mp hn;have hx:x∈b:=hs x b9;have:=ih (b.erase x) h2 fun y hy=>(xM (fun (e:y=x)=>h1 (e ▸ hy))).mpr (hs y (cC _ hy));rw[xE hx] at this;have:0<b.length:=tH hx;rw[cw];lia
 have:=key R (List.range n) hn fun x hx=>bO.mpr (hl x hx);rwa [fL] at this
theorem xu.done(B:xu n ts s i R f)(F:eJ n ts)(hi:R.length<=i)(hx:x<n):x∈R/\f x=far ts s x:=by
 have cl:∀u∈R,∀v,T ts u v->v∈R/\f v<=f u+1:=fun u hu v hv=>by
  obtain⟨j,hj,e⟩:=mV.mp hu;exact B.cl j u (by lia) (by rw[cm hj,e]) v hv
 have walk:∀k x,dk ts k s x->x∈R/\f x<=k:=by
  intro k;induction k with
  |zero=>intro x e;cases e;exact⟨B.st,by rw[B.z];exact aZ _⟩
  |succ k ih=>
   rintro x ⟨c,w,t⟩;obtain⟨c1,c2⟩:=ih c w;obtain⟨d1,d2⟩:=cl c c1 x t;exact⟨d1,by lia⟩
 obtain⟨k,w⟩:=F.con s x (B.lt s B.st) hx;obtain⟨m,_⟩:=walk k x w;exact⟨m,(qL ⟨B.wk x m,fun k w=>(walk k x w).2⟩).symm⟩
abbrev ci(x:Nat):Int:=(x:Int)
theorem eJ.y8{n:Nat}{ts:Ts}(F:eJ n ts){a b k:Nat}(ha:a<n)(hb:b<n)(w:dk ts k a b):far ts a b<=k:=(F.G5 ha hb).2 k w
end rJ
namespace L2
open PySem PySem.Spec PyProof.Rows
section
variable {X:Cx}
end
end L2
namespace rJ
end rJ
namespace dE
open PySem L2
def gy(i:Nat):Stmt:=PySem.Challenge.pw_neverwait_k64_whole_rings_by_nearest_fir.main.body.getD i (.Pass ⟨0,0,0,0⟩)
abbrev nQ:Stmt:=gy 8
abbrev kh:Stmt:=gy 9
abbrev y9:Stmt:=gy 10
abbrev Lj:Stmt:=gy 12
structure Bl(mg:Str->Option Value):Prop where
 DT:mg "isinstance"=none
 int:mg "int"=none
 bool:mg "bool"=none
 tup:mg "tuple"=none
 lst:mg "list"=none
 str:mg "str"=none
 set:mg "set"=none
 len:mg "len"=none
 range:mg "range"=none
 sorted:mg "sorted"=none
 any:mg "any"=none
 max:mg "max"=none
 min:mg "min"=none
 aab:mg "ValueError"=none
 all:mg "all"=none
def DU(K:PySem.W.Frag)(H:Hp)(x:V):Prop:=∃t,OH K H x t/\(PySem.W.kitOne K t (.type "int")=some false\/(PySem.W.kitOne K t (.type "int")=some true/\PySem.W.kitOne K t (.type "bool")=some true))
theorem hU:PySem.W.kitOne K (.type "int") (.type "int")=some true:=by kernel_rfl
theorem gv:PySem.W.kitOne K (.type "int") (.type "bool")=some false:=by kernel_rfl
inductive Wh (K:PySem.W.Frag) (H:Hp):V->Option Int->Prop where
 |int (i:Int):Wh K H (.int i) (some i)
 |no {x:V} (h:DU K H x):Wh K H x none
def i7(K:PySem.W.Frag):Sp:=fun vs H Q _=>∃x o,vs=[x]/\Wh K H x o/\Q (.bl o.isSome) H
section
variable {P:Program} {w:World} {K:PySem.W.Frag} {mg:Str->Option Value} {base:Heap}
theorem u3:aG ["thing"] ["thing"] (am nQ):=⟨rfl,rfl,rfl,by decide +kernel,rfl,by decide +kernel,by decide +kernel⟩
theorem qM(F:fR K "is_whole" "is_whole" nQ f fd)(B:Bl mg):bv P w K mg base a9 1 f fd ["thing"] (i7 K):=by
 refine F.ok u3 (fun vs H Q E h=>?_) (fun dM A outer s H vs Q E hr h=>?_)
 .obtain⟨x,o,rfl,_⟩:=h;rfl
 .obtain⟨x,o,rfl,W,k⟩:=h;refine⟨_,al (aF (ff (aA eR (by rfl) B.DT kI (aa (pv 0) (aa (fH (v:=.ty "int") rfl B.int pJ rfl) ag)))
   (fY (yr (aA eR (by rfl) B.DT kI (aa (pv 0) (aa (fH (v:=.ty "bool") rfl B.bool xI rfl) ag))))))),?_⟩
  cases W with
  |int i=>
   refine⟨_,rfl,_,_,_,.type "int",true,rfl,⟨rfl,hU⟩,.of (.int _),true,rfl,?_⟩;exact⟨_,rfl,_,_,_,.type "int",false,rfl,⟨rfl,gv⟩,.of (.int _),false,rfl,k⟩
  |no h=>
   obtain⟨t,ty,h|⟨h1,h2⟩⟩:=h
   .exact⟨_,rfl,_,_,_,t,false,rfl,⟨rfl,h⟩,ty,false,rfl,k⟩
   .refine⟨_,rfl,_,_,_,t,true,rfl,⟨rfl,h1⟩,ty,true,rfl,?_⟩;exact⟨_,rfl,_,_,_,t,true,rfl,⟨rfl,h2⟩,ty,true,rfl,k⟩
def ii(o:Option Int)(lo hi:Int):Bool:=match o with
 |some i=>decide (lo<=i)&&decide (i<=hi)
 |none=>false
def fV(K:PySem.W.Frag):Sp:=fun vs H Q _=>∃x o lo hi,vs=[x,.int lo,.int hi]/\Wh K H x o/\Q (.bl (ii o lo hi)) H
theorem qN:aG ["thing","least","most"] ["thing","least","most"] (am kh):=⟨rfl,rfl,rfl,by decide +kernel,rfl,by decide +kernel,by decide +kernel⟩
theorem nR(F:fR K "is_whole_within" "is_whole_within" kh f fd)(W:b_ P w K mg base a9 1 "is_whole" ["thing"] (i7 K)):bv P w K mg base a9 2 f fd ["thing","least","most"] (fV K):=by
 refine F.ok qN (fun vs H Q E h=>?_) (fun dM A outer s H vs Q E hr h=>?_)
 .obtain⟨x,o,lo,hi,rfl,_⟩:=h;rfl
 .obtain⟨x,o,lo,hi,rfl,wh,k⟩:=h;refine⟨_,al (aF (ff (aD W hr aP (aa (pv 0) ag)) (fY (vO zS zS (pv 1) (pv 0) (pv 2))))),?_⟩;refine⟨_,rfl,x,o,rfl,wh,?_⟩;cases wh with
  |no h=>exact⟨false,rfl,k⟩
  |int i=>
   refine⟨true,rfl,_,rfl,_,rfl,_,_,rfl,rfl,_,rfl,?_⟩;show if decide (lo<=i)=true then _ else _
   have k':Q (.bl (decide (lo<=i)&&decide (i<=hi))) H:=k;by_cases h:lo<=i
   .rw[bK h] at k' |-;exact⟨_,rfl,_,_,rfl,rfl,k'⟩
   .rw[cE h] at k' |-;exact k'
def pc(K:PySem.W.Frag):Sp:=fun vs H Q _=>∃x o n,vs=[.int n,x]/\Wh K H x o/\Q (.bl (ii o 0 (n-1))) H
theorem G6:aG ["many","thing"] ["many","thing"] (am y9):=⟨rfl,rfl,rfl,by decide +kernel,rfl,by decide +kernel,by decide +kernel⟩
theorem DV(F:fR K "is_house" "is_house" y9 f fd)(W:b_ P w K mg base a9 2 "is_whole_within" ["thing","least","most"] (fV K)):bv P w K mg base a9 3 f fd ["many","thing"] (pc K):=by
 refine F.ok G6 (fun vs H Q E h=>?_) (fun dM A outer s H vs Q E hr h=>?_)
 .obtain⟨x,o,n,rfl,_⟩:=h;rfl
 .obtain⟨x,o,n,rfl,wh,k⟩:=h;refine⟨_,al (aF (aD W hr aP (aa (pv 1) (aa aq (aa (bp ny (pv 0) aq) ag))))),?_⟩;exact⟨_,rfl,_,rfl,_,_,rfl,rfl,x,o,0,n-1,rfl,wh,k⟩
inductive Rw (K:PySem.W.Frag) (H:Hp):V->Option (List V)->Prop where
 |tup {p:Addr} {xs:List V} (h:H p=some (.tup xs)):Rw K H (.ref p) (some xs)
 |no {x:V} {t:Value} (ty:OH K H x t) (h:PySem.W.kitOne K t (.type "tuple")=some false):Rw K H x none
def Pl(o:Option (List V))(m:Int):Bool:=match o with
 |some xs=>decide ((xs.length:Int)=m)
 |none=>false
theorem G7:PySem.W.kitOne K (.type "tuple") (.type "tuple")=some true:=by kernel_rfl
def DW(K:PySem.W.Frag):Sp:=fun vs H Q _=>∃x o m,vs=[x,.int m]/\Rw K H x o/\Q (.bl (Pl o m)) H
theorem Pm:aG ["thing","length"] ["thing","length"] (am Lj):=⟨rfl,rfl,rfl,by decide +kernel,rfl,by decide +kernel,by decide +kernel⟩
theorem Lk(F:fR K "is_row" "is_row" Lj f fd)(B:Bl mg):bv P w K mg base a9 1 f fd ["thing","length"] (DW K):=by
 refine F.ok Pm (fun vs H Q E h=>?_) (fun dM A outer s H vs Q E hr h=>?_)
 .obtain⟨x,o,m,rfl,_⟩:=h;rfl
 .obtain⟨x,o,m,rfl,W,k⟩:=h;refine⟨_,al (aF (ff (aA eR (by rfl) B.DT kI (aa (pv 0) (aa (fH (v:=.ty "tuple") rfl B.tup pH rfl) ag)))
   (fY (cZ eQ (aA aH (by rfl) B.len cG (aa (pv 0) ag)) (pv 1) (aL _))))),?_⟩
  cases W with
  |@tup p xs h=>
   refine⟨_,rfl,_,_,_,.type "tuple",true,rfl,⟨rfl,G7⟩,.of (.tup h),true,rfl,?_⟩;refine⟨_,rfl,_,_,rfl,.inr (cx.of h),_,rfl,rfl,?_⟩;have e:decide (V.int ((xs.length:Nat):Int)=V.int m)=decide (((xs.length:Nat):Int)=m):=by simp
   rw[e];exact k
  |no ty h=>exact⟨_,rfl,_,_,_,_,false,rfl,⟨rfl,h⟩,ty,false,rfl,k⟩
end
theorem bE(s:aE H H')(hD:H D=none):aE H (upd H' D o):=fun b u e=>by rw[ak (ai e hD)];exact s b u e
abbrev IV(ns:List Int):List V:=ns.map V.int
abbrev NV(ns:List Nat):List V:=ns.map fun (x:Nat)=>V.int (x:Int)
abbrev Zs:=List (Addr×(Int×Int))
abbrev FI(u:Int×Int):HO:=.tup [.int u.1,.int u.2]
def zr(zs:Zs):List V:=zs.map fun z=>V.ref z.1
def zp(zs:Zs):List (Int×Int):=zs.map (·.2)
def PO(H:Hp)(zs:Zs):Prop:=∀z∈zs,H z.1=some (FI z.2)
theorem iC:zr (a++b)=zr a++zr b:=cD
theorem iD:zp (a++b)=zp a++zp b:=cD
theorem i8:(zr a).length=a.length:=aN _
theorem dP:(zp a).length=a.length:=aN _
theorem u4:zr a=(a.map (·.1)).map V.ref:=by unfold zr;rw[fN];rfl
theorem y_{zs:Zs}{i:Nat}{x:V}(h:(zr zs)[i]?=some x):∃z,zs[i]?=some z/\x=.ref z.1:=by
 unfold zr at h;rw[bo] at h;cases e:zs[i]? with
 |none=>rw[e] at h;cases h
 |some z=>rw[e] at h;exact⟨z,rfl,(aY h).symm⟩
theorem PO.nil:PO H []:=fun z hz=>(nomatch hz)
theorem PO.same(h:PO H zs)(s:aE H H'):PO H' zs:=fun z hz=>s _ _ (h z hz)
theorem PO.putL(h:PO H zs)(e:H D=some (.lst xs)):PO (upd H D o) zs:=fun z hz=>by
 have:=h z hz;rw[ak (by rintro rfl;rw[e] at this;cases this)];exact this
theorem PO.putN(h:PO H zs)(e:H D=none):PO (upd H D o) zs:=h.same (aj e)
theorem PO.append(h:PO H a)(h':PO H b):PO H (a++b):=fun z hz=>(bq.mp hz).elim (h z) (h' z)
theorem PO.one(h:H p=some (FI u)):PO H [(p,u)]:=fun z hz=>by rw[bS.mp hz];exact h
theorem DX{zs:Zs}{i:Nat}(h:i<zs.length):(zs.map (·.1)).getD i 0=zs[i].1:=by
 rw[bP,bo,cm h];rfl
theorem G8(h:i<zs.length):(zp zs).getD i (0,0)=zs[i].2:=by
 unfold zp;rw[bP,bo,cm h];rfl
theorem B0{H:Hp}{zs:Zs}(ho:PO H zs):∃g:Addr->Int×Int,(∀z∈zs,g z.1=z.2)/\∀ {as:List Addr},as.Perm (zs.map (·.1))->∃lT:Zs,lT.Perm zs/\as=lT.map (·.1):=by
 classical
 let f:Addr->Int×Int:=fun a=>match H a with
  |some (.tup [.int x,.int y])=>(x,y)
  |_=>(0,0)
 have e2:∀z∈zs,f z.1=z.2:=fun z hz=>by
  show (match H z.1 with|some (.tup [.int x,.int y])=>(x,y)|_=>(0,0))=z.2;rw[ho z hz]
 have e:(zs.map (·.1)).map (fun a=>(a,f a))=zs:=by
  rw[fN];conv=>rhs;rw[<-jD zs]
  refine jb fun z hz=>?_;show (z.1,f z.1)=z;rw[e2 z hz]
 refine⟨f,e2,fun {as} h=>⟨as.map fun a=>(a,f a),?_,?_⟩⟩
 .have:=h.map (fun a=>(a,f a));rw[e] at this;exact this
 .rw[fN];exact(jD as).symm
abbrev u5(us:List (Int×Int)):Prop:=us.Pairwise fun u v=>pk u<=pk v
theorem u6{K:PySem.W.Frag}{H:Hp}{l:Addr}{zs:Zs}{Q:VK}(hl:H l=some (.lst (zr zs)))(ho:PO H zs)(hz:zs.length<=4096)(hb:∀u∈zp zs,0<=u.2/\u.2<64)(q:∀ (D:Addr) (lT:Zs),H D=none->lT.Perm zs->u5 (zp lT)->Q (.ref D) (upd H D (.lst (zr lT)))):DR K [.ref l] H Q:=by
 obtain⟨g,hg,UY⟩:=B0 ho;refine⟨l,zs.map (·.1),g,rfl,aT.of (by rw[<-u4];exact hl),fun a ha=>?_,by rw[aN];exact hz,fun D mT hD hp so=>?_⟩
 .obtain⟨z,hz,rfl⟩:=bQ.mp ha;rw[hg z hz];exact⟨cx.of (ho z hz),hb _ (bQ.mpr ⟨z,hz,rfl⟩)⟩
 .obtain⟨lT,h1,rfl⟩:=UY hp;rw[<-u4];refine q D lT hD h1 ?_;unfold zp u5;rw[ir] at so |-;refine so.imp_of_mem fun {a b} ha hb h=>?_;rw[hg a (h1.mem_iff.mp ha),hg b (h1.mem_iff.mp hb)] at h;exact h
theorem DY{K:PySem.W.Frag}{a D:Addr}{FJ:Zs}{g:TG}{tt:TT}{te:TE}{fin:Hp->Prop}{σB:St}{H0:Hp}(F:Int×Int->Int×Int)(dv:St->Prop)(ha:H0 a=some (.lst (zr FJ)))(Ye:PO H0 FJ)(hD:H0 D=none)(hn:FJ.length<=100000)(h0:dv σB)(hs:∀z σ H (R:V->St->Hp->Prop) (Kf:St->Hp->Prop),z∈FJ->dv σ->H z.1=some (FI z.2)->(∀σ2 p,dv σ2->H p=none->R (.ref p) σ2 (upd H p (FI (F z.2))))->g (.ref z.1) σ H fun σ2 H2=>tt σ2 H2 fun b H3=>if b=true then te σ2 H3 fun v H4=>R v σ2 H4 else Kf σ2 H3)(hd:∀zs H,aE H0 H->H D=some (.lst (zr zs))->PO H zs->zp zs=(zp FJ).map F->(∀z∈zs,H0 z.1=none)->fin H):g8 (CY K a) g tt te D fin σB (upd H0 D (.lst [])):=by
 refine eY (xs:=zr FJ) (fun i ys σ H=>dv σ/\aE H0 H/\H D=some (.lst ys)/\∃zs:Zs,ys=zr zs/\PO H zs/\zp zs=((zp FJ).take i).map F/\∀z∈zs,H0 z.1=none) ⟨h0,aj hD,af,[],rfl,PO.nil,rfl,fun z hz=>nomatch hz⟩ (fun i ys σ H _ z=>aT.of (z.2.1 _ _ ha)) ?_ ?_
 .rintro i x ys σ H Kt Kf hx ⟨sh,sm,nU,zs,rfl,po,ep,fr⟩ kt kf;obtain⟨z,hz,rfl⟩:=y_ hx;have hi:i<FJ.length:=(cK.mp hz).1;have Jz:z∈FJ:=dQ hz;have hl:zs.length=i:=by rw[<-dP,ep,aN,jf,dP];lia
  refine hs z σ H Kt Kf Jz sh (sm _ _ (Ye z Jz)) (fun σ2 p B1 hp=>?_)
  .have nD:D≠p:=ai nU hp;refine kt _ _ _ (by rw[ak nD];exact nU) (by rw[i8,hl];exact bU hi (br hn (by decide))) ⟨B1,bE (sm.trans (aj hp)) hD,af,zs++[(p,F z.2)],?_,?_,?_,?_⟩
   .rw[iC];rfl
   .refine PO.putL (xs:=zr zs) ?_ (by rw[ak nD];exact nU);exact(po.putN hp).append (PO.one af)
   .have e2:(zp FJ)[i]?=some z.2:=by unfold zp;rw[bo,hz];rfl
    rw[iD,ep,iq,e2,Option.toList_some,cD];rfl
   .intro z hz;rcases bq.mp hz with z'|z'
    .exact fr z z'
    .rw[bS.mp z'];exact sm.free hp
 .rintro ys σ H ⟨_,sm,nU,zs,rfl,po,ep,fr⟩;rw[i8,<-dP,gA] at ep;exact hd zs H sm nU po ep fr
open rJ
abbrev Ay:Stmt:=o5 (gy 29) 0
abbrev wM:Stmt:=o5 (gy 29) 4
abbrev DZ:Stmt:=o5 (gy 29) 6
abbrev zc:Stmt:=o5 (gy 29) 8
theorem n12:¬ (("house_count":Str)="tie_list"):=by decide +kernel
theorem n13:¬ (("house_count":Str)="out_lists"):=by decide +kernel
theorem n14:¬ (("house_count":Str)="distances"):=by decide +kernel
theorem n34:¬ (("out_lists":Str)="distances"):=by decide +kernel
def oQ(n:Int)(tl ol ds:Addr):List (Str×V):=dD "distances" (.ref ds) (dD "out_lists" (.ref ol) (dD "tie_list" (.ref tl) (dD "house_count" (.int n) [])))
theorem G9(n:Int)(tl ol ds:Addr):(oQ n tl ol ds).lookup ("house_count":Str)=some (.int n):=by
 unfold oQ;rw[bi,ap n14,bi,ap n13,bi,ap n12,bi,ao rfl]
theorem u7(n:Int)(tl ol ds:Addr){m:Str}(h1:¬ m="house_count")(h2:¬ m="tie_list")(h3:¬ m="out_lists")(h4:¬ m="distances"):(oQ n tl ol ds).lookup m=none:=by
 unfold oQ;rw[bi,ap h4,bi,ap h3,bi,ap h2,bi,ap h1];all_goals rfl
theorem G_(n:Int)(tl ol ds:Addr):(oQ n tl ol ds).lookup ("out_lists":Str)=some (.ref ol):=by
 unfold oQ;rw[bi,ap n34,bi,ao rfl]
theorem Az(n:Int)(tl ol ds:Addr):(oQ n tl ol ds).lookup ("distances":Str)=some (.ref ds):=by
 unfold oQ;rw[bi,ao rfl]
def ij(H:Hp)(L:Addr->Prop)(l:Addr)(n:Nat)(r:Nat->List Nat):Prop:=∃bs:List Addr,H l=some (.lst (bs.map V.ref))/\(∀b∈bs,L b)/\Holds H bs n (fun h=>.lst (NV (r h)))
theorem ij.keep(R:ij H L l n r)(hl:L l)(k:∀b o,L b->H b=some o->H' b=some o):ij H' L l n r:=
 let ⟨bs,a,b,c⟩:=R
 ⟨bs,k _ _ hl a,b,c.mono fun j hj e=>k _ _ (b _ (by rw[bP,cm (by rw[c.1];exact hj)];exact jg _)) e⟩
theorem ij.row(R:ij H L l n r)(hh:h<n):∃ (bs:List Addr) (b:Addr),H l=some (.lst (bs.map V.ref))/\(bs.map V.ref)[h]?=some (V.ref b)/\H b=some (.lst (NV (r h)))/\L b:=by
 obtain⟨bs,a,b,c⟩:=R;have hl:h<bs.length:=by rw[c.1];exact hh
 refine⟨bs,bs[h],a,by rw[bo,cm hl];rfl,?_,b _ (jg _)⟩;have:=c.2 h hh;rw[bP,cm hl] at this;exact this
def Ha(H:Hp)(L:Addr->Prop)(tl:Addr)(ts:Ts):Prop:=L tl/\∃zs:Zs,H tl=some (.lst (zr zs))/\PO H zs/\(∀z∈zs,L z.1)/\(zp zs).Perm ts/\u5 (zp zs)
theorem Ha.keep(h:Ha H L tl ts)(k:∀b o,L b->H b=some o->H' b=some o):Ha H' L tl ts:=
 let ⟨a,zs,b,c,d,e⟩:=h;⟨a,zs,k _ _ a b,fun z hz=>k _ _ (d z hz) (c z hz),d,e⟩
structure cS(C:Addr)(H:Hp)(L:Addr->Prop)(p:Addr)(n:Nat)(ts:Ts):Prop where
 i9:eJ n ts
 ob:∃dx tl ol ds,H p=some (.ins C dx (oQ n tl ol ds))/\L ol/\L ds/\ij H L ol n (eZ n ts)/\ij H L ds n (fun h=>(List.range n).map (far ts h))/\Ha H L tl ts
theorem cS.keep(N:cS C H L p n ts)(k:∀b o,L b->H b=some o->H' b=some o)(kp:∀o,H p=some o->H' p=some o):cS C H' L p n ts:=
 let ⟨dx,tl,ol,ds,a,l1,l2,b,c,d⟩:=N.ob
 ⟨N.i9,dx,tl,ol,ds,kp _ a,l1,l2,b.keep l1 k,c.keep l2 k,d.keep k⟩
theorem cS.same(N:cS C H L p n ts)(s:aE H H'):cS C H' L p n ts:=N.keep (fun b o _ e=>s b o e) (fun o e=>s _ o e)
structure NT(K:PySem.W.Frag)(mg:Str->Option Value)(C:Addr):Prop where
 cl:FE K C
 nH:ie K C "house_count"
 nT:ie K C "tie_list"
 nO:ie K C "out_lists"
 nD:ie K C "distances"
 mgC:mg "Net"=some (.ref C)
structure mH(P:Program)(w:World)(K:PySem.W.Frag)(mg:Str->Option Value)(base:Heap)(CX:vP)(k:Nat)(C:Addr)(x:Str)(ps:List Str)(sp:Sp):Prop where
 ex:∃f fd,Kw K C x f/\jK K fd ps []/\bv P w K mg base CX k f fd ps sp
section
variable {P:Program} {w:World} {K:PySem.W.Frag} {mg:Str->Option Value} {base:Heap}
theorem Hb:aG ["self","thing"] ["self","thing"] (am zc):=⟨rfl,rfl,rfl,by decide +kernel,rfl,by decide +kernel,by decide +kernel⟩
theorem sP{i n:Nat}(h:i<n):ii (some (i:Int)) 0 ((n:Int)-1)=true:=by unfold ii;simp;lia
def qO(C:Addr):Sp:=fun vs H Q _=>∃ (L:Addr->Prop) (p:Addr) (n:Nat) (ts:Ts) (i:Nat),vs=[.ref p,.int i]/\cS C H L p n ts/\i<n/\Q .bJ H
theorem B2{f C:Addr}{fd:FuncData}(F:fR K "check_house" "Net.check_house" zc f fd)(T:NT K mg C)(HH:b_ P w K mg base a9 3 "is_house" ["many","thing"] (pc K)):
  bv P w K mg base a9 4 f fd ["self","thing"] (qO C):=by
 refine F.ok Hb (fun vs H Q E h=>?_) (fun dM A outer s H vs Q E hr h=>?_)
 .obtain⟨L,p,n,ts,i,rfl,_⟩:=h;rfl
 .obtain⟨L,p,n,ts,i,rfl,N,hi,k⟩:=h;obtain⟨dx,tl,ol,ds,h1,_⟩:=N.ob;refine⟨_,al (bA (dW (dB (aD HH hr aP (aa (nA (pv 0) rfl) (aa (pv 1) ag))))) dL aQ),?_⟩;refine⟨_,rfl,p,C,dx,_,_,rfl,h1,T.cl,T.nH,G9 _ _ _ _,_,rfl,_,some (i:Int),n,rfl,.int _,_,rfl,?_⟩;rw[sP hi];exact lL k
theorem Pn(n:Int)(tl ol ds:Addr):(oQ n tl ol ds).lookup ("check_house":Str)=none:=u7 n tl ol ds (by decide +kernel) (by decide +kernel) (by decide +kernel) (by decide +kernel)
theorem B3(n:Int)(tl ol ds:Addr):(oQ n tl ol ds).lookup ("far":Str)=none:=u7 n tl ol ds (by decide +kernel) (by decide +kernel) (by decide +kernel) (by decide +kernel)
theorem qP:(NV xs).length=xs.length:=aN _
theorem oE:aG ["self","one","other"] ["self","one","other"] (am wM):=⟨rfl,rfl,rfl,by decide +kernel,rfl,by decide +kernel,by decide +kernel⟩
def nV(C:Addr):Sp:=fun vs H Q _=>∃ (L:Addr->Prop) (p:Addr) (n:Nat) (ts:Ts) (i j:Nat),vs=[.ref p,.int i,.int j]/\cS C H L p n ts/\i<n/\j<n/\Q (.int (far ts i j:Nat)) H
theorem He(F:fR K "far" "Net.far" wM f fd)(T:NT K mg C)(M:mH P w K mg base a9 4 C "check_house" ["self","thing"] (qO C)):
  bv P w K mg base a9 5 f fd ["self","one","other"] (nV C):=by
 obtain⟨fM,fdM,mM,bM,GM⟩:=M.ex;refine F.ok oE (fun vs H Q E h=>?_) (fun dM A outer s H vs Q E hr h=>?_)
 .obtain⟨L,p,n,ts,i,j,rfl,_⟩:=h;rfl
 .obtain⟨L,p,n,ts,i,j,rfl,N,hi,hj,k⟩:=h;obtain⟨dx,tl,ol,ds,h1,_,_,_,R,_⟩:=N.ob;refine⟨_,ah (cP (iU (pv 0) T.cl mM GM hr bM .nil aP (aa (pv 1) ag)))
   (ah (cP (iU (pv 0) T.cl mM GM hr bM .nil aP (aa (pv 2) ag)))
   (al (aF (au az (au az (nA (pv 0) rfl) (pv 1) (fun _ _=>rfl)) (pv 2) (fun _ _=>rfl))))),?_⟩
  refine⟨_,rfl,p,dx,_,rfl,h1,Pn _ _ _ _,_,rfl,L,p,n,ts,i,rfl,N,hi,?_⟩;refine⟨_,rfl,p,dx,_,rfl,h1,Pn _ _ _ _,_,rfl,L,p,n,ts,j,rfl,N,hj,?_⟩;obtain⟨bs,b,r1,r2,r3,_⟩:=R.row hi;have hg:(NV ((List.range n).map (far ts i)))[j]?=some (.int (far ts i j:Nat)):=by
   rw[bo,bo,lc hj];rfl
  exact⟨_,rfl,p,C,dx,_,_,rfl,h1,T.cl,T.nD,Az _ _ _ _,_,rfl,ds,_,_,_,rfl,rfl,aT.of r1,bg r2,_,rfl,b,_,_,_,rfl,rfl,aT.of r3,bg hg,k⟩
end
open PySem L2 rJ
abbrev ze:Stmt:=gy 30
abbrev Ll:Stmt:=gy 31
abbrev Lm:Stmt:=gy 32
section
variable {P:Program} {w:World} {K:PySem.W.Frag} {mg:Str->Option Value} {base:Heap}
abbrev Ln:Stmt:=gy 11
theorem Pr:aG ["many","one","other"] ["many","one","other"] (am Ln):=⟨rfl,rfl,rfl,by decide +kernel,rfl,by decide +kernel,by decide +kernel⟩
def D4:Sp:=fun vs H Q _=>∃ (n a b:Int),vs=[.int n,.int a,.int b]/\0<=a/\a<n/\0<=b/\b<n/\a≠b/\Q (.bl true) H
theorem Lo(F:fR K "are_unlike_houses" "are_unlike_houses" Ln f fd)(HH:b_ P w K mg base a9 3 "is_house" ["many","thing"] (pc K)):
  bv P w K mg base a9 4 f fd ["many","one","other"] D4:=by
 refine F.ok Pr (fun vs H Q E h=>?_) (fun dM A outer s H vs Q E hr h=>?_)
 .obtain⟨n,a,b,rfl,_⟩:=h;rfl
 .obtain⟨n,a,b,rfl,a1,a2,b1,b2,jp,k⟩:=h;refine⟨_,al (aF (ff (aD HH hr aP (aa (pv 0) (aa (pv 1) ag))) (ff (aD HH hr aP (aa (pv 0) (aa (pv 2) ag))) (fY (cZ rY (pv 1) (pv 2) (aL _)))))),?_⟩;refine⟨_,rfl,_,rfl,_,_,n,rfl,.int a,_,rfl,?_⟩;rw[ao (show ii (some a) 0 (n-1)=true by unfold ii;simp;lia)];refine⟨_,rfl,_,rfl,_,_,n,rfl,.int b,_,rfl,?_⟩;rw[ao (show ii (some b) 0 (n-1)=true by unfold ii;simp;lia)];refine⟨_,rfl,_,rfl,rfl,?_⟩;have e:(!decide (V.int a=V.int b))=true:=by simp[jp]
  rw[e];exact k
theorem Ps:aG ["many","thing"] ["many","thing"] (am Ll):=⟨rfl,rfl,rfl,by decide +kernel,rfl,by decide +kernel,by decide +kernel⟩
def D5:Sp:=fun vs H Q _=>∃ (n:Int) (p:Addr) (a b:Int),vs=[.int n,.ref p]/\H p=some (.tup [.int a,.int b])/\0<=a/\a<n/\0<=b/\b<n/\a≠b/\Q (.bl true) H
theorem Lq(F:fR K "is_tie" "is_tie" Ll f fd)(R:b_ P w K mg base a9 1 "is_row" ["thing","length"] (DW K))(U:b_ P w K mg base a9 4 "are_unlike_houses" ["many","one","other"] D4):
  bv P w K mg base a9 5 f fd ["many","thing"] D5:=by
 refine F.ok Ps (fun vs H Q E h=>?_) (fun dM A outer s H vs Q E hr h=>?_)
 .obtain⟨n,p,a,b,rfl,_⟩:=h;rfl
 .obtain⟨n,p,a,b,rfl,hp,a1,a2,b1,b2,jp,k⟩:=h;refine⟨_,al (aF (ff (aD R (hr.mono (by decide)) aP (aa (pv 1) (aa aq ag)))
   (fY (aD U hr aP (aa (pv 0) (aa (au aU (pv 1) aq (fun _ _=>rfl)) (aa (au aU (pv 1) aq (fun _ _=>rfl)) ag))))))),?_⟩
  refine⟨_,rfl,_,_,_,rfl,.tup hp,true,rfl,?_⟩;exact⟨_,rfl,_,rfl,p,_,_,_,rfl,rfl,cx.of hp,bg (j:=0) rfl,_,rfl,p,_,_,_,rfl,rfl,cx.of hp,bg (j:=1) rfl,n,a,b,rfl,a1,a2,b1,b2,jp,k⟩
theorem AA:aG ["many","ties","tie"] ["many","ties"] (am ze):=⟨rfl,rfl,rfl,by decide +kernel,rfl,by decide +kernel,by decide +kernel⟩
theorem D8:PySem.W.kitOne K (.type "list") (.type "list")=some true:=by kernel_rfl
structure fm(H:Hp)(l:Addr)(n:Nat)(zs:Zs):Prop where
 i9:eJ n (zp zs)
 at_:H l=some (.lst (zr zs))
 po:PO H zs
theorem fm.same(h:fm H l n zs)(s:aE H H'):fm H' l n zs:=⟨h.i9,s _ _ h.at_,h.po.same s⟩
def km:Sp:=fun vs H Q _=>∃ (n:Nat) (l:Addr) (zs:Zs),vs=[.int n,.ref l]/\fm H l n zs/\∀H',aE H H'->Q .bJ H'
theorem D9(F:fR K "check_ties" "check_ties" ze f fd)(B:Bl mg)(gF:∃t,mg "FEWEST_HOUSES"=some (.int 2 t))(gM:∃t,mg "MOST_HOUSES"=some (.int 32 t))(W:b_ P w K mg base a9 2 "is_whole_within" ["thing","least","most"] (fV K))(T:b_ P w K mg base a9 5 "is_tie" ["many","thing"] D5):
  bv P w K mg base a9 6 f fd ["many","ties"] km:=by
 obtain⟨tF,gF⟩:=gF;obtain⟨tM,gM⟩:=gM;refine F.ok AA (fun vs H Q E h=>?_) (fun dM A outer s H vs Q E hr h=>?_)
 .obtain⟨n,l,zs,rfl,_⟩:=h;rfl
 .refine⟨_,ah (bA (dW (dB (aD W (hr.mono (by decide)) aP (aa (pv 0) (aa (uj (v:=.int 2) rfl gF ⟨_,rfl⟩) (aa (uj (v:=.int 32) rfl gM ⟨_,rfl⟩) ag)))))) dL aQ)
   (ah (bA (dW (dB (aA eR (by rfl) B.DT kI (aa (pv 1) (aa (fH (v:=.ty "list") rfl B.lst tE rfl) ag))))) dL aQ)
   (ah (dO eN rfl (cf (pv 1)) (aB (i:=2) AA.nd rfl (Or.inl rfl)) (al (bA (dW (dB (aD T hr aP (aa (pv 0) (aa (pv 2) ag))))) dL aQ)))
   (al (bA (aM rY (aA wn (by rfl) B.len cG (aa (dh (Bz rfl (by have:=hr.un;show (A.deeper _).units+8<_;lia)) (by rfl) B.set PyProof.Rows.boot_set (aa (pv 1) ag)) ag)) (aA aH (by rfl) B.len cG (aa (pv 1) ag)) (aL _)) dL aQ)))),?_⟩
  obtain⟨n,l,zs,rfl,tt,k⟩:=h;obtain⟨fi,hl,po⟩:=id tt;have n1:=fi.n1;have n2:=fi.n2;refine⟨_,rfl,_,_,2,32,rfl,.int n,_,rfl,?_⟩;rw[show ii (some (n:Int)) 2 32=true by unfold ii;simp;lia];refine lL ?_;refine⟨_,rfl,_,_,_,.type "list",true,rfl,⟨rfl,D8⟩,.of (.lst hl),_,rfl,lL ?_⟩;refine⟨_,rfl,l,rfl,⟨_,aT.of hl⟩,jI (K:=K) (a:=l) (xs:=zr zs) (fun i σ H2=>H2=H/\∃v,σ=[some (.int n),some (.ref l),v]) ⟨rfl,none,rfl⟩ (fun i σ H2 _ ⟨e,_⟩=>by rw[e];exact aT.of hl) ?_ ?_⟩
  .rintro i x σ H2 hx ⟨rfl,v,rfl⟩;obtain⟨z,hz,rfl⟩:=y_ hx;have Jz:z∈zs:=dQ hz;have Yf:z.2∈zp zs:=bQ.mpr ⟨z,Jz,rfl⟩;have r:=fi.rg _ Yf;exact⟨_,rfl,_,rfl,n,_,_,_,rfl,po z Jz,r.1.1,r.1.2,r.2.1,r.2.2,fi.ne _ Yf,_,rfl,lL ⟨rfl,_,rfl⟩⟩
  .rintro σ H2 ⟨rfl,v,rfl⟩;have dZ:(zp zs).length<=256:=fi.len;refine⟨_,rfl,l,zs.map (·.1),zp zs,rfl,aT.of (by rw[<-u4];exact hl),by rw[aN,dP],fun i hi=>?_,fi.nd,fun y hy=>?_,by lia,fun D hD=>?_⟩
   .rw[dP] at hi;rw[DX hi,G8 hi];exact cx.of (po _ (jg hi))
   .have r:=fi.rg _ hy;lia
   .have nl:l≠D:=ai hl hD;refine⟨D,_,rfl,af,by lia,_,rfl,l,zr zs,rfl,.inl (aT.of (by rw[ak nl];exact hl)),rfl,_,rfl,?_⟩;have ez:(!decide (V.int (((zp zs).length:Nat):Int)=V.int (((zr zs).length:Nat):Int)))=false:=by rw[dP,i8];simp
    rw[ez];exact lL (k _ (aj hD))
end
abbrev wN:Stmt:=gy 33
section
variable {P:Program} {w:World} {K:PySem.W.Frag} {mg:Str->Option Value} {base:Heap}
theorem nW(S:St->Prop)(p q:Int×Int->Int)(h:Int)(hD:H D=none)(hl:H l=some (.lst (zr zs)))(po:PO H zs)(hn:zs.length<=1000)(s0:S σB)(hg:∀z σ H2 (Kt:V->St->Hp->Prop) (Kf:St->Hp->Prop),z∈zs->S σ->H2 z.1=some (FI z.2)->(∀σ2,S σ2->p z.2=h->Kt (.int (q z.2)) σ2 H2)->(∀σ2,S σ2->p z.2≠h->Kf σ2 H2)->
   g (.ref z.1) σ H2 fun σ2 H2=>tt σ2 H2 fun b H3=>if b=true then te σ2 H3 fun v H4=>Kt v σ2 H4 else Kf σ2 H3)(hd:fin (upd H D (.lst (IV (((zp zs).filter fun y=>decide (p y=h)).map q))))):g8 (CY K l) g tt te D fin σB (upd H D (.lst [])):=by
 have nl:l≠D:=ai hl hD;have tk:∀ {i:Nat} {z:Addr×(Int×Int)},zs[i]?=some z->(zp zs).take (i+1)=(zp zs).take i++[z.2]:=fun {i z} hz=>by
  rw[iq,show (zp zs)[i]?=some z.2 by unfold zp;rw[bo,hz];rfl];rfl
 refine eY (xs:=zr zs) (fun i ys σ H2=>S σ/\ys=IV ((((zp zs).take i).filter fun y=>decide (p y=h)).map q)/\H2=upd H D (.lst ys)) ⟨s0,by simp,rfl⟩ (fun i ys σ H2 _ ⟨_,_,e⟩=>by rw[e];exact aT.of (by rw[ak nl];exact hl)) ?_ ?_
 .rintro i x ys σ H2 Kt Kf hx ⟨hS,ey,rfl⟩ kt kf;obtain⟨z,hz,rfl⟩:=y_ hx;have Jz:z∈zs:=dQ hz;have hp:=po z Jz;have na:z.1≠D:=ai hp hD;have hi:i<zs.length:=(cK.mp hz).1;refine hg z σ _ Kt Kf Jz hS (by rw[ak na];exact hp) (fun σ2 s2 e=>?_) (fun σ2 s2 e=>?_)
  .refine kt _ _ _ af ?_ ⟨s2,?_,?_⟩
   .rw[ey,aN,aN];exact gh (n9 _ _) (gh (xR _ _) (bU (show i<1000 by lia) (by decide)))
   .rw[ey,tk hz,jt,cD];have:decide (p z.2=h)=true:=by simp[e]
    simp[jv,this]
   .rw[g7]
  .refine kf _ _ ⟨s2,?_,rfl⟩;have:decide (p z.2=h)=false:=by simp[e]
   rw[ey,tk hz,jt];simp[jv,this]
 .rintro ys σ H2 ⟨_,ey,rfl⟩;rw[i8,<-dP,gA] at ey;rw[ey];exact hd
theorem Nu:(["one","other","house"]:List Str).Nodup:=by decide +kernel
theorem AB:aG ["many","ties","house","leading_out","leading_in"] ["many","ties"] (am Lm):=⟨rfl,rfl,rfl,by decide +kernel,rfl,by decide +kernel,by decide +kernel⟩
theorem Lr(F:fR K "check_balance" "check_balance" Lm f fd)(B:Bl mg)(gM:∃t,mg "MOST_TIES_OUT"=some (.int 8 t)):
  bv P w K mg base a9 1 f fd ["many","ties"] km:=by
 obtain⟨tM,gM⟩:=gM;refine F.ok AB (fun vs H Q E h=>?_) (fun dM A outer s H vs Q E hr h=>?_)
 .obtain⟨n,l,zs,rfl,_⟩:=h;rfl
 .obtain⟨n,l,zs,rfl,T,k⟩:=h;have fi:=T.i9;have n1:=fi.n1;have n2:=fi.n2;have dZ:zs.length<=256:=by have:=fi.len;rw[dP] at this;exact this
  refine'⟨_,al (dO eN rfl (et rfl B.range (aa (pv 0) ag)) (aB (i:=2) AB.nd rfl (Or.inr rfl))
   (ah (aO (i:=3) AB.nd rfl (Or.inl rfl) (aA aH (by rfl) B.len cG (aa ?c1 ag)))
   (ah (aO (i:=4) AB.nd rfl (Or.inl rfl) (aA aH (by rfl) B.len cG (aa ?c2 ag)))
   (ah (bA (aM rY (pv 3) (pv 4) (aL _)) dL aQ)
   (al (bA (aM zT (pv 3) (uj (v:=.int 8) rfl gM ⟨_,rfl⟩) (aL _)) dL aQ)))))),?_⟩
  case c1=>
   refine' cR (g:=ur K 2 (fQ (bD 0) (fQ (bD 1) uq))) (NB:=["one","other","house"]) (src:=[none,none,some 2]) (cg (by kernel_rfl)) rfl (cf (pv 1)) ?g ?t ?e;case g=>exact fun cl C s₃ H₃ fp=>fD (n:=2) rfl (a_ (aB (i:=0) Nu rfl (Or.inl rfl) (Or.inr rfl)) (a_ (aB (i:=1) Nu rfl (Or.inl rfl) (Or.inr rfl)) d_))
   case t=>exact fun cl C s₃ H₃ fp=>fh (aM eQ (pv 0) (pv 2) (aL _))
   case e=>exact fun cl C s₃ H₃ fp=>pv 0
  case c2=>
   refine' cR (g:=ur K 2 (fQ (bD 0) (fQ (bD 1) uq))) (NB:=["one","other","house"]) (src:=[none,none,some 2]) (cg (by kernel_rfl)) rfl (cf (pv 1)) ?g ?t ?e;case g=>exact fun cl C s₃ H₃ fp=>fD (n:=2) rfl (a_ (aB (i:=0) Nu rfl (Or.inl rfl) (Or.inr rfl)) (a_ (aB (i:=1) Nu rfl (Or.inl rfl) (Or.inr rfl)) d_))
   case t=>exact fun cl C s₃ H₃ fp=>fh (aM eQ (pv 1) (pv 2) (aL _))
   case e=>exact fun cl C s₃ H₃ fp=>pv 1
  refine⟨_,rfl,n,rfl,by lia,by lia,eX (n:=n) (lo:=0) (fun i σ H2=>aE H H2/\∃a b c,σ=[some (.int n),some (.ref l),a,b,c]) ⟨aE.refl _,none,none,none,rfl⟩ ?_ ?_⟩
  .rintro i σ H2 hi ⟨sm,a,b,c,rfl⟩;have T2:=T.same sm;refine⟨_,rfl,l,rfl,⟨_,aT.of T2.at_⟩,fun D hD=>nW (fun σ=>∃a b,σ=[a,b,some (.int (0+(i:Int)))]) (·.1) (·.1) (0+(i:Int)) hD T2.at_ T2.po (by lia) ⟨_,_,rfl⟩ ?_ ?_⟩
   .rintro z σ H3 Kt Kf hj ⟨x,y,rfl⟩ ha kt kf;refine⟨z.1,_,rfl,cx.of ha,rfl,_,_,rfl,_,_,rfl,rfl,?_⟩;refine⟨_,rfl,_,rfl,rfl,_,rfl,?_⟩;refine bN (fun e=>?_) (fun e=>?_)
    .exact⟨_,rfl,kt _ ⟨_,_,rfl⟩ (by simpa using e)⟩
    .exact kf _ ⟨_,_,rfl⟩ (by simpa using e)
   .refine⟨D,_,rfl,.inl (aT.of af),?_⟩;have Pu:=bE (o:=.lst (IV (((zp zs).filter fun y=>decide (y.1=0+(i:Int))).map (·.1)))) (sm.trans (aE.refl _)) (H:=H) (by cases z:H D with|none=>rfl|some o=>rw[sm _ _ z] at hD;cases hD);have T3:=T.same Pu;refine⟨_,rfl,l,rfl,⟨_,aT.of T3.at_⟩,fun D' D_=>nW (fun σ=>∃a b,σ=[a,b,some (.int (0+(i:Int)))]) (·.2) (·.2) (0+(i:Int)) D_ T3.at_ T3.po (by lia) ⟨_,_,rfl⟩ ?_ ?_⟩
    .rintro z σ H3 Kt Kf hj ⟨x,y,rfl⟩ ha kt kf;refine⟨z.1,_,rfl,cx.of ha,rfl,_,_,rfl,_,_,rfl,rfl,?_⟩;refine⟨_,rfl,_,rfl,rfl,_,rfl,?_⟩;refine bN (fun e=>?_) (fun e=>?_)
     .exact⟨_,rfl,kt _ ⟨_,_,rfl⟩ (by simpa using e)⟩
     .exact kf _ ⟨_,_,rfl⟩ (by simpa using e)
    .refine⟨D',_,rfl,.inl (aT.of af),?_⟩;rw[lB] at *;have q1:(IV (((zp zs).filter fun y=>decide (y.1=(i:Int))).map (·.1))).length=(IV (((zp zs).filter fun y=>decide (y.2=(i:Int))).map (·.2))).length:=by
      rw[aN,aN,aN,aN];exact fi.Jy i
     have q2:(IV (((zp zs).filter fun y=>decide (y.1=(i:Int))).map (·.1))).length<=8:=by
      rw[aN,aN];exact fi.most i
     refine⟨_,rfl,_,rfl,rfl,_,rfl,?_⟩;rw[<-q1];rw[show (!decide (V.int (((IV (((zp zs).filter fun y=>decide (y.1=(i:Int))).map (·.1))).length:Nat):Int)=V.int (((IV (((zp zs).filter fun y=>decide (y.1=(i:Int))).map (·.1))).length:Nat):Int)))=false by simp];refine lL ?_;refine⟨_,rfl,_,_,rfl,rfl,_,rfl,?_⟩;rw[show decide ((((IV (((zp zs).filter fun y=>decide (y.1=(i:Int))).map (·.1))).length:Nat):Int) > 8)=false by rw[decide_eq_false_iff_not];lia];exact lL ⟨Pu.trans (aj D_),_,_,_,rfl⟩
  .rintro σ H2 ⟨sm,a,b,c,rfl⟩;exact k H2 sm
end
def Hf:Expr:=match (bT wN).getD 1 (.Pass ⟨0,0,0,0⟩) with
 |.Return (some (.Call _ _ (k::_) _)) _=>k.value
 |_=>.Name "x" ⟨0,0,0,0⟩
def Hg:Arguments:=match Hf with
 |.Lambda a _ _ _=>a
 |_=>{ posonlyargs:=[],args:=[],vararg:=none,kwonlyargs:=[],kw_defaults:=[],kwarg:=none,defaults:=[] }
def Hh:Expr:=match Hf with
 |.Lambda _ b _ _=>b
 |e=>e
def Pw:Scope:=match Hf with
 |.Lambda _ _ s _=>s
 |_=>{ kind:=.function,names:=[],isGenerator:=false,isCoroutine:=false }
def Lu:Pos:=match Hf with
 |.Lambda _ _ _ p=>p
 |_=>⟨0,0,0,0⟩
def JA:Str:=("houses_out":Str)++".<locals>."++"<lambda>"
abbrev pe(Pt:Addr)(H:Hp):Prop:=jM Lu JA Pt H
def cy(Pt:Addr)(H H':Hp):Prop:=∀b o,H b=some o->b≠Pt->H' b=some o
theorem cy.trans{Pt:Addr}{H H1 H2:Hp}(a:cy Pt H H1)(b:cy Pt H1 H2):cy Pt H H2:=fun c o h n=>b c o (a c o h n) n
theorem cy.of(a:aE H H'):cy Pt H H':=fun c o h _=>a c o h
theorem pe.not(t:pe Pt H)(h:H b=some o)(n:∀ps,o≠.m9 ps):b≠Pt:=by
 rintro rfl;rcases t with z|⟨c,z,_⟩ <;> · rw[h] at z;exact n _ (aY z)
theorem pe.same(t:pe Pt H)(e:aE H H'):pe Pt H':=by
 rcases t with z|⟨c,z,y⟩
 .exact .inl (e _ _ z)
 .exact .inr ⟨c,e _ _ z,e _ _ y⟩
theorem Hi{n a b h:Int}(hn:0<n)(a0:0<=a)(a1:a<n)(b0:0<=b)(b1:b<n)(e:(a-h) % n=(b-h) % n):a=b:=by
 have h1:=Int.emod_emod_of_dvd (a-h) (Int.dvd_refl n);have q:(a-b) % n=0:=by
  have:a-b=(a-h)-(b-h):=by lia
  rw[this,Int.sub_emod,e,Int.sub_self,Int.zero_emod]
 obtain⟨c,hc⟩:=Int.dvd_of_emod_eq_zero q;have c0:c=0:=by
  rcases Int.lt_trichotomy c 0 with z|z|z
  .have:n*c<=n*(-1):=CC (by lia) (by lia);lia
  .exact z
  .have:n*1<=n*c:=CC (by lia) (by lia);lia
 rw[c0] at hc;lia
theorem rK{ts:Ts}{h:Int}(nd:ts.Nodup):((ts.filter fun y=>decide (y.1=h)).map (·.2)).Nodup:=by
 refine L2.nJ (nd.filter _) fun x hx y hy e=>?_;have a:=(bX.mp hx).2;have b:=(bX.mp hy).2;simp at a b;exact Prod.ext (a.trans b.symm) e
theorem B4{n:Nat}{ts:Ts}{h:Nat}(F:eJ n ts)(hh:h<n){out:List Int}(ko:KU (h:Int) (n:Int) ((ts.filter fun y=>decide (y.1=(h:Int))).map (·.2)) out):out.map V.int=NV (eZ n ts h):=by
 obtain⟨ps,hp,rfl,hs⟩:=ko;have BF:(ps.map (·.2)).Perm ((ts.filter fun y=>decide (y.1=(h:Int))).map (·.2)):=by
  have:=hp.map (·.2);rw[fN] at this;refine this.trans (t_ ?_);conv=>rhs;rw[<-jD ((ts.filter fun y=>decide (y.1=(h:Int))).map (·.2))]
  rfl
 have mem:∀z,z∈ps.map (·.2)↔((h:Int),z)∈ts:=fun z=>by
  rw[BF.mem_iff,bQ];constructor
  .rintro⟨y,hy,rfl⟩;obtain⟨y1,y2⟩:=bX.mp hy;have:y.1=(h:Int):=by simpa using y2
   rw[<-this];exact y1
  .intro hz;exact⟨_,bX.mpr ⟨hz,by simp⟩,rfl⟩
 have nd:(ps.map (·.2)).Nodup:=BF.nodup_iff.mpr (rK F.nd);have key:∀q∈ps,q.1=(q.2-(h:Int)) % (n:Int):=fun q hq=>by
  obtain⟨z,_,e⟩:=bQ.mp (hp.mem_iff.mp hq);rw[<-e]
 have hn:(0:Int)<n:=by have:=F.n1;lia
 have sorted:(ps.map (·.2)).Pairwise fun x y=>(x-(h:Int)) % (n:Int)<(y-(h:Int)) % (n:Int):=by
  refine ir.mpr ?_;have nd2:=ir.mp nd;refine(hs.and nd2).imp_of_mem fun {x y} hx hy FG=>?_;have l1:=FG.1;rw[key x hx,key y hy] at l1;have ax:=F.rg _ ((mem x.2).mp (bQ.mpr ⟨x,hx,rfl⟩));have ay:=F.rg _ ((mem y.2).mp (bQ.mpr ⟨y,hy,rfl⟩));have ne:(x.2-(h:Int)) % (n:Int)≠(y.2-(h:Int)) % (n:Int):=fun z=>FG.2 (Hi hn ax.2.1 ax.2.2 ay.2.1 ay.2.2 z);lia
 have e:ps.map (·.2)=(eZ n ts h).map fun (o:Nat)=>(o:Int):=by
  refine oC (k:=fun z=>(z-(h:Int)) % (n:Int)) sorted ?_ fun z=>?_
  .refine ir.mpr ?_;exact wL hh
  .rw[mem,bQ];constructor
   .intro hz;have r:=F.rg _ hz;refine⟨z.toNat,(jQ F hh).mpr ?_,by lia⟩;show (((h:Nat):Int),((z.toNat:Nat):Int))∈ts;rw[show ((z.toNat:Nat):Int)=z by lia];exact hz
   .rintro⟨o,ho,rfl⟩;exact(jQ F hh).mp ho
 rw[e,fN];rfl
section
variable {P:Program} {w:World} {K:PySem.W.Frag} {mg:Str->Option Value} {base:Heap}
theorem Ea:aG ["many","ties","house","others"] ["many","ties","house"] (am wN):=⟨rfl,rfl,rfl,by decide +kernel,rfl,by decide +kernel,by decide +kernel⟩
def u8(Pt:Addr):Sp:=fun vs H Q _=>∃ (n:Nat) (l:Addr) (h:Nat) (zs:Zs),vs=[.int n,.ref l,.int h]/\h<n/\fm H l n zs/\pe Pt H/\
 ∀ (r:Addr) (H':Hp),pe Pt H'->cy Pt H H'->H r=none->H' r=some (.lst (NV (eZ n (zp zs) h)))->Q (.ref r) H'
theorem Hj(F:wr K "houses_out" "houses_out" wN f fd c)(B:Bl mg)(kb:K.In base)(hb:rG mg base)(hc:PySem.W.codeHdIn K c Pt=true):
  bv P w K mg base a9 1 f fd ["many","ties","house"] (u8 Pt):=by
 refine F.ok Ea (fun vs H Q E h=>?_) (fun A outer s H vs Q E hr h=>?_)
 .obtain⟨n,l,h,zs,rfl,_⟩:=h;rfl
 .obtain⟨n,l,h,zs,rfl,hh,T,tb,k⟩:=h;have fi:=T.i9;have n1:=fi.n1;have dZ:zs.length<=256:=by have:=fi.len;rw[dP] at this;exact this
  have LS:OU (uA a9 P w K mg base ["many","ties","house","others"] "houses_out" (am wN) f (.ref c) A outer s H E).Je JA Hg Hh Pw "other" "house" "many" 2 0:=
   ⟨⟨_,_,_,_,_,rfl⟩,fun _ _ _ _ _=>rfl,rfl,rfl,rfl,rfl,rfl,rfl,rfl,by decide +kernel,by decide +kernel,by decide +kernel,rfl,rfl,rfl,by decide,⟨by decide,by decide⟩,⟨by decide,by decide⟩⟩
  refine'⟨_,ah (gG (i:=3) (g:=ur K 2 (fQ (bD 0) (fQ (bD 1) uq))) (NB:=["one","other","house"]) (src:=[none,none,some 2]) (cg (by kernel_rfl)) rfl (cf (pv 1)) ?g ?t ?e Ea.nd rfl rfl rfl)
   (al (aF (BC (yV LS hr) rfl B.sorted xD (aa (pv 3) ag) (F_ (Dw (NB:=["other","house","many"]) (src:=[none,some 2,some 0]) (Ah kb hb hc) (cg (by kernel_rfl))) KA)))),?_⟩
  case g=>exact fun cl C s₃ H₃ fp=>fD (n:=2) rfl (a_ (aB (i:=0) Nu rfl (Or.inl rfl) (Or.inr rfl)) (a_ (aB (i:=1) Nu rfl (Or.inl rfl) (Or.inr rfl)) d_))
  case t=>exact fun cl C s₃ H₃ fp=>fh (aM eQ (pv 0) (pv 2) (aL _))
  case e=>exact fun cl C s₃ H₃ fp=>pv 1
  refine⟨_,rfl,l,rfl,⟨_,aT.of T.at_⟩,fun D hD=>nW (fun σ=>∃a b,σ=[a,b,some (.int (h:Int))]) (·.1) (·.2) (h:Int) hD T.at_ T.po (by lia) ⟨_,_,rfl⟩ ?_ ?_⟩
  .rintro z σ H3 Kt Kf hj ⟨x,y,rfl⟩ ha kt kf;refine⟨z.1,_,rfl,cx.of ha,rfl,_,_,rfl,_,_,rfl,rfl,?_⟩;refine⟨_,rfl,_,rfl,rfl,_,rfl,?_⟩;refine bN (fun e=>?_) (fun e=>?_)
   .exact⟨_,rfl,kt _ ⟨_,_,rfl⟩ (by simpa using e)⟩
   .exact kf _ ⟨_,_,rfl⟩ (by simpa using e)
  .generalize Yg:((zp zs).filter fun y=>decide (y.1=(h:Int))).map (·.2)=os;have Jp:os.length<=8:=by rw[<-Yg,aN];exact fi.most h
   have sm:aE H (upd H D (.lst (IV os))):=aj hD;refine⟨_,rfl,tb.same sm,fun f' c' H2 UZ old FX Bw=>?_⟩;have t2:pe Pt H2:=UZ;have l0:H2 D=some (.lst (IV os)):=old _ _ af ((tb.same sm).not af (by intro ps z;cases z));refine⟨D,f',c',os,h,n,rfl,rfl,aT.of l0,(by lia),Bw,FX,rfl,rfl,by lia,fun r out vA ko=>?_⟩;rw[<-Yg] at ko;rw[B4 fi hh ko];have Pu:aE H2 (upd H2 r (.lst (NV (eZ n (zp zs) h)))):=aj vA;refine k r _ (t2.same Pu) (fun b o e hb=>Pu _ _ (old b o (sm _ _ e) hb)) ?_ af;cases z:H r with
   |none=>rfl
   |some o=>
    by_cases hP:r=Pt
    .rcases t2 with q|⟨_,q,_⟩ <;> · rw[<-hP,vA] at q;cases q
    .rw[old r o (sm _ _ z) hP] at vA;cases vA
end
abbrev Eb:Stmt:=gy 34
abbrev zf:Stmt:=gy 35
def kE(n:Nat)(R:List Nat)(f:Nat->Nat):List V:=(List.range n).map fun x=>if x∈R then V.int ((f x:Nat):Int) else .bJ
theorem jR:(kE n R f).length=n:=by unfold kE;rw[aN,fL]
theorem jS(h:x<n):(kE n R f)[x]?=some (if x∈R then V.int ((f x:Nat):Int) else .bJ):=by
 unfold kE;rw[bo,lc h];rfl
theorem zg(hs:s<n):(List.replicate n V.bJ).set s (V.int 0)=kE n [s] (fun _=>0):=by
 apply xZ;intro x;by_cases hx:x<n
 .rw[jS hx];by_cases e:x=s
  .subst e;rw[pI (by rw[pC];exact hx),ao (by simp)];rfl
  .rw[tO (fun z=>e z.symm),xH,ao hx,ap (by simp[e])]
 .rw[gX (by rw[lm,pC];lia),gX (by rw[jR];lia)]
theorem Ec(hv:v<n):(kE n R f).set v (V.int ((k:Nat):Int))=kE n (R++[v]) (put f v k):=by
 apply xZ;intro x;by_cases hx:x<n
 .rw[jS hx];by_cases e:x=v
  .subst e;rw[pI (by rw[jR];exact hx),ao (by simp),gH]
  .rw[tO (fun z=>e z.symm),jS hx,eU e];by_cases h:x∈R
   .rw[ao h,ao (gY _ h)]
   .rw[ap h,ap (fun z=>(bq.mp z).elim h fun z=>e (by simpa using z))]
 .rw[gX (by rw[lm,jR];lia),gX (by rw[jR];lia)]
def JB(σ:St):Nat:=match σ[4]? with
 |some (some (V.int z))=>z.toNat
 |_=>0
theorem nbO:(["others"]:List Str).Nodup:=by decide +kernel
def ik(H:Hp)(ol:Addr)(n:Nat)(ts:Ts):Prop:=∃bs:List Addr,H ol=some (.lst (bs.map V.ref))/\Holds H bs n (fun h=>.lst (NV (eZ n ts h)))
theorem ik.same(x:ik H ol n ts)(e:aE H H'):ik H' ol n ts:=let ⟨bs,a,b⟩:=x;⟨bs,e _ _ a,b.mono fun _ _ z=>e _ _ z⟩
theorem JC{as:List Addr}{i:Nat}{x:V}(h:(as.map V.ref)[i]?=some x):i<as.length/\x=.ref (as.getD i 0):=by
 rw[bo] at h;cases e:as[i]? with
 |none=>rw[e] at h;cases h
 |some a=>
  rw[e] at h;refine⟨(cK.mp e).1,?_⟩;rw[bP,e];exact(aY h).symm
section
variable {P:Program} {w:World} {K:PySem.W.Frag} {mg:Str->Option Value} {base:Heap}
theorem lU:aG ["out_lists","start","distances","reached","at","house","other"] ["out_lists","start"] (am Eb):=⟨rfl,rfl,rfl,by decide +kernel,rfl,by decide +kernel,by decide +kernel⟩
def u9:Sp:=fun vs H Q _=>∃ (ol:Addr) (n s:Nat) (ts:Ts),vs=[.ref ol,.int s]/\eJ n ts/\s<n/\ik H ol n ts/\
 ∀ (r:Addr) (H':Hp),aE H H'->H r=none->H' r=some (.lst (NV ((List.range n).map (far ts s))))->Q (.ref r) H'
theorem Hk{f:Addr}{fd:FuncData}(F:fR K "distances_from" "distances_from" Eb f fd)(B:Bl mg):bv P w K mg base a9 1 f fd ["out_lists","start"] u9:=by
 refine F.ok lU (fun vs H Q E h=>?_) (fun dM A outer s H vs Q E hr h=>?_)
 .obtain⟨ol,n,s,ts,rfl,_⟩:=h;rfl
 .obtain⟨ol,n,st,ts,rfl,fi,hs,O,k⟩:=h;have n1:=fi.n1;have n2:=fi.n2;refine'⟨_,ah (gG (i:=2) (g:=bD 0) (NB:=["others"]) (src:=[none]) (cg (by kernel_rfl)) rfl (cf (pv 0)) ?g ?t ?e lU.nd rfl rfl rfl)
   (ah (iR aq (nw (pv 2) (pv 1) iy))
   (ah (aO (i:=3) lU.nd rfl (Or.inl rfl) (dY (aa (pv 1) ag)))
   (ah (aO (i:=4) lU.nd rfl (Or.inl rfl) aq)
   (ah (qb eN (aM qe (pv 4) (aA aH (by rfl) B.len cG (aa (pv 3) ag)) (aL _))
    (ah (aO (i:=5) lU.nd rfl (Or.inl rfl) (au az (pv 3) (pv 4) (fun _ _=>rfl)))
    (ah (dO eN rfl (cf (au az (pv 0) (pv 5) (fun _ _=>rfl))) (aB (i:=6) lU.nd rfl (Or.inl rfl))
     (al (bA (aM iT (au az (pv 2) (pv 6) (fun _ _=>rfl)) ce (aL _))
      (ah (iR (bp dC (au az (pv 2) (pv 5) (fun _ _=>rfl)) aq) (nw (pv 2) (pv 6) iy))
      (al (cP (iA im kM kK dj (pv 3) (aa (pv 6) ag))))) aQ)))
    (al (CQ (i:=4) lU.nd rfl (Or.inl rfl) aq CS)))))
   (al (aF (pv 2))))))),?_⟩
  case g=>exact fun cl C s₃ H₃ fp=>aB (i:=0) nbO rfl (Or.inl rfl) (Or.inr rfl)
  case t=>exact fun cl C s₃ H₃ fp=>fg
  case e=>exact fun cl C s₃ H₃ fp=>ce
  obtain⟨bs,Jp,U0,Nn⟩:=id O;refine⟨_,rfl,ol,rfl,⟨_,aT.of Jp⟩,fun D hD=>?_⟩;have nol:ol≠D:=ai Jp hD;refine eY (xs:=bs.map V.ref) (fun i ys σ H2=>(∃a,σ=[a])/\ys=List.replicate i V.bJ/\H2=upd H D (.lst ys)) ⟨⟨_,rfl⟩,rfl,rfl⟩ (fun i ys σ H2 _ ⟨_,_,e⟩=>by rw[e];exact aT.of (by rw[ak nol];exact Jp)) ?_ ?_
  .rintro i x ys σ H2 Kt Kf hx ⟨⟨a,rfl⟩,rfl,rfl⟩ kt kf;have hi:=(JC hx).1;refine kt _ _ _ af ?_ ⟨⟨_,rfl⟩,?_,by rw[g7]⟩
   .rw[pC];exact bU hi (by rw[U0];exact br n2 (by decide))
   .rw[List.replicate_succ']
  .rintro ys σ H2 ⟨_,rfl,rfl⟩;rw[aN,U0];refine⟨_,rfl,_,rfl,D,_,st,st,rfl,rfl,af,by rw[pC];exact j_ hs,?_⟩;rw[g7,zg hs];refine⟨_,rfl,by show 1<=sizeLine;decide,fun R hR=>?_⟩;have JD:D≠R:=ai (H:=upd H D (.lst (kE n [st] (fun _=>0)))) af hR;have Px:H R=none:=by rw[ak JD.symm] at hR;exact hR
   refine vN (fun σ H2=>∃ (i:Nat) (Rs:List Nat) (f:Nat->Nat),i<=Rs.length/\xu n ts st i Rs f/\(∃a b,σ=[some (.ref ol),some (.int st),some (.ref D),some (.ref R),some (.int (i:Int)),a,b])/\aE H H2/\H2 D=some (.lst (kE n Rs f))/\H2 R=some (.lst (NV Rs)))
    (fun σ _=>n-JB σ) ⟨0,[st],fun _=>0,dg _,xu.start hs,⟨none,none,rfl⟩,bE (aj hD) Px,?_,af⟩ ?_ ?_
   .rw[ak JD,af]
   .rintro σ H2 ⟨i,Rs,f,hi,Bf,⟨a,b,rfl⟩,sm,l0,Nv⟩;have hRn:Rs.length<=n:=eD Bf.nd Bf.lt;refine⟨_,rfl,_,rfl,R,_,rfl,.inl (aT.of Nv),_,_,rfl,rfl,_,rfl,?_⟩;rw[qP];by_cases sK:i<Rs.length
    .rw[show decide ((i:Int)<((Rs.length:Nat):Int))=true by simp;lia];refine Gi ?_;have hu:Rs[i]?=some Rs[i]:=cm sK;generalize Rs[i]=u at hu;have Hl:u<n:=Bf.lt u (dQ hu);have Sj:(NV Rs)[i]?=some (.int (u:Int)):=by rw[bo,hu];rfl
     refine⟨_,rfl,_,rfl,R,_,_,_,rfl,rfl,aT.of Nv,bg Sj,?_⟩;have Nw:(bs.map V.ref)[u]?=some (.ref (bs.getD u 0)):=by
      rw[bo,bP,cm (by rw[U0];exact Hl)];rfl
     have Lv:=sm _ _ (Nn _ Hl);refine⟨_,rfl,_,rfl,ol,_,_,_,rfl,rfl,aT.of (sm _ _ Jp),bg Nw,_,rfl,⟨_,aT.of Lv⟩,?_⟩;have nbD:bs.getD u 0≠D:=ai (Nn _ Hl) hD;have nbR:bs.getD u 0≠R:=ai (Nn _ Hl) Px;refine jI (K:=K) (xs:=NV (eZ n ts u)) (fun j σ H3=>∃ (gc:List Nat) (f':Nat->Nat),xu n ts st i gc f'/\gc[i]?=some u/\(∀v∈(eZ n ts u).take j,v∈gc/\f' v<=f' u+1)/\
      (∃b,σ=[some (.ref ol),some (.int st),some (.ref D),some (.ref R),some (.int (i:Int)),some (.int (u:Int)),b])/\aE H H3/\H3 D=some (.lst (kE n gc f'))/\H3 R=some (.lst (NV gc)))
      ⟨Rs,f,Bf,hu,fun v hv=>by simp at hv,⟨_,rfl⟩,sm,l0,Nv⟩ (fun j σ H3 _ ⟨_,_,_,_,_,_,rM,_⟩=>aT.of (rM _ _ (Nn _ Hl))) ?_ ?_
     .rintro j x σ H3 hx ⟨gc,f',sQ,wb,dn,⟨b',rfl⟩,rM,kF,vB⟩;rw[bo] at hx;cases hv:(eZ n ts u)[j]? with
      |none=>rw[hv] at hx;cases hx
      |some v=>
       rw[hv] at hx;obtain rfl:V.int ((v:Nat):Int)=x:=aY hx;have Sk:v∈eZ n ts u:=dQ hv;have Ed:v<n:=Ax fi Hl Sk;have U1:T ts u v:=(jQ fi Hl).mp Sk;have tk:(eZ n ts u).take (j+1)=(eZ n ts u).take j++[v]:=by rw[iq,hv];rfl
       have Ee:u∈gc:=dQ wb;refine⟨_,rfl,_,rfl,D,_,_,_,rfl,rfl,aT.of kF,bg (jS Ed),rfl,_,rfl,?_⟩;by_cases zh:v∈gc
       .rw[ao zh];refine lL ⟨gc,f',sQ,wb,fun x hx=>?_,⟨_,rfl⟩,rM,kF,vB⟩;rw[tk] at hx;rcases bq.mp hx with z|z
        .exact dn x z
        .simp at z;subst z;exact⟨zh,sQ.bd u wb _ zh⟩
       .rw[ap zh];refine Gi ?_;have hg2:(kE n gc f')[u]?=some (.int ((f' u:Nat):Int)):=by rw[jS Hl,ao Ee]
        refine⟨_,rfl,_,rfl,D,_,_,_,rfl,rfl,aT.of kF,bg hg2,_,_,rfl,rfl,_,rfl,_,rfl,D,_,_,_,rfl,rfl,kF,by rw[jR];exact j_ Ed,?_⟩;have e1:(kE n gc f').set v (.int (((f' u:Nat):Int)+1))=kE n (gc++[v]) (put f' v (f' u+1)):=by
         rw[show ((f' u:Nat):Int)+1=((f' u+1:Nat):Int) by lia,Ec Ed]
        rw[e1];have rp:(upd H3 D (.lst (kE n (gc++[v]) (put f' v (f' u+1))))) R=some (.lst (NV gc)):=by rw[ak JD.symm];exact vB
        have Ef:gc.length<=n:=eD sQ.nd sQ.lt;refine⟨_,rfl,.inl ⟨rfl,_,aT.of rp⟩,_,rfl,R,_,_,rfl,rfl,rp,by rw[qP];exact bU (show gc.length<33 by lia) (by decide),?_⟩;have lZ:i<gc.length:=(cK.mp wb).1;have U2:u≠v:=fun z=>zh (z ▸ Ee);refine⟨gc++[v],put f' v (f' u+1),sQ.add wb Ed U1 zh,by rw[ja lZ];exact wb,fun x hx=>?_,⟨_,rfl⟩,bE (bE rM hD) Px,?_,?_⟩
        .rw[eU U2];rw[tk] at hx;rcases bq.mp hx with z|z
         .obtain⟨q1,q2⟩:=dn x z;exact⟨gY _ q1,by rw[eU (fun (z:x=v)=>zh (z ▸ q1))];exact q2⟩
         .simp at z;subst z;exact⟨by simp,by rw[gH];exact aZ _⟩
        .rw[ak JD,af]
        .rw[af];show _=some (HO.lst (NV (gc++[v])));rw[show NV (gc++[v])=NV gc++[.int (v:Int)] by unfold NV;rw[cD];rfl]
     .rintro σ H3 ⟨gc,f',sQ,wb,dn,⟨b',rfl⟩,rM,kF,vB⟩;rw[qP,gA] at dn;have lZ:i<gc.length:=(cK.mp wb).1;have Ef:gc.length<=n:=eD sQ.nd sQ.lt;refine⟨_,rfl,_,_,rfl,rfl,⟨⟨i+1,gc,f',lZ,sQ.next wb (fun v t=>dn v ((jQ fi Hl).mpr t)),⟨_,_,rfl⟩,rM,kF,vB⟩,?_⟩⟩;show n-((i:Int)+1).toNat<n-(i:Int).toNat;lia
    .rw[show decide ((i:Int)<((Rs.length:Nat):Int))=false by rw[decide_eq_false_iff_not];lia];have e:kE n Rs f=NV ((List.range n).map (far ts st)):=by
      unfold kE NV;rw[fN];refine jb fun x hx=>?_;obtain⟨q1,q2⟩:=Bf.done fi (by lia) (bO.mp hx);rw[ao q1,q2];rfl
     rw[e] at l0;refine lL ⟨_,rfl,k D H2 sm hD l0⟩
   .rintro σ H2 Q1 Q2 imp ⟨v,e1,v2,e2,p,ys,e3,e4,i1,i2,e5,e6,kk,e7,q⟩;exact⟨v,e1,v2,e2,p,ys,e3,e4,i1,i2,e5,e6,kk,e7,imp _ _ q⟩
end
theorem Py:(["row"]:List Str).Nodup:=by decide +kernel
section
variable {P:Program} {w:World} {K:PySem.W.Frag} {mg:Str->Option Value} {base:Heap}
theorem Hm:aG ["distances"] ["distances"] (am zf):=⟨rfl,rfl,rfl,by decide +kernel,rfl,by decide +kernel,by decide +kernel⟩
def u_:Sp:=fun vs H Q _=>∃ (l:Addr) (ds:List Addr) (n:Nat) (o:Nat->List V),vs=[.ref l]/\H l=some (.lst (ds.map V.ref))/\n<=32/\Holds H ds n (fun j=>.lst (o j))/\(∀j,j<n->∀x∈o j,∃i,x=.int i)/\∀H',aE H H'->Q .bJ H'
theorem Eg(F:fR K "check_reached" "check_reached" zf f fd)(B:Bl mg):bv P w K mg base a9 1 f fd ["distances"] u_:=by
 refine F.ok Hm (fun vs H Q E h=>?_) (fun dM A outer s H vs Q E hr h=>?_)
 .obtain⟨l,ds,n,o,rfl,_⟩:=h;rfl
 .obtain⟨l,ds,n,o,rfl,hl,n2,hh,hx,k⟩:=h;refine'⟨_,al (bA (dB (aA (BA rfl) (by rfl) B.any PyProof.Rows.boot_any (aa ?c ag))) dL aQ),?_⟩;case c=>
   refine' cR (g:=bD 0) (te:=mf (RW K false) (tC .bJ) (be 0)) (NB:=["row"]) (src:=[none]) (cg (by kernel_rfl)) rfl (cf (pv 0)) ?g ?t ?e;case g=>exact fun cl C s₃ H₃ fp=>aB (i:=0) Py rfl (Or.inl rfl) (Or.inr rfl)
   case t=>exact fun cl C s₃ H₃ fp=>fg
   case e=>exact fun cl C s₃ H₃ fp=>cZ nC ce (pv 0) rfl
  refine⟨_,rfl,l,rfl,⟨_,aT.of hl⟩,fun D hD=>?_⟩;have nl:l≠D:=ai hl hD;refine eY (xs:=ds.map V.ref) (fun i ys σ H2=>(∃a,σ=[a])/\ys=(List.replicate i false).map V.bl/\H2=upd H D (.lst ys)) ⟨⟨_,rfl⟩,rfl,rfl⟩ (fun i ys σ H2 _ ⟨_,_,e⟩=>by rw[e];exact aT.of (by rw[ak nl];exact hl)) ?_ ?_
  .rintro i x ys σ H2 Kt Kf hxi ⟨⟨a,rfl⟩,rfl,rfl⟩ kt kf;obtain⟨hi,rfl⟩:=JC hxi;rw[hh.1] at hi;have hd:=hh.2 i hi;have nd:ds.getD i 0≠D:=ai hd hD;have q1:(o i).all gk=true:=mZ.mpr fun x sA=>by obtain⟨z,rfl⟩:=hx i hi x sA;rfl
   have q2:Da .bJ (o i)=false:=by
    unfold Da;rw[x0];intro x sA;obtain⟨z,rfl⟩:=hx i hi x sA;exact fun z=>by cases z
   refine⟨_,rfl,_,_,rfl,.inl (aT.of (by rw[ak nd];exact hd)),rfl,q1,?_⟩;refine kt _ _ _ af ?_ ⟨⟨_,rfl⟩,?_,by rw[g7]⟩
   .rw[aN,pC];exact bU hi (br n2 (by decide))
   .rw[List.replicate_succ',cD,q2];rfl
  .rintro ys σ H2 ⟨_,rfl,rfl⟩;refine⟨D,_,rfl,aT.of af,_,rfl,?_⟩;have e:(List.replicate (ds.map V.ref).length false).any id=false:=by
    rw[x0];intro x sA;rw[(List.mem_replicate.mp sA).2];decide
   rw[e];exact lL (k _ (aj hD))
end
theorem Yh:(["one","other"]:List Str).Nodup:=by decide +kernel
theorem Pz:(["house","many","ties"]:List Str).Nodup:=by decide +kernel
theorem U3:(["house","self"]:List Str).Nodup:=by decide +kernel
def kW(p Pt:Addr)(H H':Hp):Prop:=∀b o,H b=some o->b≠p->b≠Pt->H' b=some o
theorem fm.mono(h:fm H l n zs)(e:kW p Pt H H')(hp:H p=some (.ins C dx fs))(tb:pe Pt H):fm H' l n zs:=
 ⟨h.i9,e _ _ h.at_ (cY h.at_ hp (by intro z;cases z)) (tb.not h.at_ (by intro ps z;cases z)),fun z hz=>e _ _ (h.po z hz) (cY (h.po z hz) hp (by intro z;cases z)) (tb.not (h.po z hz) (by intro ps z;cases z))⟩
theorem pe.mono(t:pe Pt H)(e:∀b o,H b=some o->b≠p->H' b=some o)(hp:H p=some (.ins C dx fs)):pe Pt H':=by
 rcases t with z|⟨c,z,y⟩
 .exact .inl (e _ _ z (cY z hp (by intro q;cases q)))
 .exact .inr ⟨c,e _ _ z (cY z hp (by intro q;cases q)),e _ _ y (cY y hp (by intro q;cases q))⟩
theorem pe.full(t:pe Pt H):H Pt≠none:=by
 rcases t with z|⟨c,z,y⟩ <;> rw[z] <;> intro q <;> cases q
theorem kW.free(s:kW p Pt H H')(hp:H' p≠none)(tb:pe Pt H')(h:H' r=none):H r=none:=by
 cases z:H r with
 |none=>rfl
 |some o=>
  by_cases e1:r=p
  .subst e1;exact absurd h hp
  .by_cases e2:r=Pt
   .subst e2;exact absurd h tb.full
   .rw[s r o z e1 e2] at h;cases h
theorem Eh(h:k [] H):lJ σ H k:=h
theorem kn{H:Hp}{p:Addr}{o:HO}(h:H p=some o):H p≠none:=by rw[h];intro z;cases z
section
variable {P:Program} {w:World} {K:PySem.W.Frag} {mg:Str->Option Value} {base:Heap}
theorem Lw:aG ["self","many","ties"] ["self","many","ties"] (am Ay):=⟨rfl,rfl,rfl,by decide +kernel,rfl,by decide +kernel,by decide +kernel⟩
def va(C Pt:Addr):Sp:=fun vs H Q E=>∃ (p dx:Addr) (n:Nat) (l:Addr) (zs:Zs),vs=[.ref p,.int n,.ref l]/\H p=some (.ins C dx [])/\fm H l n zs/\pe Pt H/\
  ∀H',cS C H' (fun a=>H a=none) p n (zp zs)->pe Pt H'->kW p Pt H H'->Q .bJ H'
theorem Hn{f C Pt:Addr}{fd:FuncData}(F:fR K "__init__" "Net.__init__" Ay f fd)(T:NT K mg C)(B:Bl mg)(CT:b_ P w K mg base a9 6 "check_ties" ["many","ties"] km)(CB:b_ P w K mg base a9 1 "check_balance" ["many","ties"] km)(HO':b_ P w K mg base a9 1 "houses_out" ["many","ties","house"] (u8 Pt))(DF:b_ P w K mg base a9 1 "distances_from" ["out_lists","start"] u9)(CR:b_ P w K mg base a9 1 "check_reached" ["distances"] u_):
  bv P w K mg base a9 7 f fd ["self","many","ties"] (va C Pt):=by
 refine F.ok Lw (fun vs H Q E h=>?_) (fun dM A outer s H vs Q E hr h=>?_)
 .obtain⟨p,dx,n,l,zs,rfl,_⟩:=h;rfl
 .have Sl:bW 1 _:=hr.mono (by decide);refine'⟨_,ah (cP (aD CT hr aP (aa (pv 1) (aa (pv 2) ag))))
   (ah (cP (aD CB Sl aP (aa (pv 1) (aa (pv 2) ag))))
   (ah (uy (pv 0) (pv 1) rfl)
   (ah (uy (pv 0) (aA qK (by rfl) B.sorted xD (aa ?c1 ag)) rfl)
   (ah (uy (pv 0) ?c2 rfl)
   (ah (uy (pv 0) ?c3 rfl)
   (al (cP (aD CR Sl aP (aa (nA (pv 0) rfl) ag))))))))),?_⟩
  case c1=>
   refine' cR (g:=ur K 2 (fQ (bD 0) (fQ (bD 1) uq))) (te:=yE (cH (be 0) (cH (be 1) lJ))) (NB:=["one","other"]) (src:=[none,none]) (cg (by kernel_rfl)) rfl (cf (pv 2)) ?g ?t ?e;case g=>exact fun cl C s₃ H₃ fp=>fD (n:=2) rfl (a_ (aB (i:=0) Yh rfl (Or.inl rfl) (Or.inr rfl)) (a_ (aB (i:=1) Yh rfl (Or.inl rfl) (Or.inr rfl)) d_))
   case t=>exact fun cl C s₃ H₃ fp=>fg
   case e=>exact fun cl C s₃ H₃ fp=>f_ (aa (pv 0) (aa (pv 1) ag))
  case c2=>
   refine' cR (g:=bD 0) (te:=r_ (u8 Pt) [] E0 (cH (be 1) (cH (be 2) (cH (be 0) lJ)))) (NB:=["house","many","ties"]) (src:=[none,some 1,some 2]) (cg (by kernel_rfl)) rfl (et rfl B.range (aa (pv 1) ag)) ?g ?t ?e;case g=>exact fun cl C s₃ H₃ fp=>aB (i:=0) Pz rfl (Or.inl rfl) (Or.inr rfl)
   case t=>exact fun cl C s₃ H₃ fp=>fg
   case e=>exact fun cl C s₃ H₃ fp=>aD HO' Sl aP (aa (pv 1) (aa (pv 2) (aa (pv 0) ag)))
  case c3=>
   refine' cR (g:=bD 0) (te:=r_ u9 [] E0 (cH (Kx K (be 1) "out_lists") (cH (be 0) lJ))) (NB:=["house","self"]) (src:=[none,some 0]) (cg (by kernel_rfl)) rfl (et rfl B.range (aa (pv 1) ag)) ?g ?t ?e;case g=>exact fun cl C s₃ H₃ fp=>aB (i:=0) U3 rfl (Or.inl rfl) (Or.inr rfl)
   case t=>exact fun cl C s₃ H₃ fp=>fg
   case e=>exact fun cl C s₃ H₃ fp=>aD DF Sl aP (aa (nA (pv 1) rfl) (aa (pv 0) ag))
  obtain⟨p,dx,n,l,zs,rfl,hp,TT,tb,k⟩:=h;have fi:=TT.i9;have n1:=fi.n1;have n2:=fi.n2;have dZ:zs.length<=256:=by have:=fi.len;rw[dP] at this;exact this
  refine⟨_,rfl,_,rfl,n,l,zs,rfl,TT,fun H1 s1=>?_⟩;refine⟨_,rfl,_,rfl,n,l,zs,rfl,TT.same s1,fun H2 s2=>?_⟩;have Nx:aE H H2:=s1.trans s2;refine⟨_,rfl,_,rfl,p,C,dx,[],rfl,Nx _ _ hp,T.cl,T.nH,(by show 0<1000;decide),?_⟩
  let G1:Hp:=upd H2 p (.ins C dx (dD "house_count" (.int n) []))
  have d1:kW p Pt H G1:=fun b o e h1 _=>by show upd _ _ _ _=_;rw[ak h1];exact Nx _ _ e
  have Sm:G1 p=some (.ins C dx (dD "house_count" (.int n) [])):=af;have U4:fm G1 l n zs:=TT.mono d1 hp tb;have Ho:pe Pt G1:=tb.mono (fun b o e h1=>by show upd _ _ _ _=_;rw[ak h1];exact Nx _ _ e) hp;refine⟨_,rfl,l,rfl,⟨_,aT.of U4.at_⟩,fun D hD=>?_⟩;refine DY (fun y=>y) (fun σ=>∃a b,σ=[a,b]) U4.at_ U4.po hD (by lia) ⟨_,_,rfl⟩ ?_ ?_
  .rintro z σ H3 R Kf hz ⟨a,b,rfl⟩ ha kk;refine⟨_,_,rfl,cx.of ha,rfl,_,_,rfl,_,_,rfl,rfl,?_⟩;exact⟨_,rfl,_,rfl,by show 2<=sizeLine;decide,fun t ht=>kk _ _ ⟨_,_,rfl⟩ ht⟩
  .intro Yi H3 sm kF JE ez fr2;rw[List.map_id'] at ez;have Zz:Yi.length=zs.length:=by rw[<-dP,ez,dP]
   refine Eh ?_;refine u6 kF JE (by lia) (fun u hu=>by have:=(fi.rg u (ez ▸ hu)).2;lia) fun tl Ny U5 pm ord=>?_;have U6:H tl=none:=d1.free (kn Sm) Ho (sm.free U5);have Kq:∀z∈Ny,H z.1=none:=fun z hz=>d1.free (kn Sm) Ho (fr2 z (pm.mem_iff.mp hz));have U7:H3 p=some (.ins C dx (dD "house_count" (.int n) [])):=sm _ _ Sm;have Lx:p≠tl:=ai U7 U5;refine⟨_,rfl,p,C,dx,_,rfl,by rw[ak Lx];exact U7,T.cl,T.nT,by show 1<1000;decide,?_⟩
   let G2:Hp:=upd (upd H3 tl (.lst (zr Ny))) p (.ins C dx (dD "tie_list" (.ref tl) (dD "house_count" (.int n) [])))
   have q2:∀b o,H3 b=some o->b≠p->G2 b=some o:=fun b o e h1=>by
    show upd _ _ _ _=_;rw[ak h1,ak (ai e U5)];exact e
   have d2:kW p Pt H G2:=fun b o e h1 h2=>q2 _ _ (sm _ _ (d1 _ _ e h1 h2)) h1;have Yj:G2 tl=some (.lst (zr Ny)):=by show upd _ _ _ _=_;rw[ak Lx.symm,af]
   have U8:PO G2 Ny:=fun z hz=>q2 _ _ (JE z (pm.mem_iff.mp hz)) (cY (JE z (pm.mem_iff.mp hz)) U7 (by intro z;cases z));have Ly:G2 p=some (.ins C dx (dD "tie_list" (.ref tl) (dD "house_count" (.int n) []))):=af;have TT2:fm G2 l n zs:=TT.mono d2 hp tb;have xv:pe Pt G2:=Ho.mono (fun b o e h1=>q2 _ _ (sm _ _ e) h1) Sm;refine⟨_,rfl,n,rfl,by lia,by lia,fun D2 l0=>?_⟩;refine lO (n:=n) (lo:=0) (fun i ys σ H4=>(∃a,σ=[a,some (.int n),some (.ref l)])/\∃bs:List Addr,ys=bs.map V.ref/\(∀b∈bs,H b=none)/\Holds H4 bs i (fun h=>.lst (NV (eZ n (zp zs) h)))/\cy Pt G2 H4/\pe Pt H4/\H4 D2=some (.lst ys)/\∀b∈bs,b≠D2)
    ⟨⟨_,rfl⟩,[],rfl,(fun _ h=>nomatch h),Holds.nil,cy.of (aj l0),xv.same (aj l0),af,(fun _ h=>nomatch h)⟩ ?_ ?_
   .rintro i ys σ H4 Kt Kf hi ⟨⟨a,rfl⟩,bs,rfl,U9,hb,qQ,Nz,B5,U_⟩ kt kf;have TT4:fm H4 l n zs:=TT2.mono (p:=p) (fun b o e _ h2=>qQ _ _ e h2) Ly xv;have NA:=qQ _ _ Ly (xv.not Ly (by intro ps z;cases z));refine⟨_,rfl,_,rfl,_,rfl,n,l,i,zs,by rw[lB];rfl,hi,TT4,Nz,fun r H5 t5 zO Sn hr5=>?_⟩;have Va:H r=none:=kW.free (fun b o e h1 h2=>qQ _ _ (d2 _ _ e h1 h2) h2) (kn NA) Nz Sn;have Sq:H5 D2=some (.lst (bs.map V.ref)):=zO _ _ B5 (Nz.not B5 (by intro ps z;cases z));have PB:r≠D2:=by rintro rfl;rw[B5] at Sn;cases Sn
    have kX:∀b o oN,H5 b=some o->b≠D2->(upd H5 D2 oN) b=some o:=fun b o oN e h=>by rw[ak h];exact e
    refine kt _ _ _ Sq (by rw[aN,hb.1];exact bU hi (br n2 (by decide))) ⟨⟨_,rfl⟩,bs++[r],by rw[cD];rfl,?_,?_,?_,?_,af,?_⟩
    .intro b oM;rcases bq.mp oM with z|z
     .exact U9 b z
     .rw[bS.mp z];exact Va
    .refine Holds.snoc (hb.mono fun j hj e=>?_) (kX _ _ _ hr5 PB);refine kX _ _ _ (zO _ _ e (Nz.not e (by intro ps z;cases z))) (U_ _ ?_);rw[bP,cm (by rw[hb.1];exact hj)];exact jg _
    .intro b o e h;exact kX _ _ _ (zO _ _ (qQ _ _ e h) h) (ai e l0)
    .rcases t5 with z|⟨c,z,y⟩
     .exact .inl (kX _ _ _ z (cY z Sq (by intro q;cases q)))
     .exact .inr ⟨c,kX _ _ _ z (cY z Sq (by intro q;cases q)),kX _ _ _ y (cY y Sq (by intro q;cases q))⟩
    .intro b oM;rcases bq.mp oM with z|z
     .exact U_ b z
     .rw[bS.mp z];exact PB
   .rintro ys σ H4 ⟨_,bs,rfl,U9,hb,qQ,Nz,B5,U_⟩;have NA:H4 p=some (.ins C dx (dD "tie_list" (.ref tl) (dD "house_count" (.int n) []))):=qQ _ _ Ly (xv.not Ly (by intro ps z;cases z));have Vb:H D2=none:=d2.free (kn Ly) xv l0;refine⟨_,rfl,p,C,dx,_,rfl,NA,T.cl,T.nO,by have h1:=dX "tie_list" (V.ref tl) (dD "house_count" (V.int n) []);have h2:=dX "house_count" (V.int n) [];simp at h2;lia,?_⟩
    let G3:Hp:=upd H4 p (.ins C dx (dD "out_lists" (.ref D2) (dD "tie_list" (.ref tl) (dD "house_count" (.int n) []))))
    have q3:∀b o,H4 b=some o->b≠p->G3 b=some o:=fun b o e h1=>by show upd _ _ _ _=_;rw[ak h1];exact e
    have Lz:G3 p=some (.ins C dx (dD "out_lists" (.ref D2) (dD "tie_list" (.ref tl) (dD "house_count" (.int n) [])))):=af;have d3:kW p Pt H G3:=fun b o e h1 h2=>q3 _ _ (qQ _ _ (d2 _ _ e h1 h2) h2) h1;have Vc:pe Pt G3:=Nz.mono q3 NA;have Yk:Holds G3 bs n (fun h=>.lst (NV (eZ n (zp zs) h))):=hb.mono fun j hj e=>q3 _ _ e (cY e NA (by intro z;cases z));have Vd:G3 D2=some (.lst (bs.map V.ref)):=q3 _ _ B5 (cY B5 NA (by intro z;cases z));have O3:ik G3 D2 n (zp zs):=⟨bs,Vd,Yk⟩
    refine⟨_,rfl,n,rfl,by lia,by lia,fun D3 LC=>?_⟩;refine lO (n:=n) (lo:=0) (fun i ys σ H6=>(∃a,σ=[a,some (.ref p)])/\∃ds:List Addr,ys=ds.map V.ref/\(∀b∈ds,H b=none)/\Holds H6 ds i (fun s=>.lst (NV ((List.range n).map (far (zp zs) s))))/\aE G3 H6/\H6 D3=some (.lst ys)/\∀b∈ds,b≠D3)
     ⟨⟨_,rfl⟩,[],rfl,(fun _ h=>nomatch h),Holds.nil,aj LC,af,(fun _ h=>nomatch h)⟩ ?_ ?_
    .rintro i ys σ H6 Kt Kf hi ⟨⟨a,rfl⟩,ds,rfl,Ve,hd,Cs,JF,Oi⟩ kt kf;refine⟨_,rfl,p,C,dx,_,_,rfl,Cs _ _ Lz,T.cl,T.nO,by rw[bi,ao rfl],_,rfl,D2,n,i,zp zs,by rw[lB];rfl,fi,hi,O3.same Cs,fun r H7 Vf Vg hr7=>?_⟩;have e7D:H7 D3=some (.lst (ds.map V.ref)):=Vf _ _ JF;have PB:r≠D3:=by rintro rfl;rw[JF] at Vg;cases Vg
     have Va:H r=none:=kW.free (fun b o e h1 h2=>Cs _ _ (d3 _ _ e h1 h2)) (kn (Cs _ _ Lz)) (Vc.same Cs) Vg;have kX:∀b o oN,H7 b=some o->b≠D3->(upd H7 D3 oN) b=some o:=fun b o oN e h=>by rw[ak h];exact e
     refine kt _ _ _ e7D (by rw[aN,hd.1];exact bU hi (br n2 (by decide))) ⟨⟨_,rfl⟩,ds++[r],by rw[cD];rfl,?_,?_,?_,af,?_⟩
     .intro b oM;rcases bq.mp oM with z|z
      .exact Ve b z
      .rw[bS.mp z];exact Va
     .refine Holds.snoc (hd.mono fun j hj e=>?_) (kX _ _ _ hr7 PB);refine kX _ _ _ (Vf _ _ e) (Oi _ ?_);rw[bP,cm (by rw[hd.1];exact hj)];exact jg _
     .intro b o e;exact kX _ _ _ (Vf _ _ (Cs _ _ e)) (ai e LC)
     .intro b oM;rcases bq.mp oM with z|z
      .exact Oi b z
      .rw[bS.mp z];exact PB
    .rintro ys σ H6 ⟨_,ds,rfl,Ve,hd,Cs,JF,Oi⟩;have PD:=Cs _ _ Lz;refine⟨_,rfl,p,C,dx,_,rfl,PD,T.cl,T.nD,by have h1:=dX "tie_list" (V.ref tl) (dD "house_count" (V.int n) []);have h2:=dX "house_count" (V.int n) [];have h3:=dX "out_lists" (V.ref D2) (dD "tie_list" (V.ref tl) (dD "house_count" (V.int n) []));simp at h2;lia,?_⟩;have q4:∀b o u,H6 b=some o->b≠p->(upd H6 p u) b=some o:=fun b o u e h1=>by rw[ak h1];exact e
     refine⟨_,rfl,p,C,dx,_,_,rfl,af,T.cl,T.nD,by rw[bi,ao rfl],D3,ds,n,fun s=>NV ((List.range n).map (far (zp zs) s)),rfl,q4 _ _ _ JF (cY JF PD (by intro z;cases z)),n2,hd.mono fun j hj e=>q4 _ _ _ e (cY e PD (by intro z;cases z)),fun j hj x hx=>?_,fun H8 s8=>?_⟩
     .obtain⟨y,hy,rfl⟩:=bQ.mp hx;exact⟨_,rfl⟩
     .have up:∀b o,G3 b=some o->b≠p->H8 b=some o:=fun b o e h1=>s8 _ _ (q4 _ _ _ (Cs _ _ e) h1);have Vh:H D3=none:=d3.free (kn Lz) Vc LC;have Yl:∀b o,G2 b=some o->b≠p->b≠Pt->H8 b=some o:=fun b o e h1 h2=>up _ _ (q3 _ _ (qQ _ _ e h2) h1) h1;refine k H8 ⟨fi,dx,tl,D2,D3,s8 _ _ af,Vb,Vh,⟨bs,up _ _ Vd (cY Vd Lz (by intro z;cases z)),U9,Yk.mono fun j hj e=>up _ _ e (cY e Lz (by intro z;cases z))⟩,
       ⟨ds,s8 _ _ (q4 _ _ _ JF (cY JF PD (by intro z;cases z))),Ve,hd.mono fun j hj e=>s8 _ _ (q4 _ _ _ e (cY e PD (by intro z;cases z)))⟩,
       ⟨U6,Ny,Yl _ _ Yj Lx.symm (xv.not Yj (by intro ps z;cases z)),fun z hz=>Yl _ _ (U8 z hz) (cY (U8 z hz) Ly (by intro z;cases z)) (xv.not (U8 z hz) (by intro ps z;cases z)),Kq,((show (zp Ny).Perm (zp Yi) from pm.map _).trans (t_ ez)),ord⟩⟩ ?_ fun b o e h1 h2=>up _ _ (d3 _ _ e h1 h2) h1
      exact Vc.mono up Lz
end
end dE
namespace vC
open PySem L2
def gy(i:Nat):Stmt:=PySem.Challenge.pw_neverwait_k64_whole_rings_by_nearest_fir.main.body.getD i (.Pass ⟨0,0,0,0⟩)
abbrev LF:Stmt:=gy 37
abbrev Ei:Stmt:=gy 38
abbrev Ej:Stmt:=gy 39
structure Bl(mg:Str->Option Value):Prop where
 DT:mg "isinstance"=none
 int:mg "int"=none
 bool:mg "bool"=none
 lst:mg "list"=none
 tup:mg "tuple"=none
 dict:mg "dict"=none
 len:mg "len"=none
 range:mg "range"=none
 enum:mg "enumerate"=none
 all:mg "all"=none
 abs:mg "abs"=none
 max:mg "max"=none
 min:mg "min"=none
 repr:mg "repr"=none
def bn(H:Hp)(p:Addr):Prop:=∃a b:Int,H p=some (.lst [.int a,.int b])/\0<=a/\0<=b/\b<2147483647
theorem bn.same{H H':Hp}{p:Addr}(h:bn H p)(s:aE H H'):bn H' p:=let ⟨a,b,e,r⟩:=h;⟨a,b,s _ _ e,r⟩
theorem bn.upd{H:Hp}{p:Addr}{a b:Int}(h1:0<=a)(h2:0<=b)(h3:b<2147483647):bn (upd H p (.lst [.int a,.int b])) p:=⟨a,b,af,h1,h2,h3⟩
section
variable {P:Program} {w:World} {K:PySem.W.Frag} {mg:Str->Option Value} {base:Heap}
theorem AC:aG ["_law_script","_law_k","_law_cell","_law_mixed"] ["_law_script","_law_k"] (am LF):=⟨rfl,rfl,rfl,by decide +kernel,rfl,by decide +kernel,by decide +kernel⟩
def Ek(K:PySem.W.Frag):Sp:=fun vs H Q _=>∃ (a:Addr) (ns:List Int) (k:Nat),vs=[.ref a,.int k]/\aT K H a (ns.map V.int)/\k<64/\∀ (r:Addr) (H':Hp),aE H H'->H r=none->bn H' r->Q (.ref r) H'
theorem El{x:Int}(h0:0<=x)(h1:x<2 ^ 63):x.natAbs<2 ^ 64:=by lia
theorem LH{f:Addr}{fd:FuncData}(F:fR K "_law_pot" "_law_pot" LF f fd)(B:Bl mg):bv P w K mg base a9 1 f fd ["_law_script","_law_k"] (Ek K):=by
 refine F.ok AC (fun vs H Q E h=>?_) (fun dM A outer s H vs Q E hr h=>?_)
 .obtain⟨a,ns,k,rfl,_⟩:=h;rfl
 .obtain⟨a,ns,k,rfl,hS,hk,q⟩:=h;refine⟨_,ah (aO (i:=2) AC.nd rfl (Or.inl rfl) aq)
   (ah (bA (aM qe (pv 1) (aA aH (by rfl) B.len cG (aa (pv 0) ag)) (aL _)) (al (aO (i:=2) AC.nd rfl (Or.inl rfl) (au az (pv 0) (pv 1) (fun _ _=>rfl)))) aQ)
   (ah (aO (i:=3) AC.nd rfl (Or.inl rfl) (bp fZ (bp CZ (bp dC (bp dC (bp fZ (aA C2 (by rfl) B.abs PyProof.Rows.boot_abs (aa (pv 2) ag)) aq) (bp yw aq (pv 1))) aq) aq) aq))
   (al (aF (dY (aa (aA (rZ rfl) (by rfl) B.max PyProof.Rows.boot_max (aa aq (aa (bp ny (pv 2) (bp CZ aq aq)) ag))) (aa (pv 3) ag))))))),?_⟩
  refine⟨_,rfl,_,rfl,a,ns.map V.int,rfl,.inl hS,_,_,rfl,rfl,_,rfl,?_⟩;have fin:∀c:Int,0<=(if c<0 then -c else c):=fun c=>by split <;> lia
  refine bN (fun e=>?_) (fun e=>?_)
  .have eB:k<ns.length:=by
    have:(k:Int)<((ns.map V.int).length:Int):=by simpa using e
    rw[aN] at this;lia
   refine⟨_,rfl,_,rfl,a,_,_,_,rfl,rfl,hS,bg (v:=.int ns[k]) (by rw[bo,cm eB];rfl),?_⟩;have m0:0<=(if ns[k]<0 then -ns[k] else ns[k]) % 2147483587:=l9 _ (by decide);have m1:(if ns[k]<0 then -ns[k] else ns[k]) % 2147483587<2147483587:=l6 _ (by decide);refine⟨_,rfl,_,rfl,_,_,rfl,rfl,(by show (0:Int)<2147483587;decide),_,rfl,_,_,rfl,rfl,.inl ⟨by decide,by decide⟩,_,_,rfl,rfl,_,_,rfl,rfl,_,_,rfl,rfl,⟨by decide,by decide,El (by lia) (by lia)⟩,_,_,rfl,rfl,(by show (0:Int)<2147483629;decide),?_⟩;refine⟨_,rfl,_,_,rfl,rfl,⟨by decide,by decide,by decide⟩,_,_,rfl,rfl,0,_,rfl,_,rfl,by show 2<=sizeLine;decide,fun r vA=>?_⟩;refine q r _ (aj vA) vA ⟨_,_,af,?_,l9 _ (by decide),Int.lt_trans (l6 _ (by decide)) (by decide)⟩;split <;> lia
  .have m0:0<=(if (0:Int)<0 then -0 else (0:Int)) % 2147483587:=by decide
   have m1:(if (0:Int)<0 then -0 else (0:Int)) % 2147483587<2147483587:=by decide
   refine⟨_,rfl,_,rfl,_,_,rfl,rfl,(by show (0:Int)<2147483587;decide),_,rfl,_,_,rfl,rfl,.inl ⟨by decide,by decide⟩,_,_,rfl,rfl,_,_,rfl,rfl,_,_,rfl,rfl,⟨by decide,by decide,El (by lia) (by lia)⟩,_,_,rfl,rfl,(by show (0:Int)<2147483629;decide),?_⟩;refine⟨_,rfl,_,_,rfl,rfl,⟨by decide,by decide,by decide⟩,_,_,rfl,rfl,0,_,rfl,_,rfl,by show 2<=sizeLine;decide,fun r vA=>?_⟩;refine q r _ (aj vA) vA ⟨_,_,af,?_,l9 _ (by decide),Int.lt_trans (l6 _ (by decide)) (by decide)⟩;split <;> lia
theorem Em:aG ["_law_pot_here","_law_many","_law_digit"] ["_law_pot_here","_law_many"] (am Ei):=⟨rfl,rfl,rfl,by decide +kernel,rfl,by decide +kernel,by decide +kernel⟩
def lV:Sp:=fun vs H Q _=>∃ (p:Addr) (m:Int),vs=[.ref p,.int m]/\0<m/\m<1000000/\bn H p/\∀ (d a b:Int),0<=d->d<m->0<=a->0<=b->b<2147483647->Q (.int d) (upd H p (.lst [.int a,.int b]))
theorem Hq{f:Addr}{fd:FuncData}(F:fR K "_law_take" "_law_take" Ei f fd):bv P w K mg base a9 1 f fd ["_law_pot_here","_law_many"] lV:=by
 refine F.ok Em (fun vs H Q E h=>?_) (fun dM A outer s H vs Q E hr h=>?_)
 .obtain⟨p,m,rfl,_⟩:=h;rfl
 .obtain⟨p,m,rfl,m0,m1,⟨a,b,hp,a0,b0,b1⟩,q⟩:=h;refine⟨_,ah (bA (aM zT (au az (pv 0) aq (fun _ _=>rfl)) aq (aL _))
    (ah (aO (i:=2) Em.nd rfl (Or.inl rfl) (bp fZ (au az (pv 0) aq (fun _ _=>rfl)) (pv 1)))
    (ah (iR (bp zP (au az (pv 0) aq (fun _ _=>rfl)) (pv 1)) (nw (pv 0) aq iy))
    (al (aF (pv 2))))) aQ)
   (ah (iR (bp fZ (bp dC (bp yw (au az (pv 0) aq (fun _ _=>rfl)) aq) aq) aq) (nw (pv 0) aq iy))
   (al (aF (bp fZ (bp zP (bp fZ (bp yw (au az (pv 0) aq (fun _ _=>rfl)) (au az (pv 0) aq (fun _ _=>rfl))) aq) aq) (pv 1))))),?_⟩
  have g0:fu [V.int a,V.int b] 0=some (.int a):=bg (j:=0) rfl;have g1:fu [V.int a,V.int b] 1=some (.int b):=bg (j:=1) rfl;refine⟨_,rfl,p,_,_,_,rfl,rfl,aT.of hp,g0,_,_,rfl,rfl,_,rfl,?_⟩;refine bN (fun e=>?_) (fun e=>?_)
  .refine⟨_,rfl,p,_,_,_,rfl,rfl,aT.of hp,g0,_,rfl,_,_,rfl,rfl,m0,?_⟩;refine⟨_,rfl,p,_,_,_,rfl,rfl,aT.of hp,g0,_,rfl,_,_,rfl,rfl,⟨m0,by lia⟩,?_⟩;refine⟨_,rfl,p,_,0,0,rfl,rfl,hp,j_ (j:=0) (by show 0<2;decide),?_⟩;refine⟨_,rfl,?_⟩;exact q _ _ _ (l9 _ (by lia)) (l6 _ m0) (Int.ediv_nonneg a0 (by lia)) b0 b1
  .refine⟨_,rfl,p,_,_,_,rfl,rfl,aT.of hp,g1,_,_,rfl,rfl,.inl ⟨by lia,by lia⟩,_,_,rfl,rfl,_,_,rfl,rfl,(by show (0:Int)<2147483647;decide),?_⟩;refine⟨_,rfl,p,_,1,1,rfl,rfl,hp,j_ (j:=1) (by show 1<2;decide),?_⟩;have c0:0<=(b*39373+20011) % 2147483647:=l9 _ (by decide);have c1:(b*39373+20011) % 2147483647<2147483647:=l6 _ (by decide);refine⟨_,rfl,p,_,_,_,rfl,rfl,aT.of af,bg (j:=1) rfl,_,rfl,p,_,_,_,rfl,rfl,aT.of af,bg (j:=1) rfl,_,_,rfl,rfl,.inl ⟨by lia,by lia⟩,_,_,rfl,rfl,(by show (0:Int)<2147483563;decide),_,_,rfl,rfl,⟨by decide,by decide⟩,_,rfl,_,_,rfl,rfl,m0,?_⟩;exact q _ _ _ (l9 _ (by lia)) (l6 _ m0) a0 c0 c1
theorem zi:aG ["_law_pot_here","_law_some","_law_found","_law_one"] ["_law_pot_here","_law_some"] (am Ej):=⟨rfl,rfl,rfl,by decide +kernel,rfl,by decide +kernel,by decide +kernel⟩
def zj(K:PySem.W.Frag):Sp:=fun vs H Q _=>∃ (p l:Addr) (xs:List V),vs=[.ref p,.ref l]/\bn H p/\H l=some (.lst xs)/\l≠p/\xs.length<4096/\∀ (r:Addr) (ys:List V) (H':Hp),ys.Perm xs->ba p H H'->bn H' p->H r=none->H' r=some (.lst ys)->Q (.ref r) H'
theorem Hr{f:Addr}{fd:FuncData}(F:fR K "_law_shuffled" "_law_shuffled" Ej f fd)(B:Bl mg)(T:b_ P w K mg base a9 1 "_law_take" ["_law_pot_here","_law_many"] lV):bv P w K mg base a9 2 f fd ["_law_pot_here","_law_some"] (zj K):=by
 refine F.ok zi (fun vs H Q E h=>?_) (fun dM A outer s H vs Q E hr h=>?_)
 .obtain⟨p,l,xs,rfl,_⟩:=h;rfl
 .obtain⟨p,l,xs,rfl,hp,hl,hlp,hz,q⟩:=h;refine⟨_,ah (aO (i:=2) zi.nd rfl (Or.inl rfl) (dY ag))
   (ah (dO eN rfl (cf (pv 1)) (aB (i:=3) zi.nd rfl (Or.inl rfl))
    (al (cP (iA im PySem.F.slot_list_insert PySem.F.type_list_insert BM (pv 2) (aa (aD T hr aP (aa (pv 0) (aa (bp dC (aA aH (by rfl) B.len cG (aa (pv 2) ag)) aq) ag))) (aa (pv 3) ag))))))
   (al (aF (pv 2)))),?_⟩
  refine⟨by show 0<=sizeLine;decide,fun D hD=>?_⟩;have nl:l≠D:=ai hl hD;have np:p≠D:=by obtain⟨a,b,e,_⟩:=hp;exact ai e hD
  refine⟨_,rfl,l,rfl,⟨_,aT.of (by rw[ak nl];exact hl)⟩,jI (K:=K) (a:=l) (xs:=xs) (fun i σ H2=>(∃v,σ=[some (.ref p),some (.ref l),some (.ref D),v])/\ba p H H2/\bn H2 p/\∃ys,H2 D=some (.lst ys)/\ys.Perm (xs.take i)) ⟨⟨_,rfl⟩,ba.of (aj hD),hp.same (aj hD),[],af,by simp⟩ (fun i σ H2 _ ⟨_,sm,_⟩=>aT.of (sm _ _ hl hlp)) ?_ ?_⟩
  .rintro i x σ H2 hx ⟨⟨v,rfl⟩,sm,p2,ys,l0,pm⟩;have hi:=(cK.mp hx).1;have hly:ys.length=i:=by rw[pm.length_eq,jf];lia
   refine⟨_,rfl,.inl ⟨rfl,_,aT.of l0⟩,_,rfl,_,rfl,D,ys,rfl,.inl (aT.of l0),_,_,rfl,rfl,p,_,rfl,by lia,by lia,p2,fun d a b d0 d1 a0 b0 b1=>?_⟩;refine⟨_,rfl,D,ys,d,d.toNat,x,rfl,rfl,by lia,by rw[ak np.symm];exact l0,by lia,by lia,?_⟩;refine⟨⟨_,rfl⟩,fun b' o e h=>?_,⟨a,b,by rw[ak np,af],a0,b0,b1⟩,_,af,?_⟩
   .rw[ak (ai e hD),ak h];exact sm _ _ e h
   .have e1:xs.take (i+1)=xs.take i++[x]:=by rw[iq,hx];rfl
    rw[e1];have e2:(ys.take d.toNat++[x]++ys.drop d.toNat).Perm (ys++[x]):=by
     have h1:(ys.take d.toNat++[x]++ys.drop d.toNat).Perm (ys.take d.toNat++(ys.drop d.toNat++[x])):=by
      rw[jc];exact List.Perm.append_left _ pB
     rw[<-jc,xL] at h1;exact h1
    exact e2.trans (pm.append_right [x])
  .rintro σ H2 ⟨⟨v,rfl⟩,sm,p2,ys,l0,pm⟩;rw[gA] at pm;exact⟨_,rfl,q D ys H2 pm sm p2 hD l0⟩
end
abbrev NV(js:List Nat):List V:=js.map fun (j:Nat)=>V.int j
def inn(g:Nat->List Nat)(n x:Nat):Nat:=(List.range n).countP fun o=>decide (x∈g o)
structure gf(n:Nat)(g:Nat->List Nat):Prop where
 nd:∀h,h<n->(g h).Nodup
 lt:∀h,h<n->∀o∈g h,o<n/\o≠h
 le:∀h,h<n->(g h).length<=8
 Jy:∀h,h<n->(g h).length=inn g n h
def Sr(row:List Nat):List Nat:=row.getLast?.toList++row.dropLast
theorem Eo{row:List Nat}{k:Nat}(h:k<row.length):fu (NV row) ((k:Int)-1)=some (.int ((Sr row).getD k 0:Nat)):=by
 rcases pL row with e|⟨l,x,e⟩
 .subst e;exact absurd h (by simp)
 .subst e;rw[pM] at h |-;have er:Sr (l++[x])=x::l:=by unfold Sr;rw[List.getLast?_concat,List.dropLast_concat];rfl
  rw[er];cases k with
  |zero=>
   have e2:NV (l++[x])=NV l++[.int x]:=by unfold NV;rw[cD];rfl
   rw[e2];exact mn _ _
  |succ k=>
   have hk:k<l.length:=by rw[cr] at h;simp at h;lia
   have e2:(((k+1:Nat):Int)-1)=(k:Int):=by lia
   rw[e2];refine bg ?_;rw[bo,ja hk,xS,bP,cm hk];rfl
def eF(A:Nat->Addr)(ks:List Nat):List (dq×V):=ks.map fun (h:Nat)=>(Sum.inl (h:Int),V.ref (A h))
abbrev eV(as:List Addr)(ks:List Nat):List (dq×V):=eF (fun h=>as.getD h 0) ks
theorem gz{A:Nat->Addr}{h:Nat}:∀ {ks:List Nat},iB (eF A ks) (.inl (h:Int))=if h∈ks then some (.ref (A h)) else none
 |[]=>rfl
 |y::ys=>by
  unfold eF;rw[cX];by_cases e:y=h
  .subst e;rw[jN rfl,ao b9]
  .have e2:¬ ((Sum.inl (y:Int):dq)=Sum.inl (h:Int)):=fun z=>e (dS (pZ z));rw[jO e2];have ih:=gz (A:=A) (h:=h) (ks:=ys);unfold eF at ih;rw[ih];by_cases m:h∈ys
   .rw[ao m,ao (cC _ m)]
   .rw[ap m,ap (fun z=>(bL.mp z).elim (fun q=>e q.symm) m)]
theorem cp{A:Nat->Addr}{ks:List Nat}:(eF A ks).length=ks.length:=aN _
theorem mI{A:Nat->Addr}{ks:List Nat}{i:Nat}{k:dq}{v:V}(h:(eF A ks)[i]?=some (k,v)):∃x,ks[i]?=some x/\k=.inl ((x:Nat):Int):=by
 unfold eF at h;rw[bo] at h;obtain⟨x,hx,e⟩:=pA.mp h;exact⟨x,hx,(congrArg Prod.fst e).symm⟩
theorem jT{A B:Nat->Addr}{ks:List Nat}(h:∀x∈ks,A x=B x):eF A ks=eF B ks:=jb fun x hx=>by rw[h x hx]
theorem sR{A:Nat->Addr}:∀ {ks:List Nat},ks.Nodup->iX [] (eF A ks)=eF A ks:=by
 intro ks;rcases pL ks with e|⟨l,x,e⟩
 .intro _;rw[e];rfl
 .rw[pM] at e;subst e;intro nd;have e:eF A (l++[x])=eF A l++[(.inl (x:Int),.ref (A x))]:=by unfold eF;rw[cD];rfl
  obtain⟨n1,n2,n3⟩:=ju.mp nd;have ih:=sR (A:=A) n1;rw[e];unfold iX at ih |-;rw[List.foldl_append,ih];exact my _ (by rw[gz,ap (fun z=>n3 x z x (bS.mpr rfl) rfl)])
 termination_by ks=>ks.length
 decreasing_by simp_all
def u5(ks:List Nat)(n:Nat):Prop:=ks.Perm (List.range n)
theorem u5.len{ks:List Nat}{n:Nat}(h:u5 ks n):ks.length=n:=by rw[List.Perm.length_eq h,fL]
theorem u5.mem{ks:List Nat}{n x:Nat}(h:u5 ks n):x∈ks↔x<n:=by rw[List.Perm.mem_iff h,bO]
theorem u5.nd{ks:List Nat}{n:Nat}(h:u5 ks n):ks.Nodup:=(List.Perm.nodup_iff h).mpr kP
theorem u5.at_{ks:List Nat}{n i x:Nat}(h:u5 ks n)(e:ks[i]?=some x):i<n/\x<n/\ks.take (i+1)=ks.take i++[x]/\x∉ks.take i:=by
 obtain⟨hi,ex⟩:=cK.mp e;refine⟨by rw[<-h.len];exact hi,h.mem.mp (dQ e),by rw[iq,e];rfl,fun z=>?_⟩;obtain⟨j,hj,ej⟩:=CI.mp z;have:=rQ.mp (tu.mp h.nd) j i (by lia) hi (by lia);exact this (ej.trans ex.symm)
structure ik(H:Hp)(O:Addr)(as:List Addr)(n:Nat)(g:Nat->List Nat):Prop where
 dict:∃ks,u5 ks n/\H O=some (.dK (eV as ks))
 rows:Holds H as n (fun h=>.lst (NV (g h)))
 inj:∀i j,i<n->j<n->as.getD i 0=as.getD j 0->i=j
structure rN(H:Hp)(F:Addr)(A:Nat->Addr)(ks:List Nat)(g:Nat->List Nat):Prop where
 dict:H F=some (.dK (eF A ks))
 rows:∀h∈ks,H (A h)=some (.lst (NV (g h)))
 inj:∀i∈ks,∀j∈ks,A i=A j->i=j
theorem rN.same{H H':Hp}{F:Addr}{A:Nat->Addr}{ks:List Nat}{g:Nat->List Nat}(p:rN H F A ks g)(s:aE H H'):rN H' F A ks g:=⟨s _ _ p.dict,fun h m=>s _ _ (p.rows h m),p.inj⟩
def jo(A:Nat->Addr)(x:Nat)(D:Addr):Nat->Addr:=fun y=>if y=x then D else A y
theorem rN.push{H:Hp}{F D:Addr}{A:Nat->Addr}{ks:List Nat}{g:Nat->List Nat}{x:Nat}(p:rN H F A ks g)(hx:x∉ks)(hD:H D=some (.lst (NV (g x))))(off:∀h∈ks,D≠A h):
  rN (upd H F (.dK (fT (eF A ks) (.inl (x:Int)) (.ref D)))) F (jo A x D) (ks++[x]) g:=by
 have kG:jo A x D x=D:=by unfold jo;rw[ao rfl]
 have NC:∀h∈ks,jo A x D h=A h:=fun h m=>by unfold jo;rw[ap (fun (z:h=x)=>hx (by rw[<-z];exact m))]
 have DF:D≠F:=cY hD p.dict (by intro z;cases z);refine⟨?_,fun h m=>?_,fun i mi j mj e=>?_⟩
 .rw[af,my _ (by rw[gz,ap hx])];have:eF (jo A x D) (ks++[x])=eF (jo A x D) ks++[(.inl (x:Int),.ref (jo A x D x))]:=by unfold eF;rw[cD];rfl
  rw[this,kG,jT NC]
 .rcases bq.mp m with m|m
  .rw[NC h m,ak (cY (p.rows h m) p.dict (by intro z;cases z))];exact p.rows h m
  .rw[bS.mp m,kG,ak DF];exact hD
 .rcases bq.mp mi with mi|mi <;> rcases bq.mp mj with mj|mj
  .rw[NC i mi,NC j mj] at e;exact p.inj i mi j mj e
  .rw[NC i mi,bS.mp mj,kG] at e;exact absurd e.symm (off i mi)
  .rw[NC j mj,bS.mp mi,kG] at e;exact absurd e (off j mj)
  .rw[bS.mp mi,bS.mp mj]
theorem hV{A:Nat->Addr}{n h:Nat}(hh:h<n):((List.range n).map A).getD h 0=A h:=by rw[bP,bo,lc hh];rfl
theorem rN.done{H:Hp}{F:Addr}{A:Nat->Addr}{ks:List Nat}{g:Nat->List Nat}{n:Nat}(p:rN H F A ks g)(o:u5 ks n):ik H F ((List.range n).map A) n g:=
 ⟨⟨ks,o,by rw[p.dict];exact congrArg (fun z=>some (HO.dK z)) (jT fun x hx=>(hV (o.mem.mp hx)).symm)⟩,⟨by rw[aN,fL],fun h hh=>by rw[hV hh];exact p.rows h (o.mem.mpr hh)⟩,fun i j hi hj e=>by rw[hV hi,hV hj] at e;exact p.inj i (o.mem.mpr hi) j (o.mem.mpr hj) e⟩
def Vi(as:List Addr)(n:Nat)(p:Addr):Prop:=∀h,h<n->p≠as.getD h 0
theorem pf{x:Nat}:∀ {js:List Nat},Da (.int x) (NV js)=decide (x∈js)
 |[]=>by simp[Da,NV]
 |j::js=>by
  have ih:=pf (x:=x) (js:=js);unfold Da NV at ih |-;rw[cX,jA,ih];have e:uC (.int (j:Int)) (.int (x:Int))=decide (x=j):=by
   show ((j:Int)==(x:Int))=_;by_cases z:x=j
   .subst z;simp
   .rw[cE z,kO];lia
  rw[e];by_cases z:x=j
  .subst z;simp
  .simp[z]
theorem qR{js:List Nat}:(NV js).all gk=true:=by
 rw[mZ];intro v hv;obtain⟨j,_,rfl⟩:=bQ.mp hv;rfl
theorem wO{js:List Nat}{k:Nat}(h:k<js.length):fu (NV js) (k:Int)=some (.int (js.getD k 0:Nat)):=by
 refine bg ?_;rw[bo,cm h,bP,cm h];rfl
section
variable {P:Program} {w:World} {K:PySem.W.Frag} {mg:Str->Option Value} {base:Heap}
end
theorem sS{p c:Addr}{H H2:Hp}{o:HO}(s:ba p H H2)(h:H c=none):ba p H (upd H2 c o):=fun b u e n=>by rw[ak (ai e h)];exact s b u e n
inductive Rc (g:Nat->List Nat):Nat->Nat->Prop where
 |refl (a:Nat):Rc g a a
 |step {a b c:Nat} (h:Rc g a b) (t:c∈g b):Rc g a c
theorem Rc.trans{g:Nat->List Nat}{a b:Nat}(h:Rc g a b):∀ {c:Nat},Rc g b c->Rc g a c:=by
 intro c k;induction k with
 |refl=>exact h
 |step _ t ih=>exact .step ih t
def LI(n:Nat)(g:Nat->List Nat):Prop:=∀a b,a<n->b<n->Rc g a b
theorem LI.mono{n:Nat}{g g':Nat->List Nat}(h:LI n g)(m:∀a,a<n->∀o∈g a,o∈g' a)(lt:∀a,a<n->∀o∈g a,o<n):LI n g':=by
 intro a b ha hb;have h1:∀ {c:Nat},Rc g a c->Rc g' a c/\c<n:=by
  intro c k;induction k with
  |refl=>exact⟨.refl _,ha⟩
  |step _ t ih=>exact⟨.step ih.1 (m _ ih.2 _ t),lt _ ih.2 _ t⟩
 exact(h1 (h a b ha hb)).1
theorem Ep{row:List Nat}{k:Nat}(h:k<row.length):(Sr row).getD k 0=row.getD (if k=0 then row.length-1 else k-1) 0:=by
 have:=Eo h;rcases Nat.eq_zero_or_pos k with e|e
 .subst e;have hl:fu (NV row) ((0:Nat)-1:Int)=some (.int (row.getD (row.length-1) 0:Nat)):=by
   rcases pL row with z|⟨l,x,z⟩
   .subst z;exact absurd h (by simp)
   .subst z;rw[pM];have:NV (l++[x])=NV l++[.int (x:Nat)]:=by unfold NV;rw[cD];rfl
    rw[this];have e1:((0:Nat)-1:Int)=-1:=rfl;rw[e1,mn];have:(l++[x]).getD ((l++[x]).length-1) 0=x:=by
     rw[cr,pK,Nat.add_sub_cancel,bP,n8 (aZ _)];simp
    rw[this]
  rw[hl] at this;have z:=V.int.inj (aY this);rw[ao rfl];lia
 .have e1:((k:Nat):Int)-1=((k-1:Nat):Int):=by lia
  rw[e1] at this;have h2:fu (NV row) ((k-1:Nat):Int)=some (.int (row.getD (k-1) 0:Nat)):=by
   refine bg ?_;rw[bo,bP,cm (by lia)];rfl
  rw[h2] at this;have z:=V.int.inj (aY this);rw[ap (by lia)];lia
theorem Er{X:Cx}{es:List Expr}{t:TA}{i:Expr}{ti:TE}{p pos:Pos}(h:PA X es t)(hi:PE X i ti)(hs:zY i):PE X (.Subscript (.List es p) i pos) (mf (Bj X.K) (Oj t) ti):=au az (dY h) hi hs
section
variable {P:Program} {w:World} {K:PySem.W.Frag} {mg:Str->Option Value} {base:Heap}
def Es(H H':Hp)(O:Addr)(as:List Addr)(n:Nat)(g:Nat->List Nat):Prop:=gf n g/\2<=n/\n<=32/\ik H' O as n g/\H O=none/\(∀h,h<n->H (as.getD h 0)=none)/\LI n g
end
def Hs:V->Nat
 |.int i=>i.toNat
 |_=>0
theorem Ht{ys:List V}{xs:List Nat}(h:ys.Perm (NV xs)):∃zs:List Nat,ys=NV zs/\zs.Perm xs:=by
 refine⟨ys.map Hs,?_,?_⟩
 .unfold NV;rw[fN];have:∀v∈ys,((fun (j:Nat)=>V.int j) ∘ Hs) v=v:=by
   intro v hv;obtain⟨j,_,rfl⟩:=bQ.mp (h.mem_iff.mp hv);show V.int (((j:Int).toNat:Nat):Int)=_;rw[cM]
  conv=>lhs;rw[<-jD ys]
  exact jb fun v hv=>(this v hv).symm
 .have:=h.map Hs;unfold NV at this;rw[fN] at this;have e:xs.map (Hs ∘ fun (j:Nat)=>V.int j)=xs:=by
   conv=>rhs;rw[<-jD xs]
   exact jb fun j _=>cM j
  rw[e] at this;exact this
theorem bn.some{H:Hp}{p:Addr}(h:bn H p):H p≠none:=by obtain⟨a,b,e,_⟩:=h;rw[e];intro z;cases z
theorem mJ{js:List Nat}{k:Nat}(h:k<js.length):js.getD k 0∈js:=by rw[bP,cm h];exact jg h
theorem ph{js:List Nat}{k:Nat}(h:k<js.length):js.getD k 0=js[k]:=by rw[bP,cm h];rfl
theorem PF{js:List Nat}(nn:js.Nodup){x y:Nat}(hx:x<js.length)(hy:y<js.length)(e:js.getD x 0=js.getD y 0):x=y:=by
 rw[ph hx,ph hy] at e;have:=rQ.mp (tu.mp nn);rcases Nat.lt_trichotomy x y with z|z|z
 .exact absurd e (this x y hx hy z)
 .exact z
 .exact absurd e.symm (this y x hy hx z)
section
variable {P:Program} {w:World} {K:PySem.W.Frag} {mg:Str->Option Value} {base:Heap}
end
abbrev Ss:Stmt:=gy 40
def B6(n:Nat)(g:Nat->List Nat)(h k:Nat):List Nat:=((List.range k).map fun s=>(h+(1+s)) % n).filter fun o=>decide (o∈g h)
def gr(n:Nat)(g:Nat->List Nat)(h:Nat):List Nat:=B6 n g h (n-1)
theorem wP{n:Nat}{g:Nat->List Nat}{h k:Nat}:B6 n g h (k+1)=B6 n g h k++(if (h+(1+k)) % n∈g h then [(h+(1+k)) % n] else []):=by
 unfold B6;rw[jz,cD,jt];congr 1;rw[cX,lA];by_cases e:(h+(1+k)) % n∈g h
 .rw[ao e,List.filter_cons_of_pos (by simpa using e),List.filter_nil]
 .rw[ap e,List.filter_cons_of_neg (by simpa using e),List.filter_nil]
theorem vc{n h s:Nat}(hh:h<n)(hs:s<n-1):(h+(1+s)) % n=if h+(1+s)<n then h+(1+s) else h+(1+s)-n:=by
 by_cases e:h+(1+s)<n
 .rw[ao e,jx e]
 .rw[ap e,Nat.mod_eq_sub_mod (by lia),jx (by lia)]
theorem gw{n:Nat}{g:Nat->List Nat}(G:gf n g){h:Nat}(hh:h<n):(gr n g h).Perm (g h):=by
 have nd:(gr n g h).Nodup:=by
  unfold gr B6;refine pD _ ?_;refine ir.mpr ?_;refine xG ?_ (kP (n:=n-1));intro a b ha hb Pk e;rw[vc hh (bO.mp ha),vc hh (bO.mp hb)] at e;have:=bO.mp ha;have:=bO.mp hb;split at e <;> split at e <;> lia
 refine(xA nd (G.nd h hh)).mpr fun o=>?_;unfold gr B6;rw[bX,e_];refine⟨fun z=>z.2,fun z=>⟨bQ.mpr ?_,z⟩⟩;obtain⟨o1,o2⟩:=G.lt h hh o z;by_cases e:h<o
 .refine⟨o-h-1,bO.mpr (by lia),?_⟩;rw[vc hh (by lia),ao (by lia)];lia
 .refine⟨o+n-h-1,bO.mpr (by lia),?_⟩;rw[vc hh (by lia),ap (by lia)];lia
theorem AD{n:Nat}{g:Nat->List Nat}(G:gf n g):gf n (gr n g):=by
 refine⟨fun h hh=>(gw G hh).nodup_iff.mpr (G.nd h hh),fun h hh o ho=>G.lt h hh o ((gw G hh).mem_iff.mp ho),fun h hh=>by rw[(gw G hh).length_eq];exact G.le h hh,fun h hh=>?_⟩;rw[(gw G hh).length_eq,G.Jy h hh];unfold inn;refine List.countP_congr fun o ho=>?_;simp only[pQ];exact(gw G (bO.mp ho)).mem_iff.symm
theorem Vj:(["_law_step","_law_house","_law_many","_law_outs"]:List Str).Nodup:=by decide +kernel
section
variable {P:Program} {w:World} {K:PySem.W.Frag} {mg:Str->Option Value} {base:Heap}
theorem Hu:aG ["_law_outs","_law_many","_law_found","_law_house"] ["_law_outs"] (am Ss):=⟨rfl,rfl,rfl,by decide +kernel,rfl,by decide +kernel,by decide +kernel⟩
def LJ:Sp:=fun vs H Q _=>∃ (O:Addr) (as:List Addr) (n:Nat) (g:Nat->List Nat),vs=[.ref O]/\gf n g/\LI n g/\2<=n/\n<=32/\ik H O as n g/\
 ∀ (O':Addr) (mT:List Addr) (g':Nat->List Nat) (H':Hp),Es H H' O' mT n g'->g'=gr n g->ba O H H'->H' O≠none->Q (.ref O') H'
theorem PJ{f:Addr}{fd:FuncData}(F:fR K "_law_going_round" "_law_going_round" Ss f fd)(B:Bl mg):bv P w K mg base a9 1 f fd ["_law_outs"] LJ:=by
 refine F.ok Hu (fun vs H Q E h=>?_) (fun dM A outer s H vs Q E hr h=>?_)
 .obtain⟨O,as,n,g,rfl,_⟩:=h;rfl
 .obtain⟨O,as,n,g,rfl,G,gC,n2,FK,hO,q⟩:=h;have hu:(A.deeper (PyProof.Rows.envOfC "_law_going_round" (am Ss) s.heap.objs.size f dM)).units+1<cLine:=by have:=hr.un;lia
  refine'⟨_,ah (aO (i:=1) Hu.nd rfl (Or.inr rfl) (aA BK (by rfl) B.len cG (aa (pv 0) ag)))
   (ah (aO (i:=2) Hu.nd rfl (Or.inl rfl) ww)
   (ah (dO eN rfl (An (pv 0)) (aB (i:=3) Hu.nd rfl (Or.inr rfl)) (al (mz hu (pv 2) (pv 3) ?c rfl)))
   (al (aF (pv 2))))),?_⟩
  case c=>
   refine' cR (g:=bD 0) (tt:=mh (mf (RW K false) (mf (rI (fun _ j=>0<j) fun i j=>.int (i % j)) (mf (Co fun i j=>.int (i+j)) (be 1) (be 0)) (be 2)) (oA (be 3) (be 1)))) (te:=mf (rI (fun _ j=>0<j) fun i j=>.int (i % j)) (mf (Co fun i j=>.int (i+j)) (be 1) (be 0)) (be 2)) (NB:=["_law_step","_law_house","_law_many","_law_outs"]) (src:=[none,some 3,some 1,some 0]) (cg (by kernel_rfl)) rfl
    (rX rfl B.range (aa aq (aa (pv 1) ag))) ?g ?t ?e
   case g=>exact fun cl C s₃ H₃ fp=>aB (i:=0) Vj rfl (Or.inl rfl) (Or.inr rfl)
   case t=>exact fun cl C s₃ H₃ fp=>fh (aM nC (bp fZ (bp dC (pv 1) (pv 0)) (pv 2)) (bY hu (pv 3) (pv 1) (fun _ _=>rfl)) (by rfl))
   case e=>exact fun cl C s₃ H₃ fp=>bp fZ (bp dC (pv 1) (pv 0)) (pv 2)
  obtain⟨ks,OK,hd⟩:=hO.dict;have kl:=OK.len;refine⟨_,rfl,O,_,rfl,hd,?_⟩;change bD 1 (V.int (((eV as ks).length:Nat):Int)) _ _ _;rw[cp,kl];intro F' hF;have Ym:O≠F':=ai hd hF;have PL:=aj (o:=.dK []) hF _ _ hd;refine⟨_,rfl,O,_,rfl,PL,fun o=>?_⟩;refine qB (fun i σ H3=>(∃v3,σ=[some (.ref O),some (.int n),some (.ref F'),v3])/\H3 O=some (.iI o (.dK (eV as ks)))/\ba O H H3/\∃A,rN H3 F' A (ks.take i) (gr n g)/\∀h∈ks.take i,H (A h)=none)
   ⟨⟨_,rfl⟩,af,fun b u e jp=>by rw[ak jp,ak (ai e hF)];exact e,fun _=>0,⟨by rw[ak Ym.symm,af];rfl,fun h m=>by simp at m,fun h m=>by simp at m⟩,fun h m=>by simp at m⟩ (fun i σ H3 _ ⟨_,z,_⟩=>z) ?_ ?_
  .rintro j k v σ H3 hk ⟨⟨v3,rfl⟩,hf,se,A,hB,fr⟩;obtain⟨i,xw,rfl⟩:=mI hk;obtain⟨hj,hi,tk,ni⟩:=OK.at_ xw;have PM:Holds H3 as n (fun h=>.lst (NV (g h))):=hO.rows.mono fun j hj e=>se _ _ e (fun z=>by rw[z] at e;rw[hd] at e;cases e);change bD 3 (V.int (i:Int)) _ _ _;refine⟨_,rfl,1,n,rfl,⟨by decide,by decide,by lia,by lia⟩,fun D hD=>?_⟩;have Yn:((n:Int)-1).toNat=n-1:=by lia
   have Vk:O≠D:=ai hf hD;have Yo:H D=none:=by
    cases z:H D with
    |none=>rfl
    |some u=>rw[se _ _ z Vk.symm] at hD;cases hD
   refine lO (fun j ys σ H4=>(∃v,σ=[v,some (.int i),some (.int n),some (.ref O)])/\ys=NV (B6 n g i j)/\H4=upd H3 D (.lst ys)) ⟨⟨_,rfl⟩,rfl,rfl⟩ ?_ ?_
   .rintro j ys σ H4 Kt Kf hj ⟨⟨v,rfl⟩,rfl,rfl⟩ kt kf;rw[Yn] at hj;have PN:Holds (upd H3 D (.lst (NV (B6 n g i j)))) as n (fun h=>.lst (NV (g h))):=PM.mono fun x _ e=>aj hD _ _ e;have em:((i:Int)+(1+(j:Int))) % (n:Int)=(((i+(1+j)) % n:Nat):Int):=by
     rw[Int.natCast_emod];rfl
    have gt:iW (upd H3 D (.lst (NV (B6 n g i j)))) O (.int (i:Int)) (some (.ref (as.getD i 0))):=.inl ⟨eV as ks,.inl (i:Int),.inr ⟨o,by rw[ak Vk];exact hf⟩,rfl,by rw[gz,ao (OK.mem.mpr hi)]⟩;refine⟨_,rfl,_,rfl,_,_,rfl,rfl,_,rfl,_,_,rfl,rfl,by lia,_,rfl,_,rfl,O,_,rfl,gt,as.getD i 0,NV (g i),rfl,.inl (aT.of (PN.2 i hi)),rfl,qR,_,rfl,?_⟩;have ei:Da (V.int (((i:Int)+(1+(j:Int))) % (n:Int))) (NV (g i))=decide ((i+(1+j)) % n∈g i):=by rw[em,pf]
    refine bN (fun e=>?_) (fun e=>?_)
    .have e':(i+(1+j)) % n∈g i:=by
      have e2:Da (V.int (((i:Int)+(1+(j:Int))) % (n:Int))) (NV (g i))=true:=e;rw[ei] at e2;exact bV e2
     refine⟨_,rfl,_,rfl,_,_,rfl,rfl,_,rfl,_,_,rfl,rfl,by lia,kt _ _ _ af ?_ ⟨⟨_,rfl⟩,?_,?_⟩⟩
     .rw[aN];unfold B6;refine gh (n9 _ _) ?_;rw[aN,fL];exact bU (show j<32 by lia) (by decide)
     .rw[wP,ao e'];show _++[V.int (((i:Int)+(1+(j:Int))) % (n:Int))]=_;rw[em];unfold NV;rw[cD];rfl
     .rw[g7]
    .have e':¬ (i+(1+j)) % n∈g i:=by
      have e2:¬ Da (V.int (((i:Int)+(1+(j:Int))) % (n:Int))) (NV (g i))=true:=e;rw[ei] at e2;simpa using e2
     refine kf _ _ ⟨⟨_,rfl⟩,?_,rfl⟩;rw[wP,ap e',m5]
   .rintro ys σ H4 ⟨_,rfl,rfl⟩;rw[Yn];have off:∀h∈ks.take j,D≠A h:=fun h m=>(ai (hB.rows h m) hD).symm;have No:=hB.same (aj (o:=.lst (NV (B6 n g i (n-1)))) hD);have Su:=No.push ni (D:=D) af off;have nFD:F'≠D:=ai hB.dict hD;refine⟨_,rfl,_,rfl,F',_,rfl,qr.k (k:=.inl (i:Int)) No.dict (by rw[cp,jf];exact bU (show min j ks.length<33 by lia) (by decide)),⟨_,rfl⟩,?_,?_,jo A i D,by rw[tk];exact Su,?_⟩
    .rw[ak Ym,ak Vk];exact hf
    .intro b u e jp;rw[ak (ai e hF),ak (ai e Yo)];exact se _ _ e jp
    .intro h hh;rw[tk] at hh;unfold jo;by_cases e:h=i
     .rw[ao e];exact Yo
     .rw[ap e];rcases bq.mp hh with m|m
      .exact fr h m
      .exact absurd (bS.mp m) e
  .rintro σ H3 ⟨⟨v3,rfl⟩,hf,se,A,hB,fr⟩;rw[cp,gA] at hB fr;exact⟨_,rfl,q F' _ (gr n g) H3 ⟨AD G,n2,FK,hB.done OK,hF,fun h hh=>by rw[hV hh];exact fr h (OK.mem.mpr hh),gC.mono (fun a ha o ho=>(gw G ha).mem_iff.mpr ho) fun a ha o ho=>(G.lt a ha o ho).1⟩ rfl se (by rw[hf];intro z;cases z)⟩
end
end vC
namespace L2
open PySem PySem.Spec PyProof.Rows
section
variable {X:Cx} {tg:Expr}
theorem sT:eO X (.builtin "len") (fun xs H Q=>∃a kvs,xs=[V.ref a]/\(∃o,H a=some (.iI o (.dK kvs)))/\Q (.int kvs.length) H):=by
 intro ae s σ H xs us Q I r h;obtain⟨a,kvs,rfl,ha,q⟩:=h;obtain⟨u,rfl,ru⟩:=qg r;cases ru;exact Jv I (.inr ha) fun t s' I'=>⟨.int kvs.length,H,I',⟨t,rfl⟩,q⟩
def LK(tl:TE):TI:=fun σ H R=>tl σ H fun x H1=>∃d kvs o,x=.ref d/\H1 d=some (.iI o (.dK kvs))/\R (K6 d o kvs) H1
theorem wQ{l:Expr}{tl:TE}(hl:PE X l tl):PI X tg l (LK tl):=by
 intro ae s σ H R I h;refine bZ (hl ae s σ H _ I h) fun v s1 ⟨x,H1,I1,r1,q1⟩=>?_;obtain⟨d,kvs,o,e,hd,q⟩:=q1;subst e;cases r1;obtain⟨ho,z,hS,vs,kv,o',es,ep,g1,g2,g3,g4,g5,g6⟩:=I1.bC d _ hd;rw[ho] at g1;cases g1;have hm:s1.heap.DictAt (bu X.prog X.w) d vs ep:=⟨o,es,ho,g2,g3,g4,g5,g6⟩
 refine wpAny_pyIter_dict hS hm ?_;refine⟨s1.heap.objs.size,[s1.heap.objs.size],_,_,_,rfl,I1.kept (t':=s1.toks) fun b o e=>cq _ e,sJ d _ o kvs es ep g3,⟨_,cW _ rfl,rfl,by rw[kv.length];rfl⟩,fun b hb=>?_,q⟩;have e:b=s1.heap.objs.size:=by simpa using hb
 subst e;exact I1.vL (aZ _) (I1.bC.fresh (aZ _))
end
theorem B7{d D:Addr}{o:Obj}{kvs:List (dq×V)}{g:TG}{tt:TT}{te:TE}{fin:Hp->Prop}{σB:St}{H0:Hp}(Pv:Nat->List V->St->Hp->Prop)(h0:Pv 0 [] σB H0)(hl:∀i ys σ H,i<=kvs.length->Pv i ys σ H->H d=some (.iI o (.dK kvs)))(hs:∀i k v ys σ H (Kt:V->St->Hp->Prop) (Kf:St->Hp->Prop),kvs[i]?=some (k,v)->Pv i ys σ H->
   (∀v σ2 H4,H4 D=some (.lst ys)->ys.length<sizeLine->Pv (i+1) (ys++[v]) σ2 (upd H4 D (.lst (ys++[v])))->Kt v σ2 H4)->(∀σ2 H3,Pv (i+1) ys σ2 H3->Kf σ2 H3)->
   g (kV k) σ H fun σ2 H2=>tt σ2 H2 fun b H3=>if b=true then te σ2 H3 fun v H4=>Kt v σ2 H4 else Kf σ2 H3)(hd:∀ys σ H,Pv kvs.length ys σ H->fin H):g8 (K6 d o kvs) g tt te D fin σB H0:=by
 refine⟨fun i m σ H=>m=kvs.length-i/\i<=kvs.length/\∃ys,Pv i ys σ H,⟨kvs.length,by simp,dg _,[],h0⟩,?_⟩;rintro i m σ H ⟨rfl,hi,ys,p⟩;have q:=hl i ys σ H hi p;by_cases eB:i<kvs.length
 .refine .inr ⟨⟨q,eB⟩,?_⟩;rintro x H' ⟨rfl,k,v,hk,rfl⟩;exact hs i k v ys σ _ (fun v σ2 H4=>∃ys,H4 D=some (.lst ys)/\ys.length<sizeLine/\∃m',m'<kvs.length-i/\m'=kvs.length-(i+1)/\i+1<=kvs.length/\∃oN,Pv (i+1) oN σ2 (upd H4 D (.lst (ys++[v]))))
   (fun σ2 H3=>∃m',m'<kvs.length-i/\m'=kvs.length-(i+1)/\i+1<=kvs.length/\∃oN,Pv (i+1) oN σ2 H3) hk p
   (fun v σ2 H4 z1 z2 z3=>⟨ys,z1,z2,_,by lia,rfl,eB,_,z3⟩) (fun σ2 H3 z=>⟨_,by lia,rfl,eB,_,z⟩)
 .have e:i=kvs.length:=by lia
  subst e;exact .inl ⟨⟨q,aZ _⟩,hd ys σ H p⟩
end L2
namespace vC
open PySem L2
structure fq(H:Hp)(O:Addr)(as:List Addr)(n:Nat)(g:Nat->List Nat):Prop where
 dict:∃o ks,u5 ks n/\H O=some (.iI o (.dK (eV as ks)))
 rows:Holds H as n (fun h=>.lst (NV (g h)))
 inj:∀i j,i<n->j<n->as.getD i 0=as.getD j 0->i=j
theorem fq.same{H H':Hp}{O:Addr}{as:List Addr}{n:Nat}{g:Nat->List Nat}(h:fq H O as n g)(s:aE H H'):fq H' O as n g:=⟨let ⟨o,ks,a,e⟩:=h.dict;⟨o,ks,a,s _ _ e⟩,h.rows.mono fun j _ e=>s _ _ e,h.inj⟩
theorem fq.gp{H H':Hp}{O p:Addr}{as:List Addr}{n:Nat}{g:Nat->List Nat}(h:fq H O as n g)(s:ba p H H')(hp:bn H p)(f:Vi as n p):fq H' O as n g:=by
 obtain⟨a,b,e,_⟩:=hp;obtain⟨o,ks,a0,d⟩:=h.dict;exact⟨⟨o,ks,a0,s _ _ d (cY d e (by intro z;cases z))⟩,h.rows.mono fun j hj x=>s _ _ x (f j hj).symm,h.inj⟩
theorem fq.get{H:Hp}{O:Addr}{as:List Addr}{n:Nat}{g:Nat->List Nat}(h:fq H O as n g){x:Nat}(hx:x<n):iW H O (.int x) (some (.ref (as.getD x 0))):=
 let ⟨o,ks,a,d⟩:=h.dict
 .inl ⟨eV as ks,.inl (x:Int),.inr ⟨o,d⟩,rfl,by rw[gz,ao (a.mem.mpr hx)]⟩
abbrev Hv:Stmt:=gy 44
def jq:Option Nat->V
 |none=>.bJ
 |some h=>.int h
abbrev SV(s:List (Option Nat)):List V:=s.map jq
abbrev HV(s:List Int):List V:=s.map V.int
def d9(n:Nat)(g:Nat->List Nat)(s:List (Option Nat)):Prop:=(∀h,some h∈s->h<n)/\∀h,h<n->s.count (some h)<=(g h).length
theorem Hw{s:List (Option Nat)}:(SV s).all gk=true:=by
 rw[mZ];intro v hv;obtain⟨j,_,rfl⟩:=bQ.mp hv;cases j <;> rfl
theorem Hy{a b:Option Nat}(h:jq a=jq b):a=b:=by
 cases a <;> cases b
 .rfl
 .cases h
 .cases h
 .have:=V.int.inj h;congr 1;lia
theorem wR{h:Nat}:∀ {s:List (Option Nat)},(SV s).countP (fun z=>uC z (.int h))=s.count (some h)
 |[]=>rfl
 |x::s=>by
  have ih:=wR (h:=h) (s:=s);unfold SV at ih |-;rw[cX,mY,ih,List.count_cons];have e:uC (jq x) (.int (h:Int))=(x==some h):=by
   cases x with
   |none=>rfl
   |some y=>
    show ((y:Int)==(h:Int))=(some y==some h);rw[l_];simp;lia
  rw[e]
theorem PP{a b:Int}{c:Bool}:fu [V.int a,V.int b] (if c=true then 1 else 0)=some (V.int (if c=true then b else a)):=by cases c <;> rfl
theorem PQ{a b w:Int}(h:0<=w):fu [V.int a,V.int b] (w % 2)=some (V.int (if w % 2=1 then b else a)):=by
 rcases(by lia:w % 2=0\/w % 2=1) with e|e <;> rw[e] <;> rfl
theorem Et{c:Prop}[Decidable c]{A:Prop}{C:St->Hp->Prop}{σ0:St}{H0:Hp}(G:St->Hp->Prop)(hC:∀σ H,G σ H->C σ H)(h1:c->(∀σ H,G σ H->C σ H)->A)(h2:¬ c->G σ0 H0):if c then A else C σ0 H0:=by
 by_cases h:c
 .rw[ao h];exact h1 h hC
 .rw[ap h];exact hC _ _ (h2 h)
theorem kY{A B:Prop}(h:A):if true=true then A else B:=by rw[ao rfl];exact h
theorem sU{A B:Prop}(h:B):if false=true then A else B:=by rw[ap (by decide)];exact h
theorem d9.push{n:Nat}{g:Nat->List Nat}{s:List (Option Nat)}{x:Option Nat}(h:d9 n g s)(hx:∀y,x=some y->y<n/\s.count (some y)<(g y).length):d9 n g (s++[x]):=by
 refine⟨fun y hy=>?_,fun y hy=>?_⟩
 .rcases bq.mp hy with z|z
  .exact h.1 y z
  .exact(hx y (bS.mp z).symm).1
 .rw[List.count_append,List.count_singleton];by_cases e:x=some y
  .have:=(hx y e).2;rw[ao (by rw[e];simp)];lia
  .rw[ap (by simpa using e)];exact h.2 y hy
def PR(n:Nat)(hs:List Int)(s:List (Option Nat)):Prop:=(∀h∈hs,0<=h/\h<n)/\∀i h,s.getD i none=some h->hs.getD i 0≠(h:Int)
section
variable {P:Program} {w:World} {K:PySem.W.Frag} {mg:Str->Option Value} {base:Heap}
theorem Eu{α:Type}{l:List α}{x d:α}{n j:Nat}(h:l.length=n):(l++[x]).getD j d=if j=n then x else l.getD j d:=by
 rw[bP,bP];by_cases c:j=n
 .rw[ao c,n8 (by lia),show j-l.length=0 by lia];rfl
 .rw[ap c];by_cases z:j<l.length
  .rw[ja z]
  .rw[gX (by rw[cr];simp;lia),gX (by lia)]
theorem Hz{n x:Nat}{d:Int}(hx:x<n)(h0:0<=d)(h1:d<(n:Int)-1):((x:Int)+1+d) % (n:Int)≠(x:Int):=by
 by_cases c:(x:Int)+1+d<n
 .rw[tU (by lia) c];lia
 .rw[<-Int.sub_emod_right,tU (by lia) (by lia)];lia
theorem jU:aG ["_law_pot_here","_law_outs","_law_most","_law_many","_law_way","_law_first","_law_homes","_law_stand","_law_k","_law_start","_law_home"] ["_law_pot_here","_law_outs","_law_most"] (am Hv):=⟨rfl,rfl,rfl,by decide +kernel,rfl,by decide +kernel,by decide +kernel⟩
def Ew:Sp:=fun vs H Q _=>∃ (p O:Addr) (as:List Addr) (n:Nat) (g:Nat->List Nat),vs=[.ref p,.ref O,.int 16]/\bn H p/\fq H O as n g/\Vi as n p/\2<=n/\n<=32/\
 ∀ (t a b:Addr) (hs:List Int) (s:List (Option Nat)) (H':Hp),H' t=some (.tup [.ref a,.ref b])->H' a=some (.tup (HV hs))->H' b=some (.tup (SV s))->hs.length=s.length->s.length<=16->d9 n g s->PR n hs s->ba p H H'->bn H' p->Q (.ref t) H'
theorem LL{f:Addr}{fd:FuncData}(F:fR K "_law_letters" "_law_letters" Hv f fd)(B:Bl mg)(T:b_ P w K mg base a9 1 "_law_take" ["_law_pot_here","_law_many"] lV):bv P w K mg base a9 2 f fd ["_law_pot_here","_law_outs","_law_most"] Ew:=by
 refine F.ok jU (fun vs H Q E h=>?_) (fun dM A outer s H vs Q E hr h=>?_)
 .obtain⟨p,O,as,n,g,rfl,_⟩:=h;rfl
 .obtain⟨p,O,as,n,g,rfl,hp,hO,Ey,n2,FK,q⟩:=h;have hu:(A.deeper (PyProof.Rows.envOfC "_law_letters" (am Hv) s.heap.objs.size f dM)).units+1<cLine:=by have:=hr.un;lia
  refine'⟨_,ah (aO (i:=3) jU.nd rfl (Or.inl rfl) (aA sT (by rfl) B.len cG (aa (pv 1) ag)))
   (ah (aO (i:=4) jU.nd rfl (Or.inl rfl) (aD T hr aP (aa (pv 0) (aa aq ag))))
   (ah (aO (i:=5) jU.nd rfl (Or.inl rfl) (aD T hr aP (aa (pv 0) (aa (pv 3) ag))))
   (ah (aO (i:=6) jU.nd rfl (Or.inl rfl) (dY ag))
   (ah (aO (i:=7) jU.nd rfl (Or.inl rfl) (dY ag))
   (ah (dO eN rfl (et rfl B.range (aa (aD T hr aP (aa (pv 0) (aa (bp dC (pv 2) aq) ag))) ag)) (aB (i:=8) jU.nd rfl (Or.inl rfl))
    (ah (aO (i:=9) jU.nd rfl (Or.inl rfl) (bp fZ (Er (aa (bp dC (pv 5) (aD T hr aP (aa (pv 0) (aa aq ag)))) (aa (aD T hr aP (aa (pv 0) (aa (pv 3) ag))) ag)) (dh r9 (by rfl) B.int pJ (aa (cZ qe (pv 4) aq (aL _)) ag)) (fun _ _=>rfl)) (pv 3)))
    (ah (aO (i:=10) jU.nd rfl (Or.inl rfl) (Er (aa (pv 5) (aa (aD T hr aP (aa (pv 0) (aa (pv 3) ag))) ag)) (dh r9 (by rfl) B.int pJ (aa (bp fZ (pv 4) aq) ag)) (fun _ _=>rfl)))
    (ah (bA (aM eQ (pv 10) (pv 9) (aL _)) (al (aO (i:=10) jU.nd rfl (Or.inl rfl) (bp fZ (bp dC (bp dC (pv 10) aq) (aD T hr aP (aa (pv 0) (aa (bp ny (pv 3) aq) ag)))) (pv 3)))) aQ)
    (ah (bA (PW.pt (oe (aM eQ (aD T hr aP (aa (pv 0) (aa aq ag))) aq (aL _)) (lI (aM eQ (iA im PySem.F.slot_list_count PySem.F.type_list_count DJ (pv 7) (aa (pv 9) ag)) (aA aH (by rfl) B.len cG (aa (bY hu (pv 1) (pv 9) (fun _ _=>rfl)) ag)) (aL _)))))
     (al (aO (i:=9) jU.nd rfl (Or.inl rfl) ce)) aQ)
    (ah (cP (iA im kM kK dj (pv 6) (aa (pv 10) ag)))
    (al (cP (iA im kM kK dj (pv 7) (aa (pv 9) ag))))))))))
   (al (aF (f_ (aa (dh fJ (by rfl) B.tup pH (aa (pv 6) ag)) (aa (dh fJ (by rfl) B.tup pH (aa (pv 7) ag)) ag)))))))))),?_⟩
  obtain⟨oo,ks,OK,hd⟩:=hO.dict;refine⟨_,rfl,O,_,rfl,⟨oo,hd⟩,?_⟩;change bD 3 (V.int (((eV as ks).length:Nat):Int)) _ _ _;rw[cp,OK.len];refine⟨_,rfl,p,4,rfl,by decide,by decide,hp,fun FL a b y0 y1 a0 b0 b1=>?_⟩;refine⟨_,rfl,_,rfl,p,n,rfl,by lia,by lia,bn.upd a0 b0 b1,fun first a2 b2 z0 z1 c0 c1 c2=>?_⟩;rw[g7];have wS:bn (upd H p (.lst [.int a2,.int b2])) p:=bn.upd c0 c1 c2;have Ez:ba p H (upd H p (.lst [.int a2,.int b2])):=ba.upd;refine⟨by show 0<=sizeLine;decide,fun Lh Vl=>⟨by show 0<=sizeLine;decide,fun Ls Vm=>?_⟩⟩;have JG:Lh≠Ls:=ai af Vm;have Vn:(upd H p (.lst [.int a2,.int b2])) Ls=none:=(aj Vl).free Vm;have Yp:H Lh=none:=Ez.free wS.some Vl;have Yq:H Ls=none:=Ez.free wS.some Vn;have Yr:Lh≠p:=by rintro rfl;exact hp.some Yp
  have Ys:Ls≠p:=by rintro rfl;exact hp.some Yq
  have s3:=(aj (o:=.lst []) Vl).trans (aj (o:=.lst []) Vm)
  let J:List Int->List (Option Nat)->Hp->Prop:=fun hs st Hc=>ba p H Hc/\bn Hc p/\Hc Lh=some (.lst (HV hs))/\Hc Ls=some (.lst (SV st))
  have qS:∀hs st Hc H',J hs st Hc->ba p Hc H'->bn H' p->J hs st H':=by
   rintro hs st Hc H' ⟨o1,o2,o3,o4⟩ se po;exact⟨o1.trans se,po,se _ _ o3 Yr,se _ _ o4 Ys⟩
  have wT:∀hs st Hc H',J hs st Hc->aE Hc H'->J hs st H':=fun hs st Hc H' i s=>qS hs st Hc H' i (ba.of s) (i.2.1.same s);have Vo:∀hs st Hc,J hs st Hc->fq Hc O as n g:=fun hs st Hc j=>hO.gp j.1 hp Ey;have J0:J [] [] (upd (upd (upd H p (.lst [.int a2,.int b2])) Lh (.lst [])) Ls (.lst [])):=⟨Ez.trans (ba.of s3),wS.same s3,by rw[ak JG];exact af,af⟩
  refine⟨_,rfl,_,rfl,_,_,rfl,rfl,p,_,rfl,by decide,by decide,J0.2.1,fun d a3 b3 d0 d1 k0 k1 k2=>⟨d,rfl,by lia,by lia,eX (n:=d.toNat) (lo:=0) (fun i σ H3=>(∃v8 v9 FM,σ=[some (.ref p),some (.ref O),some (.int 16),some (.int n),some (.int FL),some (.int first),some (.ref Lh),some (.ref Ls),v8,v9,FM])/\∃hs st,J hs st H3/\hs.length=i/\st.length=i/\d9 n g st/\PR n hs st)
   ⟨⟨_,_,_,rfl⟩,[],[],qS _ _ _ _ J0 ba.upd (bn.upd k0 k1 k2),rfl,rfl,⟨fun h hh=>(nomatch hh),fun h hh=>by simp⟩,⟨fun h hh=>(nomatch hh),fun i h e=>by cases e⟩⟩ ?_ ?_⟩⟩
  .rintro i σ H3 hi ⟨⟨v8,v9,FM,rfl⟩,hs,st,J3,lh,ls,R,BH⟩;have Yt:i<17:=by
    have:d<17:=d1;lia
   refine⟨_,rfl,_,rfl,p,3,rfl,by decide,by decide,J3.2.1,fun d4 a4 b4 p4 q4 r4 s4 t4=>⟨_,_,rfl,rfl,_,rfl,_,rfl,p,n,rfl,by lia,by lia,bn.upd r4 s4 t4,fun d5 a5 b5 p5 q5 r5 s5 t5=>⟨by show 2<=sizeLine;decide,fun L1 UR=>?_⟩⟩⟩;have J5:=wT _ _ _ _ (qS _ _ _ _ (qS _ _ _ _ J3 ba.upd (bn.upd r4 s4 t4)) ba.upd (bn.upd r5 s5 t5)) (aj (o:=.lst [.int (first+d4),.int d5]) UR);refine⟨_,rfl,_,_,rfl,rfl,.inr ⟨_,rfl,L1,_,_,_,rfl,rfl,aT.of af,PP,_,rfl,_,_,rfl,rfl,by lia,?_⟩⟩;obtain⟨x,hx⟩:∃x:Nat,(x:Int)=(if (decide (FL<2))=true then d5 else first+d4) % (n:Int):=⟨((if (decide (FL<2))=true then d5 else first+d4) % (n:Int)).toNat,Int.toNat_of_nonneg (l9 _ (by lia))⟩
   have xn:x<n:=by
    have:=l6 (if (decide (FL<2))=true then d5 else first+d4) (show (0:Int)<n by lia);lia
   change bD 9 (V.int ((if (decide (FL<2))=true then d5 else first+d4) % (n:Int))) _ _ _;rw[<-hx];revert J5;generalize upd _ L1 _=H5;intro J5;refine⟨_,rfl,_,rfl,_,rfl,p,n,rfl,by lia,by lia,J5.2.1,fun d6 a6 b6 p6 q6 r6 s6 t6=>⟨by show 2<=sizeLine;decide,fun L2 ND=>?_⟩⟩;have J6:=wT _ _ _ _ (qS _ _ _ _ J5 ba.upd (bn.upd r6 s6 t6)) (aj (o:=.lst [.int first,.int d6]) ND);refine⟨_,rfl,_,_,rfl,rfl,by show (0:Int)<2;decide,.inl ⟨_,rfl,L2,_,_,_,rfl,rfl,aT.of af,PQ y0,?_⟩⟩;change bD 10 (V.int (if FL % 2=1 then d6 else first)) _ _ _;have hb:0<=(if FL % 2=1 then d6 else first)/\(if FL % 2=1 then d6 else first)<n:=by split <;> lia
   revert hb;generalize (if FL % 2=1 then d6 else first)=home;intro hb;revert J6;generalize upd _ L2 _=H6;intro J6;refine⟨_,rfl,_,rfl,rfl,_,rfl,?_⟩;refine Et (fun σ Hc=>∃hm,σ=[some (.ref p),some (.ref O),some (.int 16),some (.int n),some (.int FL),some (.int first),some (.ref Lh),some (.ref Ls),some (.int (0+(i:Int))),some (.int x),some (.int hm)]/\((0<=hm/\hm<n)/\hm≠(x:Int))/\J hs st Hc) ?_ (fun e kc=>?_) (fun e=>⟨_,rfl,⟨hb,fun z=>e (by rw[z];exact bK rfl)⟩,J6⟩)
   .rintro σ H7 ⟨hm,rfl,Yu,J7⟩;refine⟨_,rfl,p,9,rfl,by decide,by decide,J7.2.1,fun d8 a8 b8 p8 q8 r8 s8 t8=>⟨rfl,_,rfl,?_⟩⟩;have J8:=qS _ _ _ _ J7 ba.upd (bn.upd r8 s8 t8);have fin:∀ (y:Option Nat) (H9:Hp),J hs st H9->(∀z,y=some z->z<n/\st.count (some z)<(g z).length)->(∀z,y=some z->z=x)->J (hs++[hm]) (st++[y]) (upd (upd H9 Lh (.lst (HV hs++[.int hm]))) Ls (.lst (SV st++[jq y]))):=by
     rintro y H9 ⟨o1,o2,o3,o4⟩ _ _;refine⟨sS (sS o1 Yp) Yq,?_,?_,?_⟩
     .obtain⟨u,v,e,r⟩:=o2;exact⟨u,v,by rw[ak Ys.symm,ak Yr.symm];exact e,r⟩
     .rw[ak JG,af];unfold HV;rw[List.map_append];rfl
     .rw[af];unfold SV;rw[List.map_append];rfl
    have LM:∀ (y:Option Nat) (H9:Hp),J hs st H9->(∀z,y=some z->z<n/\st.count (some z)<(g z).length)->(∀z,y=some z->z=x)->∃hs' aS,J hs' aS (upd (upd H9 Lh (.lst (HV hs++[.int hm]))) Ls (.lst (SV st++[jq y])))/\hs'.length=i+1/\aS.length=i+1/\d9 n g aS/\PR n hs' aS:=
     fun y H9 j9 hy Yv=>⟨_,_,fin y H9 j9 hy Yv,by rw[cr,lh];rfl,by rw[cr,ls];rfl,R.push hy,fun h hh=>by
      rcases bq.mp hh with z|z
      .exact BH.1 h z
      .rw[bS.mp z];exact Yu.1,fun j h e=>by
      rw[Eu ls] at e;rw[Eu lh];by_cases c:j=i
      .rw[ao c] at e |-;rw[Yv h e];exact Yu.2
      .rw[ap c] at e |-;exact BH.2 j h e⟩
    have Vp:(HV hs).length<sizeLine:=by rw[aN,lh];exact bU Yt (by decide)
    have Vq:(SV st).length<sizeLine:=by rw[aN,ls];exact bU Yt (by decide)
    refine bN (fun e=>?_) (fun e=>?_)
    .refine kY ?_;exact⟨_,rfl,.inl ⟨rfl,_,aT.of J8.2.2.1⟩,_,rfl,Lh,_,_,rfl,rfl,J8.2.2.1,Vp,_,rfl,.inl ⟨rfl,_,aT.of (by rw[ak JG.symm];exact J8.2.2.2)⟩,_,rfl,Ls,_,_,rfl,rfl,by rw[ak JG.symm];exact J8.2.2.2,Vq,⟨_,_,_,rfl⟩,LM none _ J8 (fun z hz=>by cases hz) (fun z hz=>by cases hz)⟩
    .have Yw:=Vo _ _ _ J8;refine⟨_,rfl,.inl ⟨rfl,_,aT.of J8.2.2.2⟩,_,rfl,Ls,_,_,rfl,rfl,J8.2.2.2,rfl,Hw,_,rfl,_,rfl,O,_,rfl,Yw.get xn,as.getD x 0,NV (g x),rfl,.inl (aT.of (Yw.rows.2 x xn)),rfl,_,rfl,?_⟩;refine bN (fun e2=>?_) (fun e2=>?_)
     .exact⟨_,rfl,.inl ⟨rfl,_,aT.of J8.2.2.1⟩,_,rfl,Lh,_,_,rfl,rfl,J8.2.2.1,Vp,_,rfl,.inl ⟨rfl,_,aT.of (by rw[ak JG.symm];exact J8.2.2.2)⟩,_,rfl,Ls,_,_,rfl,rfl,by rw[ak JG.symm];exact J8.2.2.2,Vq,⟨_,_,_,rfl⟩,LM none _ J8 (fun z hz=>by cases hz) (fun z hz=>by cases hz)⟩
     .refine⟨_,rfl,.inl ⟨rfl,_,aT.of J8.2.2.1⟩,_,rfl,Lh,_,_,rfl,rfl,J8.2.2.1,Vp,_,rfl,.inl ⟨rfl,_,aT.of (by rw[ak JG.symm];exact J8.2.2.2)⟩,_,rfl,Ls,_,_,rfl,rfl,by rw[ak JG.symm];exact J8.2.2.2,Vq,⟨_,_,_,rfl⟩,LM (some x) _ J8 (fun z hz=>?_) (fun z hz=>(aY hz).symm)⟩;cases hz;refine⟨xn,?_⟩;have:=R.2 x xn;refine Nat.lt_of_le_of_ne this fun z=>e2 (bK ?_);rw[wR,z,aN]
   .refine⟨_,rfl,_,_,rfl,rfl,_,rfl,_,rfl,_,_,rfl,rfl,p,_,rfl,by lia,by lia,J6.2.1,fun d7 a7 b7 p7 q7 r7 s7 t7=>⟨_,_,rfl,rfl,_,rfl,_,_,rfl,rfl,by lia,kc _ _ ⟨_,rfl,⟨⟨l9 _ (by lia),l6 _ (by lia)⟩,?_⟩,qS _ _ _ _ J6 ba.upd (bn.upd r7 s7 t7)⟩⟩⟩;have e:home=(x:Int):=by have:=bV e;injection this
    rw[e];exact Hz xn p7 q7
  .rintro σ H3 ⟨⟨v8,v9,FM,rfl⟩,hs,st,J3,lh,ls,R,BH⟩;refine⟨_,rfl,Lh,_,rfl,.inl ⟨aT.of J3.2.2.1,fun a hA=>?_⟩⟩;have J4:=wT _ _ _ _ J3 (aj (o:=.tup (HV hs)) hA);refine⟨_,rfl,Ls,_,rfl,.inl ⟨aT.of J4.2.2.2,fun b hB=>?_⟩⟩;have J5:=wT _ _ _ _ J4 (aj (o:=.tup (SV st)) hB);refine⟨by show 2<=sizeLine;decide,fun t ht=>?_⟩;have J6:=wT _ _ _ _ J5 (aj (o:=.tup [.ref a,.ref b]) ht);have:d<17:=d1;exact q t a b hs st _ af (aj ht _ _ (aj hB _ _ af)) (aj ht _ _ af) (by lia) (by lia) R BH J6.1 J6.2.1
end
abbrev LP:Stmt:=gy 45
def JH(hs:List Int)(i:Nat):Option Nat->Option Nat
 |none=>none
 |some h=>if (h:Int)=hs.getD i 0 then none else some h
def EA(hs:List Int)(gs:List (Option Nat))(k:Nat):List (Option Nat):=(List.range k).map fun i=>JH hs i (gs.getD i none)
def bh(hs:List Int)(gs:List (Option Nat)):List (Option Nat):=EA hs gs gs.length
theorem EB{hs:List Int}{gs:List (Option Nat)}{k:Nat}:EA hs gs (k+1)=EA hs gs k++[JH hs k (gs.getD k none)]:=by unfold EA;rw[jz,cD];rfl
theorem vd{hs:List Int}{gs:List (Option Nat)}{k:Nat}:(EA hs gs k).length=k:=by unfold EA;rw[aN,fL]
theorem zm{s:List (Option Nat)}{i:Nat}{x:V}(h:(SV s)[i]?=some x):i<s.length/\x=jq (s.getD i none):=by
 rw[bo] at h;cases e:s[i]? with
 |none=>rw[e] at h;cases h
 |some a=>
  rw[e] at h;refine⟨(cK.mp e).1,?_⟩;rw[bP,e];exact(aY h).symm
theorem dw{s:List (Option Nat)}{i:Nat}(h:i<s.length):fu (SV s) (i:Int)=some (jq (s.getD i none)):=by
 refine bg ?_;rw[bo,cm h,bP,cm h];rfl
theorem hW{s:List Int}{i:Nat}(h:i<s.length):fu (HV s) (i:Int)=some (.int (s.getD i 0)):=by
 refine bg ?_;rw[bo,cm h,bP,cm h];rfl
theorem HA{s:List (Option Nat)}{o:Option Nat}:SV (s++[o])=SV s++[jq o]:=by unfold SV;rw[cD];rfl
theorem JI:(["_law_i","_law_house","_law_homes"]:List Str).Nodup:=by decide +kernel
section
variable {P:Program} {w:World} {K:PySem.W.Frag} {mg:Str->Option Value} {base:Heap}
theorem PU:aG ["_law_homes","_law_stand","_law_gone"] ["_law_homes","_law_stand","_law_gone"] (am LP):=⟨rfl,rfl,rfl,by decide +kernel,rfl,by decide +kernel,by decide +kernel⟩
def EC:Sp:=fun vs H Q _=>∃ (a c:Addr) (y:V) (hs:List Int) (gs:List (Option Nat)),vs=[.ref a,y,.ref c]/\H a=some (.tup (HV hs))/\H c=some (.tup (SV gs))/\gs.length=hs.length/\gs.length<=16/\
 ∀ (r:Addr) (H':Hp),aE H H'->H' r=some (.tup (SV (bh hs gs)))->Q (.ref r) H'
theorem LQ{f:Addr}{fd:FuncData}(F:fR K "_law_behind" "_law_behind" LP f fd)(B:Bl mg):bv P w K mg base a9 1 f fd ["_law_homes","_law_stand","_law_gone"] EC:=by
 refine F.ok PU (fun vs H Q E h=>?_) (fun dM A outer s H vs Q E hr h=>?_)
 .obtain⟨a,c,y,hs,gs,rfl,_⟩:=h;rfl
 .obtain⟨a,c,y,hs,gs,rfl,ha,hc,hl,LU,q⟩:=h;refine'⟨_,al (aF (dh fJ (by rfl) B.tup pH (aa ?c ag))),?_⟩;case c=>
   refine' cR (g:=ur K 2 (fQ (bD 0) (fQ (bD 1) uq))) (te:=Xs (Xr (tB (N3 (be 1))) (mh (mf RT (be 1) (mf (vV K) (be 2) (be 0))))) (tC .bJ) (be 1)) (NB:=["_law_i","_law_house","_law_homes"]) (src:=[none,none,some 0]) (cg (by kernel_rfl)) rfl
    (qx rfl B.enum (aa (pv 2) ag)) ?g ?t ?e
   case g=>exact fun cl C s₃ H₃ fp=>fD (n:=2) rfl (a_ (aB (i:=0) JI rfl (Or.inl rfl) (Or.inr rfl)) (a_ (aB (i:=1) JI rfl (Or.inl rfl) (Or.inr rfl)) d_))
   case t=>exact fun cl C s₃ H₃ fp=>fg
   case e=>exact fun cl C s₃ H₃ fp=>vJ (PW.pt (oe (uk (Kj (pv 1))) (lI (aM eQ (pv 1) (au aU (pv 2) (pv 0) (fun _ _=>rfl)) (aL _))))) ce (pv 1)
  refine⟨_,rfl,c,_,rfl,cx.of hc,fun D hD=>?_⟩;have fin:∀i ys H3 t o,ys=SV (EA hs gs i)->aE H H3->H3 D=some (.lst ys)->H3 t=none->i<gs.length->JH hs i (gs.getD i none)=o->
    (upd H3 t (.tup [.int (i:Int),jq (gs.getD i none)])) D=some (.lst ys)/\ys.length<sizeLine/\ys++[jq o]=SV (EA hs gs (i+1))/\aE H (upd (upd H3 t (.tup [.int (i:Int),jq (gs.getD i none)])) D (.lst (ys++[jq o])))/\(upd (upd H3 t (.tup [.int (i:Int),jq (gs.getD i none)])) D (.lst (ys++[jq o]))) D=some (.lst (ys++[jq o])):=by
   rintro i ys H3 t o rfl sm kF ht hi rfl;refine⟨aj ht _ _ kF,?_,?_,fun b u e=>?_,af⟩
   .rw[aN,vd];exact bU (show i<17 by lia) (by decide)
   .rw[EB,HA]
   .rw[ak (ai e hD)];exact aj ht _ _ (sm _ _ e)
  refine qy (K:=K) (a:=c) (xs:=SV gs) (fun i ys σ H3=>(∃u v,σ=[u,v,some (.ref a)])/\ys=SV (EA hs gs i)/\aE H H3/\H3 D=some (.lst ys)) ⟨⟨_,_,rfl⟩,rfl,aj hD,af⟩ (fun i ys σ H3 _ z=>cx.of (z.2.2.1 _ _ hc)) ?_ ?_
  .rintro i x t ys σ H3 Kt Kf hx ⟨⟨u,v,rfl⟩,Vr,sm,kF⟩ ht kt kf;obtain⟨hi,rfl⟩:=zm hx;refine⟨_,_,rfl,cx.of af,rfl,_,_,rfl,_,_,rfl,rfl,?_⟩;refine⟨_,rfl,_,rfl,?_⟩;cases ho:gs.getD i none with
   |none=>
    obtain⟨f1,f2,f3,f4,f5⟩:=fin i ys H3 t none Vr sm kF ht hi (by rw[ho];rfl);rw[ho] at f1 f4 f5;refine bN (fun e=>?_) (fun e=>absurd (bK rfl) e);exact kY (kt _ _ _ f1 f2 ⟨⟨_,_,rfl⟩,f3,f4,f5⟩)
   |some h=>
    refine bN (fun e=>absurd (bV e) (by intro z;cases z)) (fun e=>?_);refine⟨_,rfl,_,rfl,_,rfl,a,_,_,_,rfl,rfl,cx.of (aj ht _ _ (sm _ _ ha)),hW (by lia),rfl,_,rfl,?_⟩;refine bN (fun e2=>?_) (fun e2=>?_)
    .have e3:(h:Int)=hs.getD i 0:=V.int.inj (bV e2);obtain⟨f1,f2,f3,f4,f5⟩:=fin i ys H3 t none Vr sm kF ht hi (by rw[ho];exact ao e3);rw[ho] at f1 f4 f5;exact kt _ _ _ f1 f2 ⟨⟨_,_,rfl⟩,f3,f4,f5⟩
    .have e3:¬ (h:Int)=hs.getD i 0:=fun z=>e2 (bK (by show V.int (h:Int)=V.int (hs.getD i 0);rw[z]));obtain⟨f1,f2,f3,f4,f5⟩:=fin i ys H3 t (some h) Vr sm kF ht hi (by rw[ho];exact ap e3);rw[ho] at f1 f4 f5;exact⟨_,rfl,kt _ _ _ f1 f2 ⟨⟨_,_,rfl⟩,f3,f4,f5⟩⟩
  .rintro ys σ H3 ⟨_,rfl,sm,kF⟩;rw[show (SV gs).length=gs.length from aN _] at kF;exact⟨D,_,rfl,.inl ⟨aT.of kF,fun r hr=>q r _ (sm.trans (aj hr)) af⟩⟩
end
theorem sV:∀ {l m:List Nat},l.Nodup->(∀x∈l,x∈m)->l.length<=m.length
 |[],m,_,_=>dg _
 |a::l,m,nd,sub=>by
  have ha:a∈m:=sub a b9;have ih:=sV (l:=l) (m:=m.erase a) (dR.mp nd).2 fun x hx=>(xM (show x≠a from fun z=>(dR.mp nd).1 (by rw[<-z];exact hx))).mpr (sub x (cC _ hx));rw[xE ha] at ih;have:=tH ha;rw[cw];lia
theorem wU{s:List (Option Nat)}{a:Option Nat}:s.count a=((List.range s.length).filter fun i=>s.getD i none==a).length:=by
 have e:(List.range s.length).map (fun i=>s.getD i none)=s:=by
  apply xZ;intro i;rw[bo];by_cases hi:i<s.length
  .rw[lc hi,cm hi];show some (s.getD i none)=_;rw[bP,cm hi];rfl
  .rw[gX (by rw[fL];lia),gX (by lia)];rfl
 conv=>lhs;rw[<-e]
 rw[List.count_eq_countP,List.countP_map,xz];rfl
structure c_(g:Nat->List Nat)(s gs:List (Option Nat)):Prop where
 len:gs.length=s.length
 bJ:∀i,s.getD i none=none->gs.getD i none=none
 tie:∀i h,s.getD i none=some h->∃o,gs.getD i none=some o/\o∈g h
 Sv:∀i j h o,s.getD i none=some h->s.getD j none=some h->gs.getD i none=some o->gs.getD j none=some o->i=j
theorem aR{s:List (Option Nat)}{i h:Nat}(e:s.getD i none=some h):i<s.length/\some h∈s:=by
 rw[bP] at e;cases z:s[i]? with
 |none=>rw[z] at e;cases e
 |some a=>
  rw[z] at e;have e':a=some h:=e;exact⟨(cK.mp z).1,e' ▸ dQ z⟩
theorem zn{s:List (Option Nat)}{h:Nat}(e:some h∈s):∃i,i<s.length/\s.getD i none=some h:=by
 obtain⟨i,hi⟩:=List.getElem?_of_mem e;exact⟨i,(cK.mp hi).1,by rw[bP,hi];rfl⟩
theorem c_.right{n:Nat}{g:Nat->List Nat}{s gs t:List (Option Nat)}(Hd:c_ g s gs)(G:gf n g)(R:d9 n g s)(hl:t.length=gs.length)(ht:∀i,t.getD i none=none\/t.getD i none=gs.getD i none):d9 n g t:=by
 have key:∀i x,t.getD i none=some x->∃h,s.getD i none=some h/\h<n/\x∈g h/\gs.getD i none=some x:=by
  intro i x e;have e2:gs.getD i none=some x:=by
   rcases ht i with z|z
   .rw[z] at e;cases e
   .rw[<-z];exact e
  cases es:s.getD i none with
  |none=>rw[Hd.bJ i es] at e2;cases e2
  |some h=>
   obtain⟨o,o1,o2⟩:=Hd.tie i h es;rw[e2] at o1;cases o1;exact⟨h,rfl,R.1 h (aR es).2,o2,e2⟩
 refine⟨fun x hx=>?_,fun x hx=>?_⟩
 .obtain⟨i,_,e⟩:=zn hx;obtain⟨h,_,hn,ho,_⟩:=key i x e;exact(G.lt h hn x ho).1
 .rw[wU,G.Jy x hx];unfold inn;rw[xz,<-aN (f:=fun i=>(s.getD i none).getD 0)];refine sV ?_ fun y hy=>?_
  .refine ir.mpr ?_;refine xG ?_ (pD _ (kP (n:=t.length)));intro i j hi hj GS e;have ei:=eq_of_beq (bX.mp hi).2;have ej:=eq_of_beq (bX.mp hj).2;obtain⟨h1,a1,_,_,b1⟩:=key i x ei;obtain⟨h2,a2,_,_,b2⟩:=key j x ej;have e':(s.getD i none).getD 0=(s.getD j none).getD 0:=e;rw[a1,a2] at e';have e'':h1=h2:=e';subst e'';exact GS (Hd.Sv i j h1 x a1 a2 b1 b2)
  .obtain⟨i,hi,rfl⟩:=bQ.mp hy;obtain⟨h,a,hn,ho,_⟩:=key i x (eq_of_beq (bX.mp hi).2);refine bX.mpr ⟨?_,?_⟩
   .rw[a];exact bO.mpr hn
   .rw[a];exact bK ho
theorem JJ{hs:List Int}{gs:List (Option Nat)}(i:Nat):(bh hs gs).getD i none=none\/(bh hs gs).getD i none=gs.getD i none:=by
 by_cases hi:i<gs.length
 .have e:(bh hs gs).getD i none=JH hs i (gs.getD i none):=by
   unfold bh EA;rw[bP,bo,lc hi];rfl
  rw[e];cases gs.getD i none with
  |none=>exact .inl rfl
  |some h=>
   unfold JH;dsimp only;by_cases z:(h:Int)=hs.getD i 0
   .rw[ao z];exact .inl rfl
   .rw[ap z];exact .inr rfl
 .left;rw[bP,gX (by unfold bh;rw[vd];lia)];rfl
theorem ve{hs:List Int}{gs:List (Option Nat)}:(bh hs gs).length=gs.length:=vd
def kH(p:Nat×Nat):List dq:=[.inl (p.1:Int),.inl (p.2:Int)]
def B8(ps:List (Nat×Nat)):List (List dq×V):=ps.map fun p=>(kH p,V.bl true)
theorem ED{p q:Nat×Nat}(h:kH p=kH q):p=q:=by
 obtain⟨a,b⟩:=p;obtain⟨c,d⟩:=q;unfold kH at h;have h1:=(yn h).1;have h2:=(yn (yn h).2).1;have e1:=pZ h1;have e2:=pZ h2;dsimp only at e1 e2;congr 1 <;> lia
theorem kq{p:Nat×Nat}:∀ {ps:List (Nat×Nat)},(iB (B8 ps) (kH p)).isSome=decide (p∈ps)
 |[]=>by simp[B8,iB]
 |q::ps=>by
  have ih:=kq (p:=p) (ps:=ps);unfold B8 iB at ih |-;rw[cX,lq];by_cases e:q=p
  .subst e;simp
  .have:(decide (kH q=kH p))=false:=cE fun z=>e (ED z);simp only[this];rw[ih];have e':¬ p=q:=fun z=>e z.symm;simp[e']
theorem EE{p:Nat×Nat}{ps:List (Nat×Nat)}(h:p∉ps):iB (B8 ps) (kH p)=none:=by
 have:=kq (p:=p) (ps:=ps);rw[cE h] at this;cases e:iB (B8 ps) (kH p) with
 |none=>rfl
 |some v=>rw[e] at this;cases this
theorem EF{p:Nat×Nat}{ps:List (Nat×Nat)}:B8 (ps++[p])=B8 ps++[(kH p,V.bl true)]:=by unfold B8;rw[cD];rfl
theorem EG{m:Nat}:(List.replicate m [V.bJ]).flatten=SV (List.replicate m none):=by
 induction m with
 |zero=>rfl
 |succ m ih=>
  rw[pE,pR,ih,pE];rfl
def EH(s:List (Option Nat))(k:Nat):List Nat:=(List.range k).filter fun i=>(s.getD i none).isSome
theorem HB{s:List (Option Nat)}{k:Nat}:(EH s k).length<=k:=by
 unfold EH;refine br (n9 _ _) ?_;rw[fL];exact aZ _
def gg(s gl:List (Option Nat))(pre:List Nat):List (Nat×Nat):=pre.map fun i=>((s.getD i none).getD 0,(gl.getD i none).getD 0)
structure Ct(g:Nat->List Nat)(s gl:List (Option Nat))(pre:List Nat):Prop where
 len:gl.length=s.length
 out:∀i,i∉pre->gl.getD i none=none
 inn:∀i∈pre,∃h o,s.getD i none=some h/\gl.getD i none=some o/\o∈g h
 nd:(gg s gl pre).Nodup
theorem j8{n:Nat}{g:Nat->List Nat}{s gl:List (Option Nat)}{pre:List Nat}{i h:Nat}(M:Ct g s gl pre)(np:(pre++[i]).Nodup)(R:d9 n g s)(G:gf n g)(hs:s.getD i none=some h):0<((g h).filter fun o=>decide ((h,o)∉gg s gl pre)).length:=by
 refine xV fun z=>?_;have hn:h<n:=R.1 h (aR hs).2;have all:∀o∈g h,(h,o)∈gg s gl pre:=by
  intro o ho;by_cases e:(h,o)∈gg s gl pre
  .exact e
  .have:o∈(g h).filter fun o=>decide ((h,o)∉gg s gl pre):=bX.mpr ⟨ho,bK e⟩;rw[Cz z] at this;cases this
 have h1:(g h).length<=((gg s gl pre).filter fun p=>p.1==h).length:=by
  rw[<-aN (f:=fun p:Nat×Nat=>p.2)];refine sV (G.nd h hn) fun o ho=>bQ.mpr ⟨(h,o),bX.mpr ⟨all o ho,by simp⟩,rfl⟩
 have h2:((gg s gl pre).filter fun p=>p.1==h).length=(pre.filter fun i=>(s.getD i none).getD 0==h).length:=by
  unfold gg;rw[xy,aN];rfl
 have h3:(i::pre.filter fun i=>(s.getD i none).getD 0==h).length<=s.count (some h):=by
  rw[wU];obtain⟨n1,n2,n3⟩:=ju.mp np;refine sV (dR.mpr ⟨fun z=>n3 i (bX.mp z).1 i (bS.mpr rfl) rfl,pD _ n1⟩) fun x hx=>?_;rcases bL.mp hx with rfl|hx
  .exact bX.mpr ⟨bO.mpr (aR hs).1,by rw[hs];simp⟩
  .obtain⟨p1,p2⟩:=bX.mp hx;obtain⟨h',o,a,_,_⟩:=M.inn x p1;rw[a] at p2;have p3:h'=h:=eq_of_beq p2;subst p3;exact bX.mpr ⟨bO.mpr (aR a).1,by rw[a];simp⟩
 rw[cw] at h3;have:=R.2 h hn;lia
theorem dF{gl:List (Option Nat)}{i j:Nat}{x:Option Nat}(h:i<gl.length):(gl.set i x).getD j none=if j=i then x else gl.getD j none:=by
 rw[bP,bP,List.getElem?_set];by_cases e:i=j
 .subst e;rw[ao rfl,ao h,ao rfl];rfl
 .rw[ap e,ap (fun z=>e z.symm)]
theorem HC{s gl:List (Option Nat)}{pre:List Nat}{i:Nat}{x:Option Nat}(h:i<gl.length)(hp:i∉pre):gg s (gl.set i x) pre=gg s gl pre:=by
 unfold gg;refine jb fun j hj=>?_;have Vs:j≠i:=by rintro rfl;exact hp hj
 rw[dF h,ap Vs]
theorem Ct.step{g:Nat->List Nat}{s gl:List (Option Nat)}{pre:List Nat}{i h o:Nat}(M:Ct g s gl pre)(hp:i∉pre)(hs:s.getD i none=some h)(ho:o∈g h)(hf:(h,o)∉gg s gl pre):Ct g s (gl.set i (some o)) (pre++[i])/\gg s (gl.set i (some o)) (pre++[i])=gg s gl pre++[(h,o)]:=by
 have hi:i<gl.length:=by rw[M.len];exact(aR hs).1
 have e:gg s (gl.set i (some o)) (pre++[i])=gg s gl pre++[(h,o)]:=by
  have:gg s (gl.set i (some o)) (pre++[i])=gg s (gl.set i (some o)) pre++gg s (gl.set i (some o)) [i]:=by unfold gg;rw[cD]
  rw[this,HC hi hp];congr 1;unfold gg;rw[cX,lA,dF hi,ao rfl,hs];rfl
 refine⟨⟨by rw[lm];exact M.len,fun j hj=>?_,fun j hj=>?_,?_⟩,e⟩
 .rw[dF hi,ap (fun z=>hj (bq.mpr (.inr (bS.mpr z))))];exact M.out j (fun z=>hj (bq.mpr (.inl z)))
 .rw[dF hi];rcases bq.mp hj with z|z
  .have Vs:j≠i:=by rintro rfl;exact hp z
   rw[ap Vs];exact M.inn j z
  .rw[ao (bS.mp z),bS.mp z];exact⟨h,o,hs,rfl,ho⟩
 .rw[e];exact ju.mpr ⟨M.nd,dR.mpr ⟨(fun z=>nomatch z),ji⟩,fun u hu v hv z=>hf (by rw[bS] at hv;rw[<-hv,<-z];exact hu)⟩
theorem Ct.done{g:Nat->List Nat}{s gl:List (Option Nat)}{pre:List Nat}(M:Ct g s gl pre)(hp:pre.Perm (EH s s.length)):c_ g s gl:=by
 have mem:∀i h,s.getD i none=some h->i∈pre:=fun i h e=>hp.mem_iff.mpr (bX.mpr ⟨bO.mpr (aR e).1,by rw[e];rfl⟩);refine⟨M.len,fun i e=>?_,fun i h e=>?_,fun i j h o a b c d=>?_⟩
 .refine M.out i fun z=>?_;obtain⟨h,_,y,_⟩:=M.inn i z;rw[e] at y;cases y
 .obtain⟨h',o,a,b,c⟩:=M.inn i (mem i h e);rw[e] at a;cases a;exact⟨o,b,c⟩
 .have n1:=M.nd;unfold gg at n1;by_cases z:i=j
  .exact z
  .have hn:=ir.mp n1;have hi:=mem i h a;have hj:=mem j h b;obtain⟨x,hx,ex⟩:=mV.mp hi;obtain⟨y,hy,ey⟩:=mV.mp hj;have hq:=rQ.mp hn;rcases Nat.lt_trichotomy x y with l|l|l
   .refine absurd ?_ (hq x y hx hy l);rw[ex,ey,a,b,c,d]
   .subst l;rw[ex] at ey;exact ey
   .refine absurd ?_ (hq y x hy hx l);rw[ex,ey,a,b,c,d]
theorem Ct.nil{g:Nat->List Nat}{s:List (Option Nat)}:Ct g s (List.replicate s.length none) []:=by
 refine⟨pC,fun i _=>?_,fun i hi=>(nomatch hi),ji⟩;rw[bP,xH];split <;> rfl
section
variable {P:Program} {w:World} {K:PySem.W.Frag} {mg:Str->Option Value} {base:Heap}
end
def oF(f:Nat->List (Option Nat))(k:Nat)(x:List (Option Nat)):Nat->List (Option Nat):=fun j=>if j=k then x else f j
theorem gI{f:Nat->List (Option Nat)}{k:Nat}{x:List (Option Nat)}:oF f k x k=x:=by unfold oF;rw[ao rfl]
theorem gJ{f:Nat->List (Option Nat)}{k j:Nat}{x:List (Option Nat)}(h:j≠k):oF f k x j=f j:=by unfold oF;rw[ap h]
structure iE(n:Nat)(g:Nat->List Nat)(hs:List Int)(L:Nat)(ss ls:Nat->List (Option Nat))(ns:List Int):Prop where
 tie:∀b,b<L->c_ g (ss b) (ls b)
 next:∀b,b<L->∀i,(ss b).getD i none≠none->(ss (b+1)).getD i none=JH hs i ((ls b).getD i none)
 fresh:∀z:Nat,(z:Int)∈ns->∀b,b<=L->(ss b).getD z none=none
 out:∀b,b<L->∀i,(ss b).getD i none≠none->(ss (b+1)).getD i none=none->∀c,b<c->c<=L->(ss c).getD i none=none
 lt:∀b,b<=L->∀i h,(ss b).getD i none=some h->h<n
theorem vf{hs:List Int}{gs:List (Option Nat)}{i:Nat}:(bh hs gs).getD i none=JH hs i (gs.getD i none):=by
 unfold bh EA;by_cases h:i<gs.length
 .rw[bP,bo,lc h];rfl
 .rw[bP,bo,gX (by rw[fL];lia),bP,gX (by lia)];rfl
theorem iE.start{n:Nat}{g:Nat->List Nat}{hs ns:List Int}{s:List (Option Nat)}{ls:Nat->List (Option Nat)}(h1:∀z:Nat,(z:Int)∈ns->s.getD z none=none)(h2:∀i h,s.getD i none=some h->h<n):iE n g hs 0 (fun _=>s) ls ns:=
 ⟨fun b hb=>absurd hb (by lia),fun b hb=>absurd hb (by lia),fun z hz b _=>h1 z hz,fun b hb=>absurd hb (by lia),fun b _=>h2⟩
theorem iE.push{n:Nat}{g:Nat->List Nat}{hs ns Vt:List Int}{L:Nat}{ss ls:Nat->List (Option Nat)}{gs s':List (Option Nat)}(R:iE n g hs L ss ls ns)(Hd:c_ g (ss L) gs)(k:∀i:Nat,(i:Int)∉ns->s'.getD i none=(bh hs gs).getD i none)(m:∀z∈Vt,z∈ns)(f:∀z:Nat,(z:Int)∈Vt->s'.getD z none=none)(l:∀i h,s'.getD i none=some h->h<n):iE n g hs (L+1) (oF ss (L+1) s') (oF ls L gs) Vt:=by
 have eS:∀b,b<=L->oF ss (L+1) s' b=ss b:=fun b hb=>gJ (by lia);have JK:∀b,b<=L->∀i,(ss b).getD i none≠none->(i:Int)∉ns:=fun b hb i h z=>h (R.fresh i z b hb);refine⟨fun b hb=>?_,fun b hb i h=>?_,fun z hz b hb=>?_,fun b hb i h1 h2 c hc1 PV=>?_,fun b hb i h e=>?_⟩
 .rw[eS b (by lia)];by_cases e:b=L
  .subst e;rw[gI];exact Hd
  .rw[gJ e];exact R.tie b (by lia)
 .rw[eS b (by lia)] at h;by_cases e:b=L
  .subst e;rw[gI,gI,k i (JK b (aZ _) i h),vf]
  .rw[gJ e,eS (b+1) (by lia)];exact R.next b (by lia) i h
 .by_cases e:b=L+1
  .rw[e,gI];exact f z hz
  .rw[gJ e];exact R.fresh z (m _ hz) b (by lia)
 .rw[eS b (by lia)] at h1;by_cases e:c=L+1
  .subst e;by_cases e2:b=L
   .subst e2;exact h2
   .rw[eS (b+1) (by lia)] at h2;have z:=R.out b (by lia) i h1 h2 L (by lia) (aZ _);rw[gI,k i (JK b (by lia) i h1),vf,Hd.bJ i z];rfl
  .rw[gJ e];rw[eS (b+1) (by lia)] at h2;exact R.out b (by lia) i h1 h2 c hc1 (by lia)
 .by_cases e':b=L+1
  .rw[e',gI] at e;exact l i h e
  .rw[gJ e'] at e;exact R.lt b (by lia) i h e
section
variable {P:Program} {w:World} {K:PySem.W.Frag} {mg:Str->Option Value} {base:Heap}
end
def EI(s l:List (Option Nat)):Prop:=l.length=s.length/\(∀i,s.getD i none=none->l.getD i none=none)/\∀i h,s.getD i none=some h->∃o,l.getD i none=some o/\o≠h
def cI(H:Hp)(SA LA:Addr)(bx bz:List Addr)(m L:Nat)(ss ls:Nat->List (Option Nat)):Prop:=
 H SA=some (.lst (bx.map V.ref))/\H LA=some (.lst (bz.map V.ref))/\Holds H bx (L+1) (fun b=>.tup (SV (ss b)))/\Holds H bz L (fun b=>.tup (SV (ls b)))/\(∀b,b<=L->(ss b).length=m)/\∀b,b<L->EI (ss b) (ls b)
def qT(H H':Hp):Prop:=∀b xs,H b=some (.tup xs)->H' b=some (.tup xs)
theorem qT.trans{H H1 H2:Hp}(a:qT H H1)(b:qT H1 H2):qT H H2:=fun c o h=>b c o (a c o h)
theorem qT.of{H H':Hp}(s:aE H H'):qT H H':=fun b xs e=>s _ _ e
theorem qT.ofE{H H':Hp}{p:Addr}(s:ba p H H')(hp:bn H p):qT H H':=fun b xs e=>s _ _ e (by rintro rfl;obtain⟨u,v,z,_⟩:=hp;rw[z] at e;cases e)
theorem qT.upd{H:Hp}{c:Addr}{o:HO}{ys:List V}(h:H c=some (.lst ys)):qT H (upd H c o):=fun b xs e=>by rw[ak (by rintro rfl;rw[h] at e;cases e)];exact e
abbrev wV:=oF
theorem i_{f:Nat->List (Option Nat)}{k:Nat}{x:List (Option Nat)}:wV f k x k=x:=gI
theorem hX{f:Nat->List (Option Nat)}{k j:Nat}{x:List (Option Nat)}(h:j≠k):wV f k x j=f j:=gJ h
theorem sW{H H':Hp}{as:List Addr}{L:Nat}{f:Nat->List (Option Nat)}{r:Addr}{x:List (Option Nat)}(h:Holds H as L (fun b=>.tup (SV (f b))))(kt:qT H H')(hr:H' r=some (.tup (SV x))):Holds H' (as++[r]) (L+1) (fun b=>.tup (SV (wV f L x b))):=by
 refine Holds.snoc ⟨h.1,fun j hj=>?_⟩ (by rw[i_];exact hr);show _=some (HO.tup (SV (wV f L x j)));rw[hX (by lia)];exact kt _ _ (h.2 j hj)
theorem cI.push{H H':Hp}{SA LA r r2:Addr}{bx bz:List Addr}{m L:Nat}{ss ls:Nat->List (Option Nat)}{gs s':List (Option Nat)}(h:cI H SA LA bx bz m L ss ls)(kt:qT H H')(hS:H' SA=some (.lst ((bx++[r2]).map V.ref)))(hL:H' LA=some (.lst ((bz++[r]).map V.ref)))(hr:H' r=some (.tup (SV gs)))(Np:H' r2=some (.tup (SV s')))(hm:s'.length=m)(mv:EI (ss L) gs):cI H' SA LA (bx++[r2]) (bz++[r]) m (L+1) (wV ss (L+1) s') (wV ls L gs):=by
 obtain⟨h1,h2,h3,h4,h5,h6⟩:=h;refine⟨hS,hL,sW h3 kt Np,sW h4 kt hr,fun b hb=>?_,fun b hb=>?_⟩
 .by_cases e:b=L+1
  .rw[e,i_];exact hm
  .rw[hX e];exact h5 b (by lia)
 .rw[hX (show b≠L+1 by lia)];by_cases e:b=L
  .rw[e,i_];exact mv
  .rw[hX e];exact h6 b (by lia)
theorem mK{bx:List Addr}{k:Nat}(h:bx.length=k+1):fu (bx.map V.ref) (-1)=some (.ref (bx.getD k 0)):=by
 rcases pL bx with e|⟨l,x,e⟩
 .subst e;cases h
 .subst e;rw[pM] at h |-;have hl:l.length=k:=by rw[cr] at h;simpa using h
  rw[cD,kd hl,ao rfl];exact mn _ _
theorem c_.moves{n:Nat}{g:Nat->List Nat}{s gs:List (Option Nat)}(Hd:c_ g s gs)(G:gf n g)(R:d9 n g s):EI s gs:=by
 refine⟨Hd.len,Hd.bJ,fun i h e=>?_⟩;obtain⟨o,o1,o2⟩:=Hd.tie i h e;exact⟨o,o1,(G.lt h (R.1 h (aR e).2) o o2).2⟩
theorem zo{js:List Nat}:HV (js.map fun (i:Nat)=>(i:Int))=NV js:=by unfold HV NV;rw[fN];rfl
section
variable {P:Program} {w:World} {K:PySem.W.Frag} {mg:Str->Option Value} {base:Heap}
end
abbrev nQ:Stmt:=gy 8
abbrev kh:Stmt:=gy 9
abbrev vg:Stmt:=gy 16
abbrev EJ:Stmt:=gy 23
theorem hU{K:PySem.W.Frag}:PySem.W.kitOne K (.type "int") (.type "int")=some true:=by kernel_rfl
theorem gv{K:PySem.W.Frag}:PySem.W.kitOne K (.type "int") (.type "bool")=some false:=by kernel_rfl
theorem kZ{K:PySem.W.Frag}:PySem.W.kitOne K (.type "list") (.type "list")=some true:=by kernel_rfl
def HD(lo hi i:Int):Bool:=decide (lo<=i)&&decide (i<=hi)
theorem ku{lo hi i:Int}:HD lo hi i=true↔lo<=i/\i<=hi:=by unfold HD;rw[eM,e_,e_]
def i7:Sp:=fun vs H Q _=>∃i:Int,vs=[.int i]/\Q (.bl true) H
def fV:Sp:=fun vs H Q _=>∃i lo hi:Int,vs=[.int i,.int lo,.int hi]/\Q (.bl (HD lo hi i)) H
def dU(m L:Nat)(ss:Nat->List (Option Nat))(i b:Int):Bool:=HD 0 ((L:Int)-1) b&&(HD 0 ((m:Int)-1) i&&((ss b.toNat).getD i.toNat none).isSome)
def jV:Sp:=fun vs H Q _=>∃ (SA LA:Addr) (bx bz:List Addr) (m L:Nat) (ss ls:Nat->List (Option Nat)) (i b:Int),vs=[.ref SA,.ref LA,.int i,.int b]/\cI H SA LA bx bz m L ss ls/\Q (.bl (dU m L ss i b)) H
def fw(m L:Nat)(ss:Nat->List (Option Nat))(i b:Int)(h:Nat):Bool:=dU m L ss i b&&decide ((ss b.toNat).getD i.toNat none=some h)
def zq:Sp:=fun vs H Q _=>∃ (SA LA:Addr) (bx bz:List Addr) (m L:Nat) (ss ls:Nat->List (Option Nat)) (i b:Int) (h:Nat),vs=[.ref SA,.ref LA,.int i,.int b,.int h]/\cI H SA LA bx bz m L ss ls/\Q (.bl (fw m L ss i b h)) H
theorem eK{as:List Addr}{k:Nat}(h:k<as.length):fu (as.map V.ref) (k:Int)=some (.ref (as.getD k 0)):=by
 refine bg ?_;rw[bo,cm h,bP,cm h];rfl
theorem gK{m L:Nat}{ss:Nat->List (Option Nat)}{i b:Int}(h:dU m L ss i b=true):∃ (j c:Nat) (x:Nat),i=j/\b=c/\j<m/\c<L/\(ss c).getD j none=some x:=by
 unfold dU at h;rw[eM,eM,ku,ku] at h;obtain⟨h1,h2,h3⟩:=h;obtain⟨x,hx⟩:=pG.mp h3;exact⟨i.toNat,b.toNat,x,by lia,by lia,by lia,by lia,hx⟩
theorem iw{m L:Nat}{ss:Nat->List (Option Nat)}{j c x:Nat}(hj:j<m)(hc:c<L)(h:(ss c).getD j none=some x):dU m L ss j c=true:=by
 unfold dU;rw[eM,eM,ku,ku];refine⟨⟨by lia,by lia⟩,⟨by lia,by lia⟩,?_⟩;rw[cM,cM,h];rfl
section
variable {P:Program} {w:World} {K:PySem.W.Frag} {mg:Str->Option Value} {base:Heap}
theorem u3:aG ["thing"] ["thing"] (am nQ):=⟨rfl,rfl,rfl,by decide +kernel,rfl,by decide +kernel,by decide +kernel⟩
theorem qM{f:Addr}{fd:FuncData}(F:fR K "is_whole" "is_whole" nQ f fd)(B:Bl mg):bv P w K mg base a9 1 f fd ["thing"] i7:=by
 refine F.ok u3 (fun vs H Q E h=>?_) (fun dM A outer s H vs Q E hr h=>?_)
 .obtain⟨i,rfl,_⟩:=h;rfl
 .obtain⟨i,rfl,k⟩:=h;refine⟨_,al (aF (ff (aA eR (by rfl) B.DT kI (aa (pv 0) (aa (fH (v:=.ty "int") rfl B.int pJ rfl) ag)))
   (fY (yr (aA eR (by rfl) B.DT kI (aa (pv 0) (aa (fH (v:=.ty "bool") rfl B.bool xI rfl) ag))))))),?_⟩
  refine⟨_,rfl,_,_,_,.type "int",true,rfl,⟨rfl,hU⟩,.of (.int _),true,rfl,?_⟩;exact⟨_,rfl,_,_,_,.type "int",false,rfl,⟨rfl,gv⟩,.of (.int _),false,rfl,k⟩
theorem qN:aG ["thing","least","most"] ["thing","least","most"] (am kh):=⟨rfl,rfl,rfl,by decide +kernel,rfl,by decide +kernel,by decide +kernel⟩
theorem nR{f:Addr}{fd:FuncData}(F:fR K "is_whole_within" "is_whole_within" kh f fd)(W:b_ P w K mg base a9 1 "is_whole" ["thing"] i7):bv P w K mg base a9 2 f fd ["thing","least","most"] fV:=by
 refine F.ok qN (fun vs H Q E h=>?_) (fun dM A outer s H vs Q E hr h=>?_)
 .obtain⟨i,lo,hi,rfl,_⟩:=h;rfl
 .obtain⟨i,lo,hi,rfl,k⟩:=h;refine⟨_,al (aF (ff (aD W hr aP (aa (pv 0) ag)) (fY (vO zS zS (pv 1) (pv 0) (pv 2))))),?_⟩;refine⟨_,rfl,i,rfl,true,rfl,_,rfl,_,rfl,_,_,rfl,rfl,_,rfl,?_⟩;show if decide (lo<=i)=true then _ else _
  have k':Q (.bl (decide (lo<=i)&&decide (i<=hi))) H:=k;by_cases h:lo<=i
  .rw[bK h] at k' |-;exact⟨_,rfl,_,_,rfl,rfl,k'⟩
  .rw[cE h] at k' |-;exact k'
theorem EK:aG ["stands","log","letter","beat"] ["stands","log","letter","beat"] (am vg):=⟨rfl,rfl,rfl,by decide +kernel,rfl,by decide +kernel,by decide +kernel⟩
theorem B9{f:Addr}{fd:FuncData}(F:fR K "is_handed_on" "is_handed_on" vg f fd)(B:Bl mg)(W:b_ P w K mg base a9 2 "is_whole_within" ["thing","least","most"] fV):bv P w K mg base a9 3 f fd ["stands","log","letter","beat"] jV:=by
 refine F.ok EK (fun vs H Q E h=>?_) (fun dM A outer s H vs Q E hr h=>?_)
 .obtain⟨SA,LA,bx,bz,m,L,ss,ls,i,b,rfl,_⟩:=h;rfl
 .obtain⟨SA,LA,bx,bz,m,L,ss,ls,i,b,rfl,LG,k⟩:=h;obtain⟨g1,g2,g3,g4,g5,g6⟩:=LG;refine'⟨_,ah (bA (dW (dB (aD W hr aP (aa (pv 3) (aa aq (aa (bp ny (aA aH (by rfl) B.len cG (aa (pv 1) ag)) aq) ag)))))) (al (aF fP)) aQ)
   (al (aF (ff (aD W hr aP (aa (pv 2) (aa aq (aa (bp ny (aA aH (by rfl) B.len cG (aa (au az (pv 0) (pv 3) (fun _ _=>rfl)) ag)) aq) ag))))
    (fY (Kk (FY (au aU (au az (pv 0) (pv 3) (fun _ _=>rfl)) (pv 2) (fun _ _=>rfl)))))))),?_⟩
  refine⟨_,rfl,_,rfl,LA,_,rfl,.inl (aT.of g2),_,_,rfl,rfl,b,0,_,rfl,_,rfl,?_⟩;have LV:((((bz.map V.ref).length:Nat):Int)-1)=(L:Int)-1:=by rw[aN,g4.1]
  unfold dU at k;refine bN (fun e=>?_) (fun e=>?_)
  .have e':HD 0 ((L:Int)-1) b=false:=by
    rw[<-LV];simpa using e
   rw[e',m6] at k;exact k
  .have e':HD 0 ((L:Int)-1) b=true:=by
    rw[<-LV];simpa using e
   rw[e',jB] at k;obtain⟨b0,b1⟩:=ku.mp e';obtain⟨c,rfl⟩:∃c:Nat,b=c:=⟨b.toNat,by lia⟩
   have hc:c<L:=by lia
   have sl:(ss c).length=m:=g5 c (by lia);have hS:=g3.2 c (by lia);have Yx:((((SV (ss c)).length:Nat):Int)-1)=(m:Int)-1:=by rw[aN,sl]
   rw[cM] at k;refine⟨_,rfl,_,rfl,_,rfl,SA,_,_,_,rfl,rfl,aT.of g1,eK (by rw[g3.1];lia),bx.getD c 0,_,rfl,.inr (cx.of hS),_,_,rfl,rfl,i,0,_,rfl,_,rfl,?_⟩;refine bN (fun e2=>?_) (fun e2=>?_)
   .have e3:HD 0 ((m:Int)-1) i=true:=by rw[<-Yx];exact e2
    rw[e3,jB] at k;obtain⟨i0,i1⟩:=ku.mp e3;obtain⟨j,rfl⟩:∃j:Nat,i=j:=⟨i.toNat,by lia⟩
    rw[cM] at k;refine⟨_,rfl,_,rfl,SA,_,_,_,rfl,rfl,aT.of g1,eK (by rw[g3.1];lia),_,rfl,bx.getD c 0,_,_,_,rfl,rfl,cx.of hS,dw (by lia),?_⟩;have ee:(!decide (jq ((ss c).getD j none)=V.bJ))=((ss c).getD j none).isSome:=by
     cases (ss c).getD j none with
     |none=>rw[bK (show jq none=V.bJ from rfl)];rfl
     |some x=>rw[cE (show ¬ jq (some x)=V.bJ from fun z=>by cases z)];rfl
    show Q (V.bl (!decide (jq ((ss c).getD j none)=V.bJ))) H;rw[ee];exact k
   .have e3:HD 0 ((m:Int)-1) i=false:=by rw[<-Yx];simpa using e2
    rw[e3,m6] at k;exact k
theorem LW:aG ["stands","log","letter","beat","house"] ["stands","log","letter","beat","house"] (am EJ):=⟨rfl,rfl,rfl,by decide +kernel,rfl,by decide +kernel,by decide +kernel⟩
theorem HE{f:Addr}{fd:FuncData}(F:fR K "is_sent_from" "is_sent_from" EJ f fd)(HO:b_ P w K mg base a9 3 "is_handed_on" ["stands","log","letter","beat"] jV):bv P w K mg base a9 4 f fd ["stands","log","letter","beat","house"] zq:=by
 refine F.ok LW (fun vs H Q E h=>?_) (fun dM A outer s H vs Q E hr h=>?_)
 .obtain⟨SA,LA,bx,bz,m,L,ss,ls,i,b,hh,rfl,_⟩:=h;rfl
 .obtain⟨SA,LA,bx,bz,m,L,ss,ls,i,b,hh,rfl,LG,k⟩:=h;obtain⟨g1,g2,g3,g4,g5,g6⟩:=LG;refine'⟨_,ah (bA (dW (dB (aD HO hr aP (aa (pv 0) (aa (pv 1) (aa (pv 2) (aa (pv 3) ag))))))) (al (aF fP)) aQ)
   (al (aF (ff (cZ eQ (au aU (au az (pv 0) (pv 3) (fun _ _=>rfl)) (pv 2) (fun _ _=>rfl)) (pv 4) (aL _))
    (fY (cZ rY (au aU (au az (pv 1) (pv 3) (fun _ _=>rfl)) (pv 2) (fun _ _=>rfl)) (pv 4) (aL _)))))),?_⟩
  refine⟨_,rfl,_,rfl,_,rfl,_,rfl,SA,LA,bx,bz,m,L,ss,ls,i,b,rfl,⟨g1,g2,g3,g4,g5,g6⟩,_,rfl,?_⟩;unfold fw at k;refine bN (fun e=>?_) (fun e=>?_)
  .have e':dU m L ss i b=false:=by simpa using e
   rw[e',m6] at k;exact k
  .have e':dU m L ss i b=true:=by simpa using e
   rw[e',jB] at k;obtain⟨j,c,x,rfl,rfl,hj,hc,hx⟩:=gK e';rw[cM,cM,hx] at k;have sl:(ss c).length=m:=g5 c (by lia);have kG:fu (SV (ss c)) (j:Int)=some (.int (x:Int)):=by rw[dw (by lia),hx];rfl
   obtain⟨mv1,mv2,Vu⟩:=g6 c hc;obtain⟨o,ho,jp⟩:=Vu j x hx;have wW:fu (SV (ls c)) (j:Int)=some (.int (o:Int)):=by rw[dw (by lia),ho];rfl
   refine⟨_,rfl,_,rfl,SA,_,_,_,rfl,rfl,aT.of g1,eK (by rw[g3.1];lia),_,rfl,bx.getD c 0,_,_,_,rfl,rfl,cx.of (g3.2 c (by lia)),kG,_,rfl,rfl,_,rfl,?_⟩;refine bN (fun e2=>?_) (fun e2=>?_)
   .have e3:x=hh:=by have:=V.int.inj (bV e2);lia
    refine⟨_,rfl,_,rfl,LA,_,_,_,rfl,rfl,aT.of g2,eK (by rw[g4.1];lia),_,rfl,bz.getD c 0,_,_,_,rfl,rfl,cx.of (g4.2 c hc),wW,_,rfl,rfl,?_⟩;rw[bK (show some x=some hh by rw[e3])] at k;rw[cE (show ¬ V.int (o:Int)=V.int (hh:Int) from fun z=>jp (by have:=V.int.inj z;lia))];exact k
   .have e3:¬ some x=some hh:=fun z=>e2 (bK (by cases z;rfl));rw[cE e3] at k;exact k
end
abbrev vh:Stmt:=gy 22
def cT(m L:Nat)(ss ls:Nat->List (Option Nat))(b h0:Nat)(zs:List Int):Nat->Option Nat
 |0=>some h0
 |k+1=>match cT m L ss ls b h0 zs k with
  |none=>none
  |some h=>if fw m L ss (zs.getD k 0) ((b+k:Nat):Int) h=true then some (((ls (b+k)).getD (zs.getD k 0).toNat none).getD 0) else none
theorem sX{m L:Nat}{ss ls:Nat->List (Option Nat)}{b h0:Nat}{zs:List Int}{k h:Nat}(e:cT m L ss ls b h0 zs k=some h)(s:fw m L ss (zs.getD k 0) ((b+k:Nat):Int) h=true):cT m L ss ls b h0 zs (k+1)=some (((ls (b+k)).getD (zs.getD k 0).toNat none).getD 0):=by
 unfold cT;rw[e];exact ao s
theorem nX{m L:Nat}{ss ls:Nat->List (Option Nat)}{b h0:Nat}{zs:List Int}{k h:Nat}(e:cT m L ss ls b h0 zs k=some h)(s:¬ fw m L ss (zs.getD k 0) ((b+k:Nat):Int) h=true):∀j,cT m L ss ls b h0 zs (k+1+j)=none
 |0=>by
  show cT m L ss ls b h0 zs (k+1)=none;unfold cT;rw[e];exact ap s
 |j+1=>by
  have ih:=nX e s j;show cT m L ss ls b h0 zs (k+1+j+1)=none;unfold cT;rw[ih]
theorem B_{m L:Nat}{ss ls:Nat->List (Option Nat)}{b h0:Nat}{zs:List Int}{k h:Nat}(e:cT m L ss ls b h0 zs (k+1)=some h):∃h',fw m L ss (zs.getD k 0) ((b+k:Nat):Int) h'=true:=by
 unfold cT at e;split at e
 .cases e
 .rename_i h' _;by_cases s:fw m L ss (zs.getD k 0) ((b+k:Nat):Int) h'=true
  .exact⟨h',s⟩
  .rw[ap s] at e;cases e
def EL(hs:List Int)(zs:List Int):Option Nat->Bool
 |none=>false
 |some h=>decide ((h:Int)=hs.getD (zs.getD (zs.length-1) 0).toNat 0)
def jW(hs:List Int)(m L:Nat)(ss ls:Nat->List (Option Nat))(i b:Int)(zs:List Int):Bool:=
 dU m L ss i b&&(!zs.isEmpty&&(!decide (zs.getD 0 0=i)&&EL hs zs (cT m L ss ls b.toNat (((ss b.toNat).getD i.toNat none).getD 0) zs zs.length)))
theorem cI.same{H H':Hp}{SA LA:Addr}{bx bz:List Addr}{m L:Nat}{ss ls:Nat->List (Option Nat)}(h:cI H SA LA bx bz m L ss ls)(s:aE H H'):cI H' SA LA bx bz m L ss ls:=by
 obtain⟨g1,g2,g3,g4,g5,g6⟩:=h;exact⟨s _ _ g1,s _ _ g2,g3.mono fun j _ e=>s _ _ e,g4.mono fun j _ e=>s _ _ e,g5,g6⟩
theorem qU{m L:Nat}{ss:Nat->List (Option Nat)}{i b:Int}{h:Nat}(s:fw m L ss i b h=true):∃ (j c:Nat),i=j/\b=c/\j<m/\c<L/\(ss c).getD j none=some h:=by
 unfold fw at s;rw[eM,e_] at s;obtain⟨j,c,x,rfl,rfl,h1,h2,h3⟩:=gK s.1;have:=s.2;rw[cM,cM] at this;exact⟨j,c,rfl,rfl,h1,h2,this⟩
theorem AE{m L:Nat}{ss:Nat->List (Option Nat)}{j c h:Nat}(hj:j<m)(hc:c<L)(e:(ss c).getD j none=some h):fw m L ss j c h=true:=by
 unfold fw;rw[iw hj hc e,jB,cM,cM];exact bK e
theorem vi{zs:List Int}(h:zs≠[]):fu (HV zs) (-1)=some (.int (zs.getD (zs.length-1) 0)):=by
 rcases pL zs with e|⟨l,x,e⟩
 .exact absurd e h
 .subst e;rw[pM];have:(l++[x]).getD ((l++[x]).length-1) 0=x:=by
   rw[bP,cr];simp
  rw[this];unfold HV;rw[cD];exact mn _ _
section
variable {P:Program} {w:World} {K:PySem.W.Frag} {mg:Str->Option Value} {base:Heap}
theorem mL:aG ["homes","stands","log","letter","beat","thing","house","later","one"] ["homes","stands","log","letter","beat","thing"] (am vh):=⟨rfl,rfl,rfl,by decide +kernel,rfl,by decide +kernel,by decide +kernel⟩
def pi:Sp:=fun vs H Q _=>∃ (a SA LA Z:Addr) (bx bz:List Addr) (m L:Nat) (ss ls:Nat->List (Option Nat)) (hs zs:List Int) (i b:Int),vs=[.ref a,.ref SA,.ref LA,.int i,.int b,.ref Z]/\H a=some (.tup (HV hs))/\hs.length=m/\cI H SA LA bx bz m L ss ls/\H Z=some (.lst (HV zs))/\
 ∀H',aE H H'->Q (.bl (jW hs m L ss ls i b zs)) H'
theorem EM{f:Addr}{fd:FuncData}(F:fR K "is_chain" "is_chain" vh f fd)(B:Bl mg)(HO:b_ P w K mg base a9 3 "is_handed_on" ["stands","log","letter","beat"] jV)(ST:b_ P w K mg base a9 4 "is_sent_from" ["stands","log","letter","beat","house"] zq):
  bv P w K mg base a9 5 f fd ["homes","stands","log","letter","beat","thing"] pi:=by
 refine F.ok mL (fun vs H Q E h=>?_) (fun dM A outer s H vs Q E hr h=>?_)
 .obtain⟨a,SA,LA,Z,bx,bz,m,L,ss,ls,hs,zs,i,b,rfl,_⟩:=h;rfl
 .obtain⟨a,SA,LA,Z,bx,bz,m,L,ss,ls,hs,zs,i,b,rfl,ha,hl,LG,hZ,q⟩:=h;have Yy:bW 3 (A.deeper (PyProof.Rows.envOfC "is_chain" (am vh) s.heap.objs.size f dM)):=hr.mono (by decide)
  refine'⟨_,ah (bA (PW.pt (oe (dW (dB (aD HO Yy aP (aa (pv 1) (aa (pv 2) (aa (pv 3) (aa (pv 4) ag)))))))
     (oe (dW (dB (aA eR (by rfl) B.DT kI (aa (pv 5) (aa (fH (v:=.ty "list") rfl B.lst tE rfl) ag)))))
     (lI (aM eQ (aA aH (by rfl) B.len cG (aa (pv 5) ag)) aq (aL _)))))) (al (aF fP)) aQ)
   (ah (aO (i:=6) mL.nd rfl (Or.inl rfl) (au aU (au az (pv 1) (pv 4) (fun _ _=>rfl)) (pv 3) (fun _ _=>rfl)))
   (ah (dO eN rfl (Am rfl B.enum (aa (pv 5) ag)) (fD (n:=2) rfl (a_ (aB (i:=7) mL.nd rfl (Or.inl rfl)) (a_ (aB (i:=8) mL.nd rfl (Or.inl rfl)) d_)))
    (ah (bA (dW (dB (aD ST hr aP (aa (pv 1) (aa (pv 2) (aa (pv 8) (aa (bp dC (pv 4) (pv 7)) (aa (pv 6) ag)))))))) (al (aF fP)) aQ)
    (al (aO (i:=6) mL.nd rfl (Or.inl rfl) (au aU (au az (pv 2) (bp dC (pv 4) (pv 7)) (fun _ _=>rfl)) (pv 8) (fun _ _=>rfl))))))
   (al (aF (ff (cZ rY (au az (pv 5) aq (fun _ _=>rfl)) (pv 3) (aL _))
    (fY (cZ eQ (pv 6) (au aU (pv 0) (au az (pv 5) (oh jJ aq) (fun _ _=>rfl)) (fun _ _=>rfl)) (aL _)))))))),?_⟩
  refine⟨_,rfl,_,rfl,_,rfl,_,rfl,SA,LA,bx,bz,m,L,ss,ls,i,b,rfl,LG,_,rfl,?_⟩;unfold jW at q;refine bN (fun e=>?_) (fun e=>?_)
  .have e':dU m L ss i b=false:=by simpa using e
   rw[e',m6] at q;exact kY (q H (aE.refl _))
  have e':dU m L ss i b=true:=by simpa using e
  rw[e',jB] at q;obtain⟨j,c,x,rfl,rfl,hj,hc,hx⟩:=gK e';rw[cM,cM,hx] at q;refine⟨_,rfl,_,_,_,.type "list",true,rfl,⟨rfl,kZ⟩,.of (.lst hZ),true,rfl,?_⟩;refine bN (fun e=>absurd e (by decide)) (fun _=>?_);refine⟨_,rfl,Z,_,rfl,.inl (aT.of hZ),rfl,_,rfl,?_⟩;refine bN (fun e=>?_) (fun e=>?_)
  .have e2:zs=[]:=by
    have:=V.int.inj (bV e);rw[aN] at this;exact Cz (by lia)
   rw[e2] at q;exact q H (aE.refl _)
  have AF:zs≠[]:=by
   rintro rfl;exact e (bK rfl)
  have zem:zs.isEmpty=false:=by cases zs with|nil=>exact absurd rfl AF|cons _ _=>rfl
  rw[zem,yk,jB] at q;obtain⟨g1,g2,g3,g4,g5,g6⟩:=LG;have LG:cI H SA LA bx bz m L ss ls:=⟨g1,g2,g3,g4,g5,g6⟩
  have sl:(ss c).length=m:=g5 c (by lia);have kG:fu (SV (ss c)) (j:Int)=some (.int (x:Int)):=by rw[dw (by lia),hx];rfl
  refine⟨_,rfl,_,rfl,SA,_,_,_,rfl,rfl,aT.of g1,eK (by rw[g3.1];lia),_,rfl,bx.getD c 0,_,_,_,rfl,rfl,cx.of (g3.2 c (by lia)),kG,?_⟩;have qf:∀k h,cT m L ss ls c x zs k=some h->¬ fw m L ss (zs.getD k 0) ((c+k:Nat):Int) h=true->k<zs.length->∀H',aE H H'->Q (.bl false) H':=by
   intro k h e1 e2 hk H' sm;have e3:=nX e1 e2 (zs.length-(k+1));rw[show k+1+(zs.length-(k+1))=zs.length by lia] at e3;have q':=q H' sm;have ex:(some x).getD 0=x:=rfl;rw[ex,e3] at q';unfold EL at q';rw[ua] at q';exact q'
  refine⟨_,rfl,Z,_,rfl,hZ,?_⟩;refine wx (K:=K) (a:=Z) (xs:=HV zs) (fun k σ H3=>(∃v7 v8 h,σ=[some (.ref a),some (.ref SA),some (.ref LA),some (.int j),some (.int c),some (.ref Z),some (.int (h:Nat)),v7,v8]/\cT m L ss ls c x zs k=some h)/\aE H H3) ⟨⟨_,_,x,rfl,rfl⟩,aE.refl _⟩ (fun k σ H3 _ z=>aT.of (z.2 _ _ hZ)) ?_ ?_
  .rintro k v t σ H3 hv ⟨⟨v7,v8,h,rfl,hw⟩,sm⟩ ht;rw[bo] at hv;obtain⟨z,hz,rfl⟩:=pA.mp hv;have hk:k<zs.length:=(cK.mp hz).1;have zk:zs.getD k 0=z:=by rw[bP,hz];rfl
   have qQ:aE H (upd H3 t (.tup [.int (k:Int),.int z])):=sm.trans (aj ht);have LG4:=LG.same qQ;refine⟨_,_,rfl,cx.of af,rfl,_,_,rfl,_,_,rfl,rfl,?_⟩;refine⟨_,rfl,_,rfl,_,rfl,_,rfl,_,rfl,_,_,rfl,rfl,_,rfl,SA,LA,bx,bz,m,L,ss,ls,z,(c:Int)+(k:Int),h,rfl,LG4,_,rfl,?_⟩;have ck:(c:Int)+(k:Int)=((c+k:Nat):Int):=by lia
   refine bN (fun e2=>?_) (fun e2=>?_)
   .refine qf k h hw ?_ hk _ qQ;rw[zk,<-ck];simpa using e2
   .have e3:fw m L ss z ((c:Int)+(k:Int)) h=true:=by simpa using e2
    have e4:=e3;rw[ck] at e4;obtain⟨j2,c2,ez,ec,hj2,PV,RY⟩:=qU e4;have ec':c2=c+k:=by lia
    subst ec';subst ez;obtain⟨mv1,mv2,Vu⟩:=g6 (c+k) PV;obtain⟨o,ho,jp⟩:=Vu j2 h RY;have sl2:(ss (c+k)).length=m:=g5 (c+k) (by lia);have wW:fu (SV (ls (c+k))) (j2:Int)=some (.int (o:Int)):=by rw[dw (by lia),ho];rfl
    have rat:fu (bz.map V.ref) ((c:Int)+(k:Int))=some (.ref (bz.getD (c+k) 0)):=by rw[ck];exact eK (by rw[g4.1];exact PV)
    refine⟨_,rfl,_,rfl,_,rfl,_,_,rfl,rfl,LA,_,_,_,rfl,rfl,aT.of (qQ _ _ g2),rat,_,rfl,bz.getD (c+k) 0,_,_,_,rfl,rfl,cx.of (qQ _ _ (g4.2 (c+k) PV)),wW,⟨_,_,o,rfl,?_⟩,qQ⟩;rw[sX hw (by rw[zk];exact e4),zk,cM,ho];rfl
  .rintro σ H3 ⟨⟨v7,v8,h,rfl,hw⟩,sm⟩;rw[show (HV zs).length=zs.length from aN _] at hw;have q':=q H3 sm;have ex:(some x).getD 0=x:=rfl;rw[ex,hw] at q';have zl:0<zs.length:=pN.mpr AF;have LX:fu (HV zs) 0=some (.int (zs.getD 0 0)):=hW (i:=0) zl;refine⟨_,rfl,Z,_,_,_,rfl,rfl,aT.of (sm _ _ hZ),LX,_,rfl,rfl,_,rfl,?_⟩;refine bN (fun e2=>?_) (fun e2=>?_)
   .have e3:decide (zs.getD 0 0=(j:Int))=false:=by
     refine cE fun z=>?_;rw[z] at e2;simp at e2
    rw[e3,yk,jB] at q';obtain⟨k,hk⟩:∃k,zs.length=k+1:=⟨zs.length-1,by lia⟩
    have Yz:=hw;rw[hk] at Yz;obtain⟨h',s'⟩:=B_ Yz;obtain⟨j2,c2,ez,ec,hj2,PV,RY⟩:=qU s';have el:zs.getD (zs.length-1) 0=(j2:Int):=by rw[hk];exact ez
    unfold EL at q';rw[el,cM] at q';refine⟨_,rfl,_,rfl,_,rfl,_,rfl,Z,_,_,_,rfl,rfl,aT.of (sm _ _ hZ),vi AF,a,_,_,_,rfl,rfl,cx.of (sm _ _ ha),by rw[el];exact hW (by lia),rfl,?_⟩;have ed:decide (V.int (h:Int)=V.int (hs.getD j2 0))=decide ((h:Int)=hs.getD j2 0):=by
     rw[l_,e_,e_];exact⟨V.int.inj,fun z=>by rw[z]⟩
    rw[ed];exact q'
   .have e3:decide (zs.getD 0 0=(j:Int))=true:=by
     refine bK ?_;have:decide (V.int (zs.getD 0 0)=V.int (j:Int))=true:=by simpa using e2
     exact V.int.inj (bV this)
    rw[e3] at q';exact q'
end
theorem ky{o:Option Nat}{h:Int}:Ku (jq o) (.int h)=true:=by cases o <;> rfl
theorem oY{x y:Int}:decide (V.int x=V.int y)=decide (x=y):=by
 rw[l_,e_,e_];exact⟨V.int.inj,fun z=>by rw[z]⟩
section
variable {P:Program} {w:World} {K:PySem.W.Frag} {mg:Str->Option Value} {base:Heap}
end
end vC
namespace L2
open PySem PySem.Spec PyProof.Rows
section
variable {X:Cx} {e se:Expr} {te:TE} {lo hi:Option Expr} {tl th ts:TO} {pos p2:Pos}
theorem sY:me X (compareOp .IsNot) (fun x y H Q=>∃c d:Bool,x=.bl c/\y=.bl d/\Q (.bl (c != d)) H):=by
 intro ae s σ H x y v u Q I rx ry h;obtain⟨c,d,rfl,rfl,q⟩:=h;cases rx;cases ry;exact isnot_bool ⟨.bl _,H,I,rfl,q⟩
end
end L2
namespace vC
open PySem L2
section
variable {P:Program} {w:World} {K:PySem.W.Frag} {mg:Str->Option Value} {base:Heap}
theorem cI.gp{H H':Hp}{p SA LA:Addr}{bx bz:List Addr}{m L:Nat}{ss ls:Nat->List (Option Nat)}(h:cI H SA LA bx bz m L ss ls)(s:ba p H H')(hp:bn H p)(n1:SA≠p)(n2:LA≠p):cI H' SA LA bx bz m L ss ls:=by
 obtain⟨g1,g2,g3,g4,g5,g6⟩:=h;have kt:qT H H':=qT.ofE s hp;exact⟨s _ _ g1 n1,s _ _ g2 n2,g3.mono fun j _ e=>kt _ _ e,g4.mono fun j _ e=>kt _ _ e,g5,g6⟩
end
open PySem L2 rJ
def qV(g:Nat->List Nat)(k:Nat):Ts:=(List.range k).flatMap fun h=>(g h).map fun o=>(ci h,ci o)
abbrev bb(n:Nat)(g:Nat->List Nat):Ts:=qV g n
theorem nY{g:Nat->List Nat}{k:Nat}:qV g (k+1)=qV g k++(g k).map fun o=>(ci k,ci o):=by
 unfold qV;rw[jz,List.flatMap_append];simp
theorem nZ{n:Nat}{g:Nat->List Nat}{t:Int×Int}:t∈bb n g↔∃h o,h<n/\o∈g h/\t=(ci h,ci o):=by
 unfold bb qV;rw[List.mem_flatMap];constructor
 .rintro⟨h,hh,z⟩;obtain⟨o,ho,rfl⟩:=bQ.mp z;exact⟨h,o,bO.mp hh,ho,rfl⟩
 .rintro⟨h,o,hh,ho,rfl⟩;exact⟨h,bO.mpr hh,bQ.mpr ⟨o,ho,rfl⟩⟩
theorem wX{n:Nat}{g:Nat->List Nat}{a b:Nat}:T (bb n g) a b↔a<n/\b∈g a:=by
 unfold T;rw[nZ];constructor
 .rintro⟨h,o,hh,ho,e⟩;obtain rfl:a=h:=dS (congrArg Prod.fst e);obtain rfl:b=o:=dS (congrArg Prod.snd e);exact⟨hh,ho⟩
 .rintro⟨h1,h2⟩;exact⟨a,b,h1,h2,rfl⟩
theorem wY{g:Nat->List Nat}:∀k,(∀h,h<k->(g h).Nodup)->(qV g k).Nodup
 |0,_=>by simp[qV]
 |k+1,h=>by
  rw[nY];refine ju.mpr ⟨wY k fun x hx=>h x (by lia),?_,?_⟩
  .exact List.Pairwise.map _ (fun a b Pk e=>Pk (dS (congrArg Prod.snd e))) (tu.mp (h k (by lia)))
  .intro x hx y hy e;subst e;obtain⟨h',o,hh,_,rfl⟩:=nZ.mp hx;obtain⟨o',_,e⟩:=bQ.mp hy;have:=dS (congrArg Prod.fst e);lia
theorem zu{g:Nat->List Nat}{x:Nat}:∀k,((qV g k).filter fun t=>decide (t.1=ci x)).length=if x<k then (g x).length else 0
 |0=>by simp[qV]
 |k+1=>by
  rw[nY,jt,cr,zu k];by_cases e:x=k
  .subst e;rw[ap (jj _),ao (jy _),List.filter_eq_self.mpr,aN,pW];intro t ht;obtain⟨o,_,rfl⟩:=bQ.mp ht;simp
  .rw[xK.mpr,tZ,h_]
   .by_cases h:x<k
    .rw[ao h,ao (by lia)]
    .rw[ap h,ap (by lia)]
   .intro t ht z;obtain⟨o,_,rfl⟩:=bQ.mp ht;exact e (dS (bV z)).symm
theorem qW{x:Nat}:∀ {l:List Nat},l.Nodup->((l.map fun o=>ci o).filter fun t=>decide (t=ci x)).length=if x∈l then 1 else 0
 |[],_=>by simp
 |y::l,h=>by
  have ih:=qW (x:=x) (dR.mp h).2;have hy:=(dR.mp h).1;rw[cX,jv];by_cases e:y=x
  .subst e;rw[ao (by simp),cw,ih,ap hy,ao (by simp)]
  .rw[ap (show ¬ decide (ci y=ci x)=true from fun z=>e (dS (bV z))),ih];have:x∈y::l↔x∈l:=by
    rw[bL];exact⟨fun z=>z.elim (fun q=>absurd q.symm e) id,.inr⟩
   simp only[this]
theorem EN{g:Nat->List Nat}{x:Nat}:∀k,(∀h,h<k->(g h).Nodup)->((qV g k).filter fun t=>decide (t.2=ci x)).length=inn g k x
 |0,_=>by simp[qV,inn]
 |k+1,h=>by
  rw[nY,jt,cr,EN k fun y hy=>h y (by lia)];unfold inn;rw[jz,List.countP_append];congr 1;have e1:List.countP (fun o=>decide (x∈g o)) [k]=if x∈g k then 1 else 0:=by rw[List.countP_singleton];simp
  rw[e1,<-qW (h k (by lia)),xy,aN,xy,aN];rfl
theorem HF{n:Nat}{g:Nat->List Nat}(lt:∀a,a<n->∀o∈g a,o<n){a b:Nat}(ha:a<n)(h:Rc g a b):b<n/\∃k,dk (bb n g) k a b:=by
 induction h with
 |refl=>exact⟨ha,0,rfl⟩
 |step _ t ih=>
  obtain⟨hb,k,w⟩:=ih;exact⟨lt _ hb _ t,k+1,_,w,wX.mpr ⟨hb,t⟩⟩
theorem AG{h:Int}{n:Nat}:(∃x:Nat,h=ci x)\/h<0:=by
 by_cases z:0<=h
 .exact .inl ⟨h.toNat,(Int.toNat_of_nonneg z).symm⟩
 .exact .inr (by lia)
theorem HG{n:Nat}{g:Nat->List Nat}(G:gf n g)(C:LI n g)(n1:2<=n)(n2:n<=32):eJ n (bb n g):=by
 have PX:∀h:Int,h<0->(bb n g).filter (fun t=>decide (t.1=h))=[]:=fun h hh=>xK.mpr fun t ht z=>by
  obtain⟨x,o,_,_,rfl⟩:=nZ.mp ht;have z':((x:Nat):Int)=h:=bV z;lia
 have Vv:∀h:Int,h<0->(bb n g).filter (fun t=>decide (t.2=h))=[]:=fun h hh=>xK.mpr fun t ht z=>by
  obtain⟨x,o,_,_,rfl⟩:=nZ.mp ht;have z':((o:Nat):Int)=h:=bV z;lia
 have Vw:∀x,¬ x<n->inn g n x=0:=fun x hx=>by
  unfold inn;rw[List.countP_eq_zero];intro o ho z;exact hx (G.lt o (bO.mp ho) x (bV z)).1
 refine⟨n1,n2,wY n G.nd,fun t ht=>?_,fun t ht=>?_,fun h=>?_,fun h=>?_,fun a b ha hb=>(HF (fun x hx o ho=>(G.lt x hx o ho).1) ha (C a b ha hb)).2⟩
 .obtain⟨x,o,hx,ho,rfl⟩:=nZ.mp ht;have:=(G.lt x hx o ho).1;exact⟨⟨Int.natCast_nonneg _,Int.ofNat_lt.mpr hx⟩,⟨Int.natCast_nonneg _,Int.ofNat_lt.mpr this⟩⟩
 .obtain⟨x,o,hx,ho,rfl⟩:=nZ.mp ht;have:=(G.lt x hx o ho).2;exact fun e=>this (dS e).symm
 .rcases AG (h:=h) (n:=n) with ⟨x,rfl⟩|z
  .rw[zu,EN n G.nd];by_cases hx:x<n
   .rw[ao hx];exact G.Jy x hx
   .rw[ap hx,Vw x hx]
  .rw[PX h z,Vv h z]
 .rcases AG (h:=h) (n:=n) with ⟨x,rfl⟩|z
  .rw[zu];by_cases hx:x<n
   .rw[ao hx];exact G.le x hx
   .rw[ap hx];decide
  .rw[PX h z];decide
def lW(ts:Ts):Ts:=ts.map fun t=>(t.2,t.1)
theorem EO{ts:Ts}{a b:Nat}:T (lW ts) a b↔T ts b a:=by
 unfold T lW;rw[bQ];constructor
 .rintro⟨⟨x,y⟩,h,e⟩;have e1:=congrArg Prod.fst e;have e2:=congrArg Prod.snd e;dsimp only at e1 e2;subst e1 e2;exact h
 .exact fun h=>⟨_,h,rfl⟩
theorem wZ{ts:Ts}:∀ {k a b:Nat},dk (lW ts) k a b->dk ts k b a
 |0,_,_,e=>e.symm
 |k+1,a,b,⟨c,w,t⟩=>dk.cons (EO.mp t) (wZ w)
theorem n5{ts:Ts}:∀ {k a b:Nat},dk ts k a b->dk (lW ts) k b a
 |0,_,_,e=>e.symm
 |k+1,a,b,⟨c,w,t⟩=>dk.cons (EO.mpr t) (n5 w)
theorem AH{ts:Ts}{h:Int}:((lW ts).filter fun t=>decide (t.1=h)).length=(ts.filter fun t=>decide (t.2=h)).length:=by
 unfold lW;rw[List.filter_map,List.length_map];rfl
theorem HJ{ts:Ts}{h:Int}:((lW ts).filter fun t=>decide (t.2=h)).length=(ts.filter fun t=>decide (t.1=h)).length:=by
 unfold lW;rw[List.filter_map,List.length_map];rfl
theorem EQ{n:Nat}{ts:Ts}(F:eJ n ts):eJ n (lW ts):=by
 refine⟨F.n1,F.n2,?_,fun t ht=>?_,fun t ht=>?_,fun h=>?_,fun h=>?_,fun a b ha hb=>?_⟩
 .exact List.Pairwise.map _ (fun a b Pk e=>Pk (Prod.ext (congrArg Prod.snd e) (congrArg Prod.fst e))) (tu.mp F.nd)
 .obtain⟨u,hu,rfl⟩:=bQ.mp ht;exact⟨(F.rg u hu).2,(F.rg u hu).1⟩
 .obtain⟨u,hu,rfl⟩:=bQ.mp ht;exact fun e=>F.ne u hu e.symm
 .rw[AH,HJ];exact(F.Jy h).symm
 .rw[AH,<-F.Jy h];exact F.most h
 .obtain⟨k,w⟩:=F.con b a hb ha;exact⟨k,n5 w⟩
theorem HK{n:Nat}{ts:Ts}(F:eJ n ts){a b:Nat}(ha:a<n)(hb:b<n):far (lW ts) a b=far ts b a:=by
 have h:=F.G5 hb ha;exact qL ⟨n5 h.1,fun k w=>h.2 k (wZ w)⟩
section
variable {n:Nat} {g:Nat->List Nat} {hs ns:List Int} {m L:Nat} {ss ls:Nat->List (Option Nat)}
theorem iE.goes(R:iE n g hs L ss ls ns){b i h:Nat}(hb:b<L)(e:(ss b).getD i none=some h):∃o,(ls b).getD i none=some o/\T (bb n g) h o:=by
 obtain⟨o,e1,e2⟩:=(R.tie b hb).tie i h e;exact⟨o,e1,wX.mpr ⟨R.lt b (dI hb) i h e,e2⟩⟩
theorem iE.so(R:iE n g hs L ss ls ns){b c i h o h':Nat}(hb:b+1<=c)(hl:c<=L)(e1:(ss b).getD i none=some h)(e2:(ls b).getD i none=some o)(e3:(ss c).getD i none=some h'):(ss (b+1)).getD i none=some o:=by
 have n1:(ss b).getD i none≠none:=by rw[e1];intro z;cases z
 have nx:=R.next b (br hb hl) i n1;rw[e2] at nx;have ne:(ss (b+1)).getD i none≠none:=fun z=>by
  have:=R.out b (br hb hl) i n1 z c hb hl;rw[e3] at this;cases this
 rw[nx] at ne |-;show (if (o:Int)=hs.getD i 0 then none else some o)=some o;by_cases z:(o:Int)=hs.getD i 0
 .exact absurd (ao z) ne
 .exact ap z
theorem iE.JL(R:iE n g hs L ss ls ns):∀ (d b i h o h':Nat),(ss b).getD i none=some h->(ls b).getD i none=some o->b+1+d<=L->(ss (b+1+d)).getD i none=some h'->dk (bb n g) d o h':=by
 intro d;induction d with
 |zero=>
  intro b i h o h' e1 e2 hl e3;have so:=R.so (Nat.le_add_right _ _) hl e1 e2 e3;rw[h_,so] at e3;exact aY e3
 |succ d ih=>
  intro b i h o h' e1 e2 hl e3;have so:=R.so (Nat.le_add_right _ _) hl e1 e2 e3;have hs:b+1+1+d=b+1+(d+1):=by lia
  obtain⟨o',e4,t⟩:=R.goes (b:=b+1) (bU (Nat.lt_add_of_pos_right (uf d)) hl) so;exact dk.cons t (ih (b+1) i o o' h' so e4 (hs ▸ hl) (hs ▸ e3))
theorem iE.once(R:iE n g hs L ss ls ns){b c i h h' o:Nat}(hb:b<L)(hc:c<L)(e1:(ss b).getD i none=some h)(e2:(ls b).getD i none=some o)(ho:(o:Int)=hs.getD i 0)(e3:(ss c).getD i none=some h'):c<=b:=by
 by_cases z:c<=b
 .exact z
 .have nx:=R.next b hb i (by rw[e1];intro z;cases z);rw[e2] at nx;have n0:(ss (b+1)).getD i none=none:=nx.trans (ao ho);have:=R.out b hb i (by rw[e1];intro z;cases z) n0 c (by lia) (by lia);rw[e3] at this;cases this
theorem w4(R:iE n g hs L ss ls ns){c h0:Nat}{zs:List Int}:∀ {k h:Nat},cT m L ss ls c h0 zs k=some h->dk (bb n g) k h0 h/\(0<k->∃i x:Nat,zs.getD (k-1) 0=i/\i<m/\c+(k-1)<L/\(ss (c+(k-1))).getD i none=some x/\(ls (c+(k-1))).getD i none=some h/\T (bb n g) x h)
 |0,h,e=>⟨aY e,fun z=>absurd z (by lia)⟩
 |k+1,h,e=>by
  cases e0:cT m L ss ls c h0 zs k with
  |none=>unfold cT at e;rw[e0] at e;cases e
  |some x=>
   by_cases s:fw m L ss (zs.getD k 0) ((c+k:Nat):Int) x=true
   .have e':=sX e0 s;rw[e'] at e;obtain⟨i,b,h1,h2,h3,h4,h5⟩:=qU s;obtain rfl:c+k=b:=by lia
    obtain⟨o,e1,t⟩:=R.goes h4 h5;have ho:h=o:=by
     rw[h1,cM,e1] at e;exact(aY e).symm
    subst ho;exact⟨⟨x,(w4 R e0).1,t⟩,fun _=>⟨i,x,h1,h3,h4,h5,e1,t⟩⟩
   .have:=nX e0 s 0;rw[h_] at this;rw[this] at e;cases e
structure NG(n:Nat)(g:Nat->List Nat)(hs:List Int)(m L:Nat)(ss ls:Nat->List (Option Nat))(j c M d o h0:Nat):Prop where
 M1:0<M
 one:M=1->d≠j
 dm:d<m
 cl:c<L
 s0:(ss c).getD j none=some h0
 o0:(ls c).getD j none=some o
 en:c+(M-1)<L
 hm:∃x e:Nat,(ss (c+(M-1))).getD d none=some x/\(ls (c+(M-1))).getD d none=some e/\(e:Int)=hs.getD d 0/\T (bb n g) x e/\dk (bb n g) M h0 e
theorem zw(R:iE n g hs L ss ls ns){j c:Nat}{zs:List Int}(h:jW hs m L ss ls j c zs=true):∃d o h0:Nat,zs.getD (zs.length-1) 0=d/\zs≠[]/\NG n g hs m L ss ls j c zs.length d o h0:=by
 unfold jW at h;rw[eM,eM,eM] at h;obtain⟨h1,h2,h3,h4⟩:=h;obtain⟨j',c',h0,e1,e2,h5,h6,h7⟩:=gK h1;obtain rfl:j=j':=dS e1;obtain rfl:c=c':=dS e2;have AF:zs≠[]:=by rintro rfl;cases h2
 have zl:0<zs.length:=pN.mpr AF;rw[cM,cM,h7] at h4;cases ew:cT m L ss ls c ((some h0).getD 0) zs zs.length with
 |none=>rw[ew] at h4;cases h4
 |some e=>
  rw[ew] at h4;have he:=bV h4;obtain⟨w,k⟩:=w4 R ew;obtain⟨d,x,q1,q2,q3,q4,q5,q6⟩:=k zl;obtain⟨o,e3,_⟩:=R.goes h6 h7;rw[q1,cM] at he;refine⟨d,o,h0,q1,AF,zl,fun z1 z2=>?_,q2,h6,h7,e3,q3,x,e,q4,q5,he,q6,w⟩;rw[z1] at q1;rw[show (1:Nat)-1=0 from rfl] at q1;rw[q1,z2] at h3;simp at h3
theorem ER(R:iE n g hs L ss ls ns)(F:eJ n (bb n g)){j c M o h0:Nat}(C:NG n g hs m L ss ls j c M j o h0):∃e:Nat,(e:Int)=hs.getD j 0/\e<n/\far (bb n g) o e<M:=by
 obtain⟨x,e,q1,q2,q3,q4,q5⟩:=C.hm;have M2:2<=M:=by
  have:=C.M1;by_cases z:M=1
  .exact absurd rfl (C.one z)
  .lia
 have w:=R.JL (M-2) c j h0 o x C.s0 C.o0 (by have:=C.en;lia) (by rw[show c+1+(M-2)=c+(M-1) by lia];exact q1);have w2:dk (bb n g) (M-2+1) o e:=⟨x,w,q4⟩
 obtain⟨o',e1,t⟩:=R.goes C.cl C.s0;obtain rfl:o=o':=by rw[C.o0] at e1;exact aY e1
 have:=F.y8 (F.Cr t).2.1 (F.Cr q4).2.1 w2;exact⟨e,q3,(F.Cr q4).2.1,by lia⟩
theorem HL(R:iE n g hs L ss ls ns)(F:eJ n (bb n g)){j c M d o h0 c' M' o' YA:Nat}(C:NG n g hs m L ss ls j c M d o h0)(C':NG n g hs m L ss ls j c' M' d o' YA)(hc:c<c'):∃e:Nat,(e:Int)=hs.getD d 0/\e<n/\far (bb n g) o e<M:=by
 obtain⟨x,e,q1,q2,q3,q4,q5⟩:=C.hm;obtain⟨x',e',r1,r2,r3,r4,r5⟩:=C'.hm;have a1:=R.once C.en C'.en q1 q2 q3 r1;have a2:=R.once C'.en C.en r1 r2 r3 q1;have b1:=C.M1;have b2:=C'.M1;have w:=R.JL (c'-c-1) c j h0 o YA C.s0 C.o0 (by have:=C'.cl;lia) (by rw[show c+1+(c'-c-1)=c' by lia];exact C'.s0);have w2:=w.trans r5;obtain⟨o2,e1,t⟩:=R.goes C.cl C.s0;obtain rfl:o=o2:=by rw[C.o0] at e1;exact aY e1
 have:=F.y8 (F.Cr t).2.1 (F.Cr r4).2.1 w2;exact⟨e',r3,(F.Cr r4).2.1,by lia⟩
end
open dE (zr zp PO FI Zs iC iD i8 dP)
abbrev vj:Stmt:=gy 41
abbrev wM:Stmt:=gy 42
abbrev ES:Stmt:=gy 43
theorem Vx:(["_law_other","_law_house"]:List Str).Nodup:=by decide +kernel
theorem ET{xs:List Nat}{i:Nat}{x:V}(h:(NV xs)[i]?=some x):∃z,xs[i]?=some z/\x=.int (z:Nat):=by
 rw[bo] at h;obtain⟨z,hz,rfl⟩:=pA.mp h;exact⟨z,hz,rfl⟩
theorem w5{K:PySem.W.Frag}{a D:Addr}{xs:List Nat}{g:TG}{tt:TT}{te:TE}{fin:Hp->Prop}{σB:St}{H0:Hp}(F:Nat->Int×Int)(dv:St->Prop)(ha:H0 a=some (.lst (NV xs)))(hD:H0 D=none)(hn:xs.length<=100000)(h0:dv σB)(hs:∀x σ H (R:V->St->Hp->Prop) (Kf:St->Hp->Prop),x∈xs->dv σ->aE H0 H->(∀σ2 p,dv σ2->H p=none->R (.ref p) σ2 (upd H p (FI (F x))))->g (.int (x:Nat)) σ H fun σ2 H2=>tt σ2 H2 fun b H3=>if b=true then te σ2 H3 fun v H4=>R v σ2 H4 else Kf σ2 H3)(hd:∀zs H,aE H0 H->H D=some (.lst (zr zs))->PO H zs->zp zs=xs.map F->fin H):g8 (CY K a) g tt te D fin σB (upd H0 D (.lst [])):=by
 refine eY (xs:=NV xs) (fun i ys σ H=>dv σ/\aE H0 H/\H D=some (.lst ys)/\∃zs:Zs,ys=zr zs/\PO H zs/\zp zs=(xs.take i).map F) ⟨h0,aj hD,af,[],rfl,dE.PO.nil,rfl⟩ (fun i ys σ H _ z=>aT.of (z.2.1 _ _ ha)) ?_ ?_
 .rintro i x ys σ H Kt Kf hx ⟨sh,sm,nU,zs,rfl,po,ep⟩ kt kf;obtain⟨z,hz,rfl⟩:=ET hx;have hi:i<xs.length:=(cK.mp hz).1;have hl:zs.length=i:=by rw[<-dP,ep,aN,jf];lia
  have tk:xs.take (i+1)=xs.take i++[z]:=by rw[iq,hz];rfl
  refine hs z σ H Kt Kf (dQ hz) sh sm (fun σ2 p B1 hp=>?_);have nD:D≠p:=ai nU hp;refine kt _ _ _ (by rw[ak nD];exact nU) (by rw[i8,hl];exact bU hi (br hn (by decide))) ⟨B1,dE.bE (sm.trans (aj hp)) hD,af,zs++[(p,F z)],?_,?_,?_⟩
  .rw[iC];rfl
  .intro y hy;rcases bq.mp hy with q|q
   .have e:=po y q;rw[ak (cY e nU (by intro w;cases w)),ak (ai e hp)];exact e
   .rw[bS.mp q,ak nD.symm,af]
  .rw[iD,ep,tk,cD];rfl
 .rintro ys σ H ⟨_,sm,nU,zs,rfl,po,ep⟩;rw[show (NV xs).length=xs.length from aN _,gA] at ep;exact hd zs H sm nU po ep
section
variable {P:Program} {w:World} {K:PySem.W.Frag} {mg:Str->Option Value} {base:Heap}
theorem vk:aG ["_law_outs","_law_found","_law_house"] ["_law_outs"] (am vj):=⟨rfl,rfl,rfl,by decide +kernel,rfl,by decide +kernel,by decide +kernel⟩
def vm:Sp:=fun vs H Q _=>∃ (O:Addr) (as:List Addr) (n:Nat) (g:Nat->List Nat),vs=[.ref O]/\fq H O as n g/\gf n g/\n<=32/\∀ (l:Addr) (zs:Zs) (H':Hp),aE H H'->H l=none->H' l=some (.lst (zr zs))->PO H' zs->(zp zs).Perm (bb n g)->Q (.ref l) H'
def FN(g:Nat->List Nat)(ks:List Nat):Ts:=ks.flatMap fun h=>(g h).map fun o=>(ci h,ci o)
theorem EU{g:Nat->List Nat}{ks:List Nat}{h:Nat}:FN g (ks++[h])=FN g ks++(g h).map fun o=>(ci h,ci o):=by
 unfold FN;rw[List.flatMap_append];simp
theorem EV{n:Nat}{g:Nat->List Nat}{ks:List Nat}(o:u5 ks n):(FN g ks).Perm (bb n g):=List.Perm.flatMap_right _ o
theorem AI{n:Nat}{g:Nat->List Nat}(G:gf n g):∀ {ks:List Nat},(∀h∈ks,h<n)->(FN g ks).length<=8*ks.length
 |[],_=>by simp[FN]
 |h::ks,m=>by
  have ih:=AI G (ks:=ks) fun x hx=>m x (cC _ hx);have:=G.le h (m h b9);have e:FN g (h::ks)=((g h).map fun o=>(ci h,ci o))++FN g ks:=by unfold FN;rw[List.flatMap_cons]
  rw[e,cr,aN,cw];lia
theorem EW{f:Addr}{fd:FuncData}(F:fR K "_law_ties" "_law_ties" vj f fd):bv P w K mg base a9 1 f fd ["_law_outs"] vm:=by
 refine F.ok vk (fun vs H Q E h=>?_) (fun dM A outer s H vs Q E hr h=>?_)
 .obtain⟨O,as,n,g,rfl,_⟩:=h;rfl
 .obtain⟨O,as,n,g,rfl,hO,G,FK,q⟩:=h;have hu:(A.deeper (PyProof.Rows.envOfC "_law_ties" (am vj) s.heap.objs.size f dM)).units+1<cLine:=by have:=hr.un;lia
  refine'⟨_,ah (aO (i:=1) vk.nd rfl (Or.inl rfl) (dY ag))
   (ah (dO eN rfl (wQ (pv 0)) (aB (i:=2) vk.nd rfl (Or.inr rfl)) (al (cP (iA im PySem.F.slot_list_extend PySem.F.type_list_extend Bk (pv 1) (aa ?c ag)))))
   (al (aF (pv 1)))),?_⟩
  case c=>
   refine' cR (g:=bD 0) (te:=yE (cH (be 1) (cH (be 0) lJ))) (NB:=["_law_other","_law_house"]) (src:=[none,some 2]) (cg (by kernel_rfl)) rfl (cf (bY hu (pv 0) (pv 2) (fun _ _=>rfl))) ?g ?t ?e;case g=>exact fun cl C s₃ H₃ fp=>aB (i:=0) Vx rfl (Or.inl rfl) (Or.inr rfl)
   case t=>exact fun cl C s₃ H₃ fp=>fg
   case e=>exact fun cl C s₃ H₃ fp=>f_ (aa (pv 1) (aa (pv 0) ag))
  refine⟨by show 0<=sizeLine;decide,fun F' hF=>?_⟩;obtain⟨o,ks,OK,hd⟩:=hO.dict;have kl:=OK.len;refine⟨_,rfl,O,_,o,rfl,aj hF _ _ hd,?_⟩;refine qB (fun i σ H3=>(∃v,σ=[some (.ref O),some (.ref F'),v])/\aE H H3/\∃zs:Zs,H3 F'=some (.lst (zr zs))/\PO H3 zs/\zp zs=FN g (ks.take i)) ⟨⟨_,rfl⟩,aj hF,[],af,dE.PO.nil,rfl⟩ (fun i σ H3 _ z=>z.2.1 _ _ hd) ?_ ?_
  .rintro j k v σ H3 hk ⟨⟨v',rfl⟩,sm,zs,PY,po,ez⟩;obtain⟨i,xw,rfl⟩:=mI hk;obtain⟨hj,hi,tk,ni⟩:=OK.at_ xw;change bD 2 (V.int (i:Int)) _ _ _;have LY:=hO.same sm;refine⟨_,rfl,.inl ⟨rfl,_,aT.of PY⟩,_,rfl,_,rfl,O,_,rfl,LY.get hi,as.getD i 0,rfl,⟨_,aT.of (LY.rows.2 i hi)⟩,fun D hD=>?_⟩;have l8:=G.le i hi;refine w5 (xs:=g i) (fun x=>(ci i,ci x)) (fun σ=>∃a,σ=[a,some (.int (i:Int))]) (LY.rows.2 i hi) hD (by lia) ⟨_,rfl⟩ ?_ ?_
   .rintro x σ H4 R Kf hx ⟨a,rfl⟩ qQ kr;exact⟨_,rfl,_,rfl,by show 2<=sizeLine;decide,fun p hp=>kr _ p ⟨_,rfl⟩ hp⟩
   .intro lT H4 qQ B5 FO YB;have YC:=qQ _ _ PY;have nFD:F'≠D:=ai PY hD;have lz:(zr zs).length<=256:=by rw[i8,<-dP,ez];have:=AI G (ks:=ks.take j) (fun x hx=>OK.mem.mp (mU hx));rw[jf] at this;lia
    have lz':(zr lT).length<=8:=by rw[i8,<-dP,YB,aN];exact l8
    refine⟨F',D,_,_,rfl,rfl,YC,B5,br (show (zr zs).length+(zr lT).length<=264 by lia) (by decide),⟨_,rfl⟩,dE.bE (sm.trans qQ) hF,zs++lT,by rw[iC];exact af,?_,by rw[iD,ez,YB,tk,EU]⟩;intro y hy;have e:H4 y.1=some (FI y.2):=(bq.mp hy).elim (fun z=>qQ _ _ (po y z)) (FO y);rw[ak (cY e YC (by intro w;cases w))];exact e
  .rintro σ H3 ⟨⟨v',rfl⟩,sm,zs,PY,po,ez⟩;rw[cp,gA] at ez;exact⟨_,rfl,q F' zs H3 sm hF PY po (by rw[ez];exact EV OK)⟩
end
def vn(f:Nat->Nat)(xs:List Nat):List (dq×V):=xs.map fun (x:Nat)=>(Sum.inl (x:Int),V.int ((f x:Nat):Int))
theorem HN{f:Nat->Nat}{xs:List Nat}:(vn f xs).length=xs.length:=aN _
theorem pj{f:Nat->Nat}{x:Nat}:∀ {xs:List Nat},iB (vn f xs) (Sum.inl (x:Int))=if x∈xs then some (.int ((f x:Nat):Int)) else none
 |[]=>rfl
 |y::ys=>by
  unfold vn;rw[cX];by_cases e:y=x
  .subst e;rw[jN rfl,ao b9]
  .have e2:¬ ((Sum.inl (y:Int):dq)=Sum.inl (x:Int)):=fun z=>e (dS (pZ z));rw[jO e2];have ih:=pj (f:=f) (x:=x) (xs:=ys);unfold vn at ih;rw[ih];by_cases h:x∈ys
   .rw[ao h,ao (cC _ h)]
   .rw[ap h,ap (fun z=>(bL.mp z).elim (fun q=>e q.symm) h)]
theorem HP{f:Nat->Nat}{x k:Nat}{xs:List Nat}(h:x∉xs):fT (vn f xs) (Sum.inl (x:Int)) (.int ((k:Nat):Int))=vn (put f x k) (xs++[x]):=by
 rw[my _ (by rw[pj,ap h])];unfold vn;rw[cD,cX,lA,gH];congr 1;refine jb fun y hy=>?_;rw[eU (show y≠x from fun z=>h (z ▸ hy))]
def k8(H:Hp)(D:Addr)(n:Nat)(f:Nat->Nat):Prop:=∃Rs:List Nat,H D=some (.dK (vn f Rs))/\∀x,x<n->x∈Rs
theorem k8.same{H H':Hp}{D:Addr}{n:Nat}{f:Nat->Nat}(h:k8 H D n f)(s:aE H H'):k8 H' D n f:=let ⟨R,a,b⟩:=h;⟨R,s _ _ a,b⟩
theorem k8.get{H:Hp}{D:Addr}{n:Nat}{f:Nat->Nat}(h:k8 H D n f){x:Nat}(hx:x<n):iW H D (.int (x:Int)) (some (.int ((f x:Nat):Int))):=by
 obtain⟨R,a,b⟩:=h;have:=iW.k (k:=Sum.inl (x:Int)) a;rw[pj,ao (b x hx)] at this;exact this
section
variable {P:Program} {w:World} {K:PySem.W.Frag} {mg:Str->Option Value} {base:Heap}
theorem oE:aG ["_law_outs","_law_home","_law_far_here","_law_row","_law_at","_law_house"] ["_law_outs","_law_home"] (am wM):=⟨rfl,rfl,rfl,by decide +kernel,rfl,by decide +kernel,by decide +kernel⟩
def AJ:Sp:=fun vs H Q _=>∃ (O:Addr) (as:List Addr) (n:Nat) (g:Nat->List Nat) (s:Nat),vs=[.ref O,.int s]/\fq H O as n g/\eJ n (bb n g)/\s<n/\∀ (r:Addr) (H':Hp),aE H H'->H r=none->k8 H' r n (fun x=>far (bb n g) x s)->Q (.ref r) H'
theorem gL{xs:List Nat}{v:Nat}:NV (xs++[v])=NV xs++[.int (v:Int)]:=by unfold NV;rw[cD];rfl
theorem LZ{f:Addr}{fd:FuncData}(F:fR K "_law_far" "_law_far" wM f fd)(B:Bl mg):bv P w K mg base a9 1 f fd ["_law_outs","_law_home"] AJ:=by
 refine F.ok oE (fun vs H Q E h=>?_) (fun dM A outer s H vs Q E hr h=>?_)
 .obtain⟨O,as,n,g,s,rfl,_⟩:=h;rfl
 .obtain⟨O,as,n,g,st,rfl,hO,Fi,hs,k⟩:=h;have fi:=EQ Fi;have n1:=fi.n1;have n2:=fi.n2;have hu:(A.deeper (PyProof.Rows.envOfC "_law_far" (am wM) s.heap.objs.size f dM)).units+1<cLine:=by have:=hr.un;lia
  refine'⟨_,ah (aO (i:=2) oE.nd rfl (Or.inl rfl) (GE (DI (pv 1) aq GD) rfl rfl (by simp) (by decide)))
   (ah (aO (i:=3) oE.nd rfl (Or.inl rfl) (dY (aa (pv 1) ag)))
   (ah (aO (i:=4) oE.nd rfl (Or.inl rfl) aq)
   (ah (qb eN (aM qe (pv 4) (aA aH (by rfl) B.len cG (aa (pv 3) ag)) (aL _))
    (ah (dO eN rfl (wQ (pv 0)) (aB (i:=5) oE.nd rfl (Or.inl rfl))
     (al (bA (PW.pt (yq (uk (nM hu (pv 5) (pv 2))) (uo (aM nC (au az (pv 3) (pv 4) (fun _ _=>rfl)) (bY hu (pv 0) (pv 5) (fun _ _=>rfl)) (by rfl)))))
      (ah (mz hu (pv 2) (pv 5) (bp dC (bY hu (pv 2) (au az (pv 3) (pv 4) (fun _ _=>rfl)) (fun _ _=>rfl)) aq) rfl)
      (al (cP (iA im kM kK dj (pv 3) (aa (pv 5) ag))))) aQ)))
    (al (aO (i:=4) oE.nd rfl (Or.inl rfl) (bp dC (pv 4) aq)))))
   (al (aF (pv 2)))))),?_⟩
  obtain⟨o,ks,OK,hd⟩:=hO.dict;refine fun D hD=>⟨_,rfl,af,[(Sum.inl (st:Int),.int 0)],rfl,by show 1<=15;decide,?_⟩
  rw[g7];have e0:nN [] [(Sum.inl (st:Int),V.int 0)]=vn (fun _=>0) [st]:=rfl;rw[e0];have YD:aE H (upd H D (.dK (vn (fun _=>0) [st]))):=aj hD;refine⟨_,rfl,by show 1<=sizeLine;decide,fun R hR=>?_⟩;have JD:D≠R:=ai (H:=upd H D (.dK (vn (fun _=>0) [st]))) af hR;have Px:H R=none:=YD.free hR;refine vN (fun σ H2=>∃ (i:Nat) (Rs:List Nat) (f:Nat->Nat),i<=Rs.length/\xu n (lW (bb n g)) st i Rs f/\(∃a,σ=[some (.ref O),some (.int st),some (.ref D),some (.ref R),some (.int (i:Int)),a])/\aE H H2/\H2 D=some (.dK (vn f Rs))/\H2 R=some (.lst (NV Rs)))
   (fun σ _=>n-dE.JB σ) ⟨0,[st],fun _=>0,dg _,xu.start hs,⟨none,rfl⟩,YD.trans (aj hR),by rw[ak JD,af],af⟩ ?_ ?_
  .rintro σ H2 ⟨i,Rs,f,hi,Bf,⟨a,rfl⟩,sm,l0,Nv⟩;have hRn:Rs.length<=n:=eD Bf.nd Bf.lt;refine⟨_,rfl,_,rfl,R,_,rfl,.inl (aT.of Nv),_,_,rfl,rfl,_,rfl,?_⟩;rw[show (NV Rs).length=Rs.length from aN _];by_cases sK:i<Rs.length
   .rw[show decide ((i:Int)<((Rs.length:Nat):Int))=true by simp;lia];refine Gi ?_;have wb:Rs[i]?=some Rs[i]:=cm sK;generalize Rs[i]=u at wb;refine⟨_,rfl,O,_,o,rfl,sm _ _ hd,?_⟩;refine qB (fun j σ H3=>∃ (gc:List Nat) (f':Nat->Nat),xu n (lW (bb n g)) st i gc f'/\gc[i]?=some u/\(∀v∈ks.take j,T (lW (bb n g)) u v->v∈gc/\f' v<=f' u+1)/\
      (∃b,σ=[some (.ref O),some (.int st),some (.ref D),some (.ref R),some (.int (i:Int)),b])/\aE H H3/\H3 D=some (.dK (vn f' gc))/\H3 R=some (.lst (NV gc)))
      ⟨Rs,f,Bf,wb,fun v hv=>by simp at hv,⟨_,rfl⟩,sm,l0,Nv⟩ (fun j σ H3 _ ⟨_,_,_,_,_,_,rM,_⟩=>rM _ _ hd) ?_ ?_
    .rintro j k0 v0 σ H3 hk ⟨gc,f',sQ,EX,dn,⟨b',rfl⟩,rM,kF,vB⟩;obtain⟨v,hkv,rfl⟩:=mI hk;obtain⟨hj,Ed,tk,nv⟩:=OK.at_ hkv;change bD 5 (V.int (v:Int)) _ _ _;have LY:=hO.same rM;have Sj:(NV gc)[i]?=some (.int (u:Int)):=by rw[bo,EX];rfl
     have Ee:u∈gc:=dQ EX;have lZ:i<gc.length:=(cK.mp EX).1;have Ef:gc.length<=n:=eD sQ.nd sQ.lt;have gD:∀x:Nat,iW H3 D (.int (x:Int)) (if x∈gc then some (.int ((f' x:Nat):Int)) else none):=fun x=>by
      have:=iW.k (k:=Sum.inl (x:Int)) kF;rw[pj] at this;exact this
     have PZ:T (lW (bb n g)) u v↔u∈g v:=by rw[EO,wX];exact⟨fun z=>z.2,fun z=>⟨Ed,z⟩⟩
     refine⟨_,rfl,_,rfl,D,_,rfl,gD v,_,rfl,?_⟩;by_cases zh:v∈gc
     .rw[ao zh];refine lL ⟨gc,f',sQ,EX,fun x hx t=>?_,⟨_,rfl⟩,rM,kF,vB⟩;rw[tk] at hx;rcases bq.mp hx with hx|hx
      .exact dn x hx t
      .rw[bS.mp hx];exact⟨zh,sQ.bd u EX _ zh⟩
     .rw[ap zh];refine Gi ?_;refine⟨_,rfl,_,rfl,R,_,_,_,rfl,rfl,aT.of vB,bg Sj,_,rfl,_,rfl,O,_,rfl,LY.get Ed,as.getD v 0,NV (g v),rfl,.inl (aT.of (LY.rows.2 v Ed)),rfl,qR,_,rfl,?_⟩;rw[pf];refine bN (fun e=>?_) (fun e=>?_)
      .have U1:T (lW (bb n g)) u v:=PZ.mpr (bV e);have g2:=gD u;rw[ao Ee] at g2;refine⟨_,rfl,_,rfl,_,rfl,R,_,_,_,rfl,rfl,aT.of vB,bg Sj,D,_,rfl,g2,_,_,rfl,rfl,_,rfl,_,rfl,D,_,rfl,qr.k (k:=Sum.inl (v:Int)) kF (by rw[HN];exact bU (show gc.length<33 by lia) (by decide)),?_⟩;have e1:fT (vn f' gc) (Sum.inl (v:Int)) (V.int (((f' u:Nat):Int)+1))=vn (put f' v (f' u+1)) (gc++[v]):=by
        rw[show ((f' u:Nat):Int)+1=((f' u+1:Nat):Int) by lia,HP zh]
       rw[e1];have rp:(upd H3 D (.dK (vn (put f' v (f' u+1)) (gc++[v])))) R=some (.lst (NV gc)):=by rw[ak JD.symm];exact vB
       refine⟨_,rfl,.inl ⟨rfl,_,aT.of rp⟩,_,rfl,R,_,_,rfl,rfl,rp,by rw[aN];exact bU (show gc.length<33 by lia) (by decide),?_⟩;have U2:u≠v:=fun z=>zh (z ▸ Ee);refine⟨gc++[v],put f' v (f' u+1),sQ.add EX Ed U1 zh,by rw[ja lZ];exact EX,fun x hx t=>?_,⟨_,rfl⟩,dE.bE (dE.bE rM hD) Px,?_,?_⟩
       .rw[eU U2];by_cases e:x=v
        .subst e;exact⟨by simp,by rw[gH];exact aZ _⟩
        .have sA:x∈ks.take j:=by
          rw[tk] at hx;rcases bq.mp hx with hx|hx
          .exact hx
          .exact absurd (bS.mp hx) e
         obtain⟨q1,q2⟩:=dn x sA t;exact⟨gY _ q1,by rw[eU e];exact q2⟩
       .rw[ak JD,af]
       .rw[af,gL]
      .have e':¬ u∈g v:=fun z=>e (bK z);refine⟨gc,f',sQ,EX,fun x hx t=>?_,⟨_,rfl⟩,rM,kF,vB⟩;by_cases ex:x=v
       .subst ex;exact absurd (PZ.mp t) e'
       .have sA:x∈ks.take j:=by
         rw[tk] at hx;rcases bq.mp hx with hx|hx
         .exact hx
         .exact absurd (bS.mp hx) ex
        exact dn x sA t
    .rintro σ H3 ⟨gc,f',sQ,EX,dn,⟨b',rfl⟩,rM,kF,vB⟩;rw[cp,gA] at dn;have lZ:i<gc.length:=(cK.mp EX).1;have Ef:gc.length<=n:=eD sQ.nd sQ.lt;refine⟨_,rfl,_,_,rfl,rfl,⟨i+1,gc,f',lZ,sQ.next EX (fun v t=>dn v (OK.mem.mpr (fi.Cr t).2.1) t),⟨_,rfl⟩,rM,kF,vB⟩,?_⟩;show n-((i:Int)+1).toNat<n-((i:Int)).toNat;lia
   .rw[show decide ((i:Int)<((Rs.length:Nat):Int))=false by simp;lia];refine lL ?_;refine⟨_,rfl,k D H2 sm hD ⟨Rs,?_,fun x hx=>(Bf.done fi (by lia) hx).1⟩⟩;have e:vn f Rs=vn (fun x=>far (bb n g) x st) Rs:=by
     unfold vn;refine jb fun x hx=>?_;have sA:=Bf.lt x hx;rw[(Bf.done fi (by lia) sA).2,HK Fi hs sA]
    rw[<-e];exact l0
  .rintro σ H2 Q1 Q2 imp ⟨v,e1,v2,e2,p,ys,e3,e4,i1,i2,e5,e6,kk,e7,q⟩;exact⟨v,e1,v2,e2,p,ys,e3,e4,i1,i2,e5,e6,kk,e7,imp _ _ q⟩
end
theorem P1:(["_law_home","_law_outs"]:List Str).Nodup:=by decide +kernel
structure eW(H:Hp)(r:Addr)(ds:List Addr)(n:Nat)(g:Nat->List Nat):Prop where
 dict:∃ks,u5 ks n/\H r=some (.dK (eV ds ks))
 rows:∀j,j<n->k8 H (ds.getD j 0) n (fun x=>far (bb n g) x j)
theorem eW.same{H H':Hp}{r:Addr}{ds:List Addr}{n:Nat}{g:Nat->List Nat}(h:eW H r ds n g)(s:aE H H'):eW H' r ds n g:=⟨let ⟨ks,a,b⟩:=h.dict;⟨ks,a,s _ _ b⟩,fun j hj=>(h.rows j hj).same s⟩
theorem eW.gp{H H':Hp}{p r:Addr}{ds:List Addr}{n:Nat}{g:Nat->List Nat}(h:eW H r ds n g)(s:ba p H H')(hp:bn H p):eW H' r ds n g:=by
 obtain⟨a,b,e,_⟩:=hp;obtain⟨ks,ok,d⟩:=h.dict;exact⟨⟨ks,ok,s _ _ d (cY d e (by intro z;cases z))⟩,fun j hj=>let ⟨R,x,y⟩:=h.rows j hj;⟨R,s _ _ x (cY x e (by intro z;cases z)),y⟩⟩
theorem eW.get{H:Hp}{r:Addr}{ds:List Addr}{n:Nat}{g:Nat->List Nat}(h:eW H r ds n g){x:Nat}(hx:x<n):iW H r (.int x) (some (.ref (ds.getD x 0))):=by
 obtain⟨ks,o,d⟩:=h.dict;have:=iW.k (k:=.inl (x:Int)) d;rw[gz,ao (o.mem.mpr hx)] at this;exact this
section
variable {P:Program} {w:World} {K:PySem.W.Frag} {mg:Str->Option Value} {base:Heap}
theorem L3:aG ["_law_outs"] ["_law_outs"] (am ES):=⟨rfl,rfl,rfl,by decide +kernel,rfl,by decide +kernel,by decide +kernel⟩
def zx:Sp:=fun vs H Q _=>∃ (O:Addr) (as:List Addr) (n:Nat) (g:Nat->List Nat),vs=[.ref O]/\ik H O as n g/\eJ n (bb n g)/\∀ (r:Addr) (ds:List Addr) (H':Hp),eW H' r ds n g->fq H' O as n g->ba O H H'->H r=none->Q (.ref r) H'
theorem HQ{f:Addr}{fd:FuncData}(F:fR K "_law_fars" "_law_fars" ES f fd)(B:Bl mg)(FA:b_ P w K mg base a9 1 "_law_far" ["_law_outs","_law_home"] AJ):bv P w K mg base a9 2 f fd ["_law_outs"] zx:=by
 refine F.ok L3 (fun vs H Q E h=>?_) (fun dM A outer s H vs Q E hr h=>?_)
 .obtain⟨O,as,n,g,rfl,_⟩:=h;rfl
 .obtain⟨O,as,n,g,rfl,hO,Fi,q⟩:=h;have n2:=Fi.n2;refine'⟨_,al (aF (dh (y3 rfl) (by rfl) B.dict PyProof.Rows.boot_dict (aa ?c ag))),?_⟩;case c=>
   refine' cR (g:=bD 0) (te:=yE (cH (be 0) (cH (r_ AJ [] E0 (cH (be 1) (cH (be 0) lJ))) lJ))) (NB:=["_law_home","_law_outs"]) (src:=[none,some 0]) (cg (by kernel_rfl)) rfl (An (pv 0)) ?g ?t ?e;case g=>exact fun cl C s₃ H₃ fp=>aB (i:=0) P1 rfl (Or.inl rfl) (Or.inr rfl)
   case t=>exact fun cl C s₃ H₃ fp=>fg
   case e=>exact fun cl C s₃ H₃ fp=>f_ (aa (pv 0) (aa (aD FA hr aP (aa (pv 1) (aa (pv 0) ag))) ag))
  obtain⟨ks,OK,hd⟩:=hO.dict;have kl:=OK.len;refine⟨_,rfl,O,_,rfl,hd,fun o D hD=>?_⟩;have YE:(upd H O (.iI o (.dK (eV as ks)))) O=some (.iI o (.dK (eV as ks))):=af;have Vy:∀j,j<n->as.getD j 0≠O:=fun j hj=>cY (hO.rows.2 j hj) hd (by intro z;cases z);have YF:fq (upd H O (.iI o (.dK (eV as ks)))) O as n g:=⟨⟨o,ks,OK,af⟩,hO.rows.mono fun j hj e=>by rw[ak (Vy j hj)];exact e,hO.inj⟩
  have sE:ba O H (upd H O (.iI o (.dK (eV as ks)))):=ba.upd;have fr:∀b,(upd H O (.iI o (.dK (eV as ks)))) b=none->H b=none:=fun b e=>by
   cases z:H b with
   |none=>rfl
   |some u=>
    by_cases eb:b=O
    .subst eb;rw[YE] at e;cases e
    .rw[sE b u z eb] at e;cases e
  generalize upd H O (.iI o (.dK (eV as ks)))=H1 at *;refine B7 (d:=O) (o:=o) (kvs:=eV as ks) (fun i ys σ H2=>(∃a,σ=[a,some (.ref O)])/\aE H1 H2/\H2 D=some (.lst ys)/\∃ (ts:List Addr) (A:Nat->Addr),ys=ts.map V.ref/\Holds H2 ts i (fun j=>.tup [.int ((ks.getD j 0:Nat):Int),.ref (A (ks.getD j 0))])/\∀h∈ks.take i,k8 H2 (A h) n (fun x=>far (bb n g) x h))
   ⟨⟨_,rfl⟩,aj hD,af,[],fun _=>0,rfl,Holds.nil,fun j hj=>by simp at hj⟩ (fun i ys σ H2 _ z=>z.2.1 _ _ YE) ?_ ?_
  .rintro j k v ys σ H2 Kt Kf hk ⟨⟨a,rfl⟩,sm,l0,ts,A,rfl,Ag,Sw⟩ kt kf;obtain⟨i,xw,rfl⟩:=mI hk;obtain⟨hj,hi,tk,ni⟩:=OK.at_ xw;change bD 0 (V.int (i:Int)) _ _ _;refine⟨_,rfl,_,rfl,_,rfl,O,as,n,g,i,rfl,YF.same sm,Fi,hi,fun r H3 s3 Yy F3=>⟨by show 2<=sizeLine;decide,fun t ht=>?_⟩⟩;have s4:=aj (o:=.tup [.int (i:Int),.ref r]) ht;have B5:=s4 _ _ (s3 _ _ l0);have hti:=af (H:=H3) (a:=t) (o:=.tup [.int (i:Int),.ref r]);have F4:=F3.same s4;have Vz:=s3.trans s4;generalize upd H3 t (.tup [.int (i:Int),.ref r])=H4 at *;have keep:∀b u,H4 b=some u->(∀xs,u≠.lst xs)->(upd H4 D (.lst (ts.map V.ref++[.ref t]))) b=some u:=fun b u e z=>by rw[ak (cY e B5 (z _))];exact e
   have JM:∀b f,k8 H4 b n f->k8 (upd H4 D (.lst (ts.map V.ref++[.ref t]))) b n f:=fun b f z=>let ⟨R,x,y⟩:=z;⟨R,keep _ _ x (by intro xs w;cases w),y⟩;have kg:ks.getD j 0=i:=by rw[bP,xw];rfl
   have eA:∀h∈ks.take j,jo A i r h=A h:=fun h m=>by unfold jo;rw[ap (fun (z:h=i)=>ni (by rw[<-z];exact m))]
   have eI:jo A i r i=r:=by unfold jo;rw[ao rfl]
   refine kt _ _ _ B5 (by rw[aN,Ag.1];exact bU (show j<33 by lia) (by decide)) ⟨⟨_,rfl⟩,dE.bE (sm.trans Vz) hD,af,ts++[t],jo A i r,by rw[cD];rfl,?_,fun h hh=>?_⟩
   .refine⟨by rw[cr,Ag.1];rfl,fun x hx=>?_⟩;rw[kd Ag.1];show _=some (HO.tup [.int ((ks.getD x 0:Nat):Int),.ref (jo A i r (ks.getD x 0))]);by_cases e:x=j
    .rw[ao e,e,kg,eI];exact keep _ _ hti (by intro xs w;cases w)
    .have mx:ks.getD x 0∈ks.take j:=by
      have Sx:x<ks.length:=by lia
      rw[bP,cm Sx];exact CI.mpr ⟨x,by lia,rfl⟩
     rw[ap e,eA _ mx];exact keep _ _ (Vz _ _ (Ag.2 x (by lia))) (by intro xs w;cases w)
   .rw[tk] at hh;rcases bq.mp hh with m|m
    .rw[eA h m];exact JM _ _ ((Sw h m).same Vz)
    .rw[bS.mp m,eI];exact JM _ _ F4
  .rintro ys σ H2 ⟨_,sm,l0,ts,A,rfl,Ag,Sw⟩;rw[cp,kl] at Ag;rw[cp,gA] at Sw;refine⟨D,ts,eF A ks,rfl,l0,by rw[Ag.1,cp,kl],fun i hi=>?_,?_,fun r vA=>?_⟩
   .rw[cp] at hi;have lZ:i<n:=by lia
    refine⟨.inl ((ks.getD i 0:Nat):Int),.ref (A (ks.getD i 0)),?_,Ag.2 i lZ⟩;unfold eF;rw[bo,cm hi,bP,cm hi];rfl
   .rw[cp];lia
   .rw[sR OK.nd];have s5:=aj (o:=.dK (eF A ks)) vA;refine q r ((List.range n).map A) _ ⟨⟨ks,OK,by rw[af];exact congrArg (fun z=>some (HO.dK z)) (jT fun x hx=>(hV (OK.mem.mp hx)).symm)⟩,fun h hh=>?_⟩ ((YF.same sm).same s5) (sE.trans (ba.of (sm.trans s5))) (fr r (sm.free vA));rw[hV hh];exact(Sw h (OK.mem.mpr hh)).same s5
end
open dE (zr zp PO FI Zs cS NT mH sP B3)
abbrev L4:Stmt:=gy 24
section
variable {P:Program} {w:World} {K:PySem.W.Frag} {mg:Str->Option Value} {base:Heap}
theorem P2:aG ["net","homes","stands","log","letter","beat","chain"] ["net","homes","stands","log","letter","beat","chain"] (am L4):=⟨rfl,rfl,rfl,by decide +kernel,rfl,by decide +kernel,by decide +kernel⟩
def EY(C:Addr):Sp:=fun vs H Q _=>∃ (p a SA LA Z:Addr) (bx bz:List Addr) (m L:Nat) (ss ls:Nat->List (Option Nat)) (hs zs ns:List Int) (j c n:Nat) (g:Nat->List Nat) (Lp:Addr->Prop),vs=[.ref p,.ref a,.ref SA,.ref LA,.int j,.int c,.ref Z]/\H a=some (.tup (HV hs))/\hs.length=m/\cI H SA LA bx bz m L ss ls/\iE n g hs L ss ls ns/\H Z=some (.lst (HV zs))/\j<m/\
 cS C H Lp p n (bb n g)/\jW hs m L ss ls j c zs=true/\∀ (b:Bool) (H':Hp),aE H H'->(∀d o e:Nat,zs.getD (zs.length-1) 0=(d:Int)->(ls c).getD j none=some o->hs.getD d 0=(e:Int)->b=decide (zs.length<=far (bb n g) o e))->Q (.bl b) H'
theorem L7{f C:Addr}{fd:FuncData}(F:fR K "is_straight" "is_straight" L4 f fd)(B:Bl mg)(T:NT K mg C)(CH:b_ P w K mg base a9 5 "is_chain" ["homes","stands","log","letter","beat","thing"] pi)(MF:mH P w K mg base a9 5 C "far" ["self","one","other"] (dE.nV C)):
  bv P w K mg base a9 6 f fd ["net","homes","stands","log","letter","beat","chain"] (EY C):=by
 obtain⟨fF,fdF,mF,bF,GF⟩:=MF.ex;refine F.ok P2 (fun vs H Q E h=>?_) (fun dM A outer s H vs Q E hr h=>?_)
 .obtain⟨p,a,SA,LA,Z,bx,bz,m,L,ss,ls,hs,zs,ns,j,c,n,g,Lp,rfl,_⟩:=h;rfl
 .obtain⟨p,a,SA,LA,Z,bx,bz,m,L,ss,ls,hs,zs,ns,j,c,n,g,Lp,rfl,ha,hl,LG,R,hZ,hj,N,hc,q⟩:=h;refine⟨_,ah (bA (dW (dB (aD CH hr aP (aa (pv 1) (aa (pv 2) (aa (pv 3) (aa (pv 4) (aa (pv 5) (aa (pv 6) ag))))))))) dL aQ)
   (al (aF (cZ C1 (iU (pv 0) T.cl mF GF hr bF .nil aP (aa (au aU (au az (pv 3) (pv 5) (fun _ _=>rfl)) (pv 4) (fun _ _=>rfl)) (aa (au aU (pv 1) (au az (pv 6) (oh jJ aq) (fun _ _=>rfl)) (fun _ _=>rfl)) ag)))
    (aA aH (by rfl) B.len cG (aa (pv 6) ag)) (aL _)))),?_⟩
  refine⟨_,rfl,_,rfl,_,rfl,_,rfl,_,rfl,_,rfl,a,SA,LA,Z,bx,bz,m,L,ss,ls,hs,zs,j,c,rfl,ha,hl,LG,hZ,fun H1 s1=>⟨_,rfl,?_⟩⟩;rw[hc];refine lL ?_;obtain⟨d,o,h0,zd,AF,Ch⟩:=zw R hc;obtain⟨x,e,q1,q2,q3,q4,q5⟩:=Ch.hm;have fi:=N.i9;obtain⟨o',e1,t⟩:=R.goes Ch.cl Ch.s0;obtain rfl:o=o':=by rw[Ch.o0] at e1;exact aY e1
  have hon:=(fi.Cr t).2.1;have hen:=(fi.Cr q4).2.1;have Sy:=LG.same s1;obtain⟨g1,g2,g3,g4,g5,g6⟩:=Sy;have YG:(ls c).length=m:=by rw[(g6 c Ch.cl).1];exact g5 c (dI Ch.cl)
  have N1:=N.same s1;obtain⟨dx,tl,ol,ds,hn,_⟩:=N1.ob;have wW:fu (SV (ls c)) (j:Int)=some (.int (o:Int)):=by rw[dw (by lia),Ch.o0];rfl
  have at3:fu (HV hs) (zs.getD (zs.length-1) 0)=some (.int (e:Int)):=by rw[zd,hW (by have:=Ch.dm;lia),<-q3]
  refine⟨_,rfl,p,dx,_,rfl,hn,B3 _ _ _ _,_,rfl,_,rfl,LA,_,_,_,rfl,rfl,aT.of g2,eK (by rw[g4.1];exact Ch.cl),_,rfl,bz.getD c 0,_,_,_,rfl,rfl,cx.of (g4.2 c Ch.cl),wW,
   _,rfl,_,rfl,_,rfl,Z,_,_,_,rfl,rfl,aT.of (s1 _ _ hZ),vi AF,a,_,_,_,rfl,rfl,cx.of (s1 _ _ ha),at3,Lp,p,n,bb n g,o,e,rfl,N1,hon,hen,?_⟩
  refine⟨_,rfl,Z,_,rfl,.inl (aT.of (s1 _ _ hZ)),_,_,rfl,rfl,q _ H1 s1 fun d' o2 e2 YH eo ee=>?_⟩;obtain rfl:d=d':=by rw[zd] at YH;exact dS YH
  obtain rfl:o=o2:=by rw[Ch.o0] at eo;exact aY eo
  obtain rfl:e=e2:=by rw[<-q3] at ee;exact dS ee
  rw[show (HV zs).length=zs.length from aN _];exact mX.mpr (by lia)
end
noncomputable def dH(n:Nat)(g:Nat->List Nat)(hs:List Int)(i h:Nat):Nat:=far (bb n g) h (hs.getD i 0).toNat
noncomputable def gN(n:Nat)(g:Nat->List Nat)(hs:List Int)(s l:List (Option Nat))(i:Nat):Bool:=match s.getD i none,l.getD i none with
 |some h,some o=>decide (dH n g hs i h<=dH n g hs i o)
 |_,_=>false
noncomputable def dz(n:Nat)(g:Nat->List Nat)(hs:List Int)(i h:Nat):List Nat:=(g h).filter fun o=>decide (dH n g hs i o<dH n g hs i h)
def NF(n:Nat)(g:Nat->List Nat)(hs:List Int)(s l:List (Option Nat)):Prop:=∀i h,s.getD i none=some h->gN n g hs s l i=true->∀o∈dz n g hs i h,∃j,s.getD j none=some h/\l.getD j none=some o/\dH n g hs j o<dH n g hs j h/\dH n g hs j h<=dH n g hs i h
def Sz(s l:List (Option Nat))(h o:Nat):Nat:=((List.range s.length).find? fun j=>decide (s.getD j none=some h)&&decide (l.getD j none=some o)).getD 0
theorem L8{g:Nat->List Nat}{s l:List (Option Nat)}{h o j:Nat}(Hd:c_ g s l)(e1:s.getD j none=some h)(e2:l.getD j none=some o):Sz s l h o=j:=by
 unfold Sz;cases e:(List.range s.length).find? fun j=>decide (s.getD j none=some h)&&decide (l.getD j none=some o) with
 |none=>
  have:=List.find?_eq_none.mp e j (bO.mpr (aR e1).1);rw[e1,e2] at this;simp at this
 |some k=>
  have:=List.find?_some e;rw[eM,e_,e_] at this;exact Hd.Sv k j h o this.1 e1 this.2 e2
noncomputable def jX(n:Nat)(g:Nat->List Nat)(hs:List Int)(ss ls:Nat->List (Option Nat))(b i:Nat):Nat:=if gN n g hs (ss b) (ls b) i=true then Sz (ss b) (ls b) (((ss b).getD i none).getD 0) ((dz n g hs i (((ss b).getD i none).getD 0)).headD 0) else i
def k9(hs:List Int)(l:List (Option Nat))(c:Nat):Bool:=match l.getD c none with
 |some o=>decide ((o:Int)=hs.getD c 0)
 |none=>false
def w6(hs:List Int)(ls:Nat->List (Option Nat))(nx:Nat->Nat->Nat):Nat->Nat->Nat->Option (List Nat)
 |0,_,_=>none
 |k+1,b,c=>if k9 hs (ls b) c=true then some [c] else (w6 hs ls nx k (b+1) (nx (b+1) c)).map (c::·)
noncomputable def AK(n:Nat)(g:Nat->List Nat)(hs:List Int)(L:Nat)(ss ls:Nat->List (Option Nat))(b i:Nat):Option (List Nat):=
 if b<L/\gN n g hs (ss b) (ls b) i=true then w6 hs ls (jX n g hs ss ls) (L-b) b (jX n g hs ss ls b i) else none
inductive mN (hs:List Int) (L:Nat) (ss ls:Nat->List (Option Nat)):Nat->Nat->List Nat->Nat->Prop where
 |last {b h c o:Nat} (hb:b<L) (e1:(ss b).getD c none=some h) (e2:(ls b).getD c none=some o) (e3:(o:Int)=hs.getD c 0):mN hs L ss ls b h [c] o
 |cons {b h c o e:Nat} {zs:List Nat} (hb:b<L) (e1:(ss b).getD c none=some h) (e2:(ls b).getD c none=some o) (r:mN hs L ss ls (b+1) o zs e):mN hs L ss ls b h (c::zs) e
abbrev IN(zs:List Nat):List Int:=zs.map fun (i:Nat)=>(i:Int)
theorem kA{zs:List Nat}{k:Nat}:(IN zs).getD k 0=((zs.getD k 0:Nat):Int):=by
 rw[bP,bP,bo];cases zs[k]? <;> rfl
theorem lX{m L:Nat}{ss ls:Nat->List (Option Nat)}{c:Int}{zs:List Int}:∀ {k b h:Nat},cT m L ss ls b h (c::zs) (k+1)=if fw m L ss c (b:Int) h=true then cT m L ss ls (b+1) (((ls b).getD c.toNat none).getD 0) zs k else none
 |0,b,h=>rfl
 |k+1,b,h=>by
  have ih:=lX (m:=m) (L:=L) (ss:=ss) (ls:=ls) (c:=c) (zs:=zs) (k:=k) (b:=b) (h:=h);rw[show cT m L ss ls b h (c::zs) (k+1+1)=(match cT m L ss ls b h (c::zs) (k+1) with
   |none=>none
   |some h=>if fw m L ss ((c::zs).getD (k+1) 0) ((b+(k+1):Nat):Int) h=true then some (((ls (b+(k+1))).getD ((c::zs).getD (k+1) 0).toNat none).getD 0) else none) from rfl,ih]
  by_cases e:fw m L ss c (b:Int) h=true
  .rw[ao e,ao e];rw[show cT m L ss ls (b+1) (((ls b).getD c.toNat none).getD 0) zs (k+1)=(match cT m L ss ls (b+1) (((ls b).getD c.toNat none).getD 0) zs k with
    |none=>none
    |some h=>if fw m L ss (zs.getD k 0) ((b+1+k:Nat):Int) h=true then some (((ls (b+1+k)).getD (zs.getD k 0).toNat none).getD 0) else none) from rfl,xS,show b+(k+1)=b+1+k by lia]
  .rw[ap e,ap e]
theorem mN.walk{hs:List Int}{m L:Nat}{ss ls:Nat->List (Option Nat)}{b h:Nat}{zs:List Nat}{e:Nat}(A:mN hs L ss ls b h zs e)(sl:∀b,b<=L->(ss b).length=m):cT m L ss ls b h (IN zs) zs.length=some e/\zs≠[]/\(∃d:Nat,zs.getD (zs.length-1) 0=d/\(e:Int)=hs.getD d 0):=by
 induction A with
 |@last b h c o hb e1 e2 e3=>
  have hc:c<m:=by rw[<-sl b (dI hb)];exact(aR e1).1
  refine⟨?_,by simp,c,rfl,e3⟩;show cT m L ss ls b h [(c:Int)] (0+1)=_;rw[lX,ao (AE hc hb e1),cM,e2];rfl
 |@cons b h c o e zs hb e1 e2 r ih=>
  obtain⟨w,ne,d,hd,he⟩:=ih;have hc:c<m:=by rw[<-sl b (dI hb)];exact(aR e1).1
  refine⟨?_,by simp,d,?_,he⟩
  .show cT m L ss ls b h ((c:Int)::IN zs) (zs.length+1)=_;rw[lX,ao (AE hc hb e1),cM,e2];exact w
  .rw[<-hd];have hz:0<zs.length:=pN.mpr ne;rw[cw,show zs.length+1-1=(zs.length-1)+1 by lia,xS]
theorem mN.chain{hs:List Int}{m L:Nat}{ss ls:Nat->List (Option Nat)}{b h i:Nat}{zs:List Nat}{e:Nat}(A:mN hs L ss ls b h zs e)(sl:∀b,b<=L->(ss b).length=m)(hb:b<L)(e1:(ss b).getD i none=some h)(ni:zs.headD 0≠i):jW hs m L ss ls i b (IN zs)=true:=by
 obtain⟨w,ne,d,hd,he⟩:=A.walk sl;have hi:i<m:=by rw[<-sl b (dI hb)];exact(aR e1).1
 unfold jW;rw[iw hi hb e1,cM,cM,e1,aN];show (true&&(!(IN zs).isEmpty&&(!decide ((IN zs).getD 0 0=(i:Int))&&EL hs (IN zs) (cT m L ss ls b h (IN zs) zs.length))))=true;rw[w];unfold EL;rw[aN,kA,kA,hd,cM];cases zs with
 |nil=>exact absurd rfl ne
 |cons c zs=>
  have n1:¬ ((c:Int)=(i:Int)):=fun z=>ni (dS z);simp only[cX,List.isEmpty_cons,yk,jB,List.getD_cons_zero,cE n1,bK he]
def fd(n i j:Nat):Nat:=if i<=j then j-i else j+n-i
def rd(n i j:Nat):Nat:=if fd n i j<=fd n j i then fd n i j else fd n j i
def sc(n i:Nat):Nat:=if i+1=n then 0 else i+1
structure Rg(n:Nat)(g:Nat->List Nat)(P:Nat->Nat):Prop where
 n3:3<=n
 lt:∀h,h<n->P h<n
 inj:∀h k,h<n->k<n->P h=P k->h=k
 on:∀k,k<n->∃h,h<n/\P h=k
 tie:∀h o,h<n->(o∈g h↔o<n/\(P o=sc n (P h)\/P h=sc n (P o)))
theorem cV{n i j:Nat}(hi:i<n)(hj:j<n):(i=j/\fd n i j=0/\fd n j i=0)\/(0<fd n i j/\0<fd n j i/\fd n i j+fd n j i=n):=by
 unfold fd;split <;> split <;> lia
theorem gq{n i j:Nat}(hi:i<n)(hj:j<n):(fd n i j+1<n/\fd n i (sc n j)=fd n i j+1)\/(fd n i j+1=n/\fd n i (sc n j)=0):=by
 unfold fd sc;split <;> split <;> split <;> lia
theorem lY(n i j:Nat):(fd n i j<=fd n j i/\rd n i j=fd n i j)\/(fd n j i<fd n i j/\rd n i j=fd n j i):=by
 unfold rd;split <;> lia
theorem JN{n j:Nat}(hj:j<n):sc n j<n:=by
 unfold sc;split <;> lia
theorem P3{n j:Nat}(hj:j<n):∃k,k<n/\sc n k=j:=by
 unfold sc;by_cases c:j=0
 .exact⟨n-1,by lia,by rw[ao (by lia),c]⟩
 .exact⟨j-1,by lia,by rw[ap (by lia)];lia⟩
theorem L9{n j k:Nat}(hj:j<n)(hk:k<n)(h:sc n j=sc n k):j=k:=by
 unfold sc at h;split at h <;> split at h <;> lia
theorem HR{n i j k:Nat}(n3:3<=n)(hi:i<n)(hj:j<n)(hk:k<n)(h:k=sc n j\/j=sc n k):rd n i k<=rd n i j+1:=by
 have a1:=cV hi hj;have a2:=cV hi hk;have a3:=lY n i j;have a4:=lY n i k;rcases h with rfl|rfl
 .have a5:=gq hi hj;lia
 .have a5:=gq hi hk;lia
theorem HS{n i j d:Nat}(n3:3<=n)(hi:i<n)(hj:j<n)(h:rd n i j=d+1):∃k,k<n/\rd n i k=d/\(j=sc n k\/k=sc n j):=by
 have a1:=cV hi hj;rcases lY n i j with ⟨c,e⟩|⟨c,e⟩
 .obtain⟨k,hk,rfl⟩:=P3 hj;refine⟨k,hk,?_,.inl rfl⟩;have a2:=cV hi hk;have a4:=lY n i k;have a5:=gq hi hk;lia
 .refine⟨sc n j,JN hj,?_,.inr rfl⟩;have a2:=cV hi (JN hj);have a4:=lY n i (sc n j);have a5:=gq hi hj;lia
theorem gO{n:Nat}{g:Nat->List Nat}{P:Nat->Nat}(R:Rg n g P)(F:eJ n (bb n g)){a b:Nat}(ha:a<n)(hb:b<n):far (bb n g) a b=rd n (P a) (P b):=by
 have n3:=R.n3;have le:∀k b,b<n->dk (bb n g) k a b->rd n (P a) (P b)<=k:=by
  intro k;induction k with
  |zero=>
   intro b hb w;obtain rfl:a=b:=w;have:=R.lt a ha;unfold rd fd;split <;> split <;> lia
  |succ k ih=>
   rintro b hb ⟨c,w,t⟩;obtain⟨hc,hm⟩:=wX.mp t;have:=ih c hc w;have:=HR n3 (R.lt a ha) (R.lt c hc) (R.lt b hb) ((R.tie c b hc).mp hm).2;lia
 have ge:∀d b,b<n->rd n (P a) (P b)=d->dk (bb n g) d a b:=by
  intro d;induction d with
  |zero=>
   intro b hb e;refine R.inj a b ha hb ?_;have:=R.lt a ha;have:=R.lt b hb;unfold rd fd at e;split at e <;> split at e <;> lia
  |succ d ih=>
   intro b hb e;obtain⟨k,hk,e1,t⟩:=HS n3 (R.lt a ha) (R.lt b hb) e;obtain⟨c,hc,rfl⟩:=R.on k hk;exact⟨c,ih c hc e1,wX.mpr ⟨hc,(R.tie c b hc).mpr ⟨hb,t⟩⟩⟩
 exact qL ⟨ge _ b hb rfl,fun k w=>le k b hb w⟩
def W(n:Nat)(d:Bool)(i j:Nat):Nat:=if d=true then fd n i j else fd n j i
def Sd(n:Nat)(d:Bool)(i j:Nat):Prop:=if d=true then j=sc n i else i=sc n j
theorem VA{n i j:Nat}{d:Bool}(hi:i<n)(hj:j<n)(h:2*W n d i j<n):rd n i j=W n d i j:=by
 have a1:=cV hi hj;have a3:=lY n i j;cases d
 .show rd n i j=fd n j i;have h:2*fd n j i<n:=h;lia
 .show rd n i j=fd n i j;have h:2*fd n i j<n:=h;lia
theorem EZ{n i j k:Nat}{d:Bool}(n3:3<=n)(hi:i<n)(hj:j<n)(hk:k<n)(s:Sd n d i k)(h:0<W n d i j):W n d i j=W n d k j+1:=by
 have a1:=cV hi hj;have a2:=cV hk hj;cases d
 .show fd n j i=fd n j k+1;have h:0<fd n j i:=h;obtain rfl:i=sc n k:=s;have a5:=gq hj hk;lia
 .show fd n i j=fd n k j+1;have h:0<fd n i j:=h;obtain rfl:k=sc n i:=s;have a5:=gq hj hi;lia
theorem JO{n i j k:Nat}{d:Bool}(n3:3<=n)(hi:i<n)(hj:j<n)(hk:k<n)(t:k=sc n i\/i=sc n k)(h:2*W n d i j<n)(c:rd n k j<rd n i j):Sd n d i k:=by
 have a1:=cV hi hj;have a2:=cV hk hj;have a3:=lY n i j;have a4:=lY n k j;cases d
 .have h:2*fd n j i<n:=h;rcases t with rfl|t
  .have a5:=gq hj hi;lia
  .exact t
 .have h:2*fd n i j<n:=h;rcases t with t|rfl
  .exact t
  .have a5:=gq hj hk;lia
theorem P4{n i j k:Nat}{d:Bool}(n3:3<=n)(hi:i<n)(hj:j<n)(hk:k<n)(s:Sd n d i k)(c:rd n k j<rd n i j)(h:2*rd n i j<n):W n d i j=rd n i j:=by
 have a1:=cV hi hj;have a2:=cV hk hj;have a3:=lY n i j;have a4:=lY n k j;cases d
 .show fd n j i=rd n i j;obtain rfl:i=sc n k:=s;have a5:=gq hj hk;lia
 .show fd n i j=rd n i j;obtain rfl:k=sc n i:=s;have a5:=gq hj hi;lia
theorem L_{n i j k:Nat}(n3:3<=n)(hi:i<n)(hj:j<n)(hk:k<n)(t:k=sc n i)(h:n<=2*rd n i j):rd n k j<rd n i j:=by
 have a1:=cV hi hj;have a3:=lY n i j;have a2:=cV hk hj;have a4:=lY n k j;have a5:=gq hj hi;rw[<-t] at a5;clear t;lia
theorem Ma{n i j k:Nat}(n3:3<=n)(hi:i<n)(hj:j<n)(hk:k<n)(t:i=sc n k)(h:n<=2*rd n i j):rd n k j<rd n i j:=by
 have a1:=cV hi hj;have a3:=lY n i j;have a2:=cV hk hj;have a4:=lY n k j;have a5:=gq hj hk;rw[<-t] at a5;clear t;lia
theorem VB{n i j k l:Nat}(n3:3<=n)(hi:i<n)(hj:j<n)(hk:k<n)(hl:l<n)(t:k=sc n i\/i=sc n k)(u:l=sc n i\/i=sc n l)(c:rd n k j<rd n i j)(e:¬ rd n l j<rd n i j):2*rd n i j<n/\∃d,Sd n d i k/\Sd n (!d) i l:=by
 rcases t with t|t
 .rcases u with u|u
  .exact absurd c (by rw[t,<-u];exact e)
  .exact⟨tW fun z=>e (Ma n3 hi hj hl u z),true,t,u⟩
 .rcases u with u|u
  .exact⟨tW fun z=>e (L_ n3 hi hj hl u z),false,t,u⟩
  .refine absurd c ?_;rw[L9 hk hl (t.symm.trans u)];exact e
theorem back{n i l e:Nat}{d:Bool}(n3:3<=n)(hi:i<n)(hl:l<n)(he:e<n)(s:Sd n (!d) i l)(h:2*W n d i e<n):W n d i e<=rd n l e:=by
 have a1:=cV hi he;have a2:=cV hl he;have a4:=lY n l e;cases d
 .show fd n e i<=rd n l e;have h:2*fd n e i<n:=h;obtain rfl:l=sc n i:=s;have a5:=gq he hi;lia
 .show fd n i e<=rd n l e;have h:2*fd n i e<n:=h;obtain rfl:i=sc n l:=s;have a5:=gq he hl;lia
theorem HU{n i k e:Nat}{d:Bool}(n3:3<=n)(hi:i<n)(hk:k<n)(he:e<n)(s:Sd n d i k)(y:W n d i e=0):W n d k e+1=n:=by
 have a1:=cV hi he;cases d
 .show fd n e k+1=n;have y:fd n e i=0:=y;obtain rfl:i=e:=by lia
  obtain rfl:i=sc n k:=s;have a2:fd n k k=0:=by unfold fd;rw[ao (aZ k),Nat.sub_self]
  have a5:=gq hk hk;have a6:=cV hk hi;lia
 .show fd n k e+1=n;have y:fd n i e=0:=y;obtain rfl:i=e:=by lia
  obtain rfl:k=sc n i:=s;have a2:fd n i i=0:=by unfold fd;rw[ao (aZ i),Nat.sub_self]
  have a5:=gq hi hi;have a6:=cV hi hk;lia
section
variable {n:Nat} {g:Nat->List Nat} {hs ns:List Int} {m L:Nat} {ss ls:Nat->List (Option Nat)} {P:Nat->Nat}
structure gx(n:Nat)(g:Nat->List Nat)(hs:List Int)(L:Nat)(ss ls:Nat->List (Option Nat))(ns:List Int):Prop where
 r:iE n g hs L ss ls ns
 nf:∀b,b<L->NF n g hs (ss b) (ls b)
 hm:∀h∈hs,0<=h/\h<n
 off:∀b,b<=L->∀i h,(ss b).getD i none=some h->hs.getD i 0≠(h:Int)
 sl:∀b,b<=L->(ss b).length=hs.length
theorem gx.home(N:gx n g hs L ss ls ns){b i h:Nat}(hb:b<=L)(e:(ss b).getD i none=some h):∃k:Nat,k<n/\hs.getD i 0=(k:Int)/\(hs.getD i 0).toNat=k/\k≠h/\h<n/\i<hs.length:=by
 have hi:i<hs.length:=by rw[<-N.sl b hb];exact(aR e).1
 have mm:hs.getD i 0∈hs:=by rw[bP,cm hi];exact jg _
 obtain⟨a,c⟩:=N.hm _ mm;have o:=N.off b hb i h e;refine⟨(hs.getD i 0).toNat,by lia,by lia,rfl,by lia,N.r.lt b hb i h e,hi⟩
theorem iF{i h o:Nat}:o∈dz n g hs i h↔o∈g h/\dH n g hs i o<dH n g hs i h:=by
 unfold dz;rw[bX,e_]
theorem zy(F:eJ n (bb n g)){i h:Nat}(hh:h<n)(hk:(hs.getD i 0).toNat<n)(ne:(hs.getD i 0).toNat≠h):∃o l,dz n g hs i h=o::l:=by
 have fs:=F.G5 hh hk;cases e:dH n g hs i h with
 |zero=>
  unfold dH at e;rw[e] at fs;exact absurd fs.1.symm ne
 |succ d=>
  unfold dH at e;rw[e] at fs;obtain⟨b,t,w⟩:=dk.DS fs.1;have tl:=F.Cr t;have:=F.y8 tl.2.1 hk w;have mb:b∈dz n g hs i h:=iF.mpr ⟨(wX.mp t).2,by unfold dH;rw[e];lia⟩;cases z:dz n g hs i h with
  |nil=>rw[z] at mb;cases mb
  |cons o l=>exact⟨o,l,rfl⟩
theorem jY{s l:List (Option Nat)}{i h o:Nat}(e1:s.getD i none=some h)(e2:l.getD i none=some o):gN n g hs s l i=decide (dH n g hs i h<=dH n g hs i o):=by
 unfold gN;rw[e1,e2]
theorem sZ{s l:List (Option Nat)}{i:Nat}(h:gN n g hs s l i=true):∃x o,s.getD i none=some x/\l.getD i none=some o:=by
 unfold gN at h;cases e1:s.getD i none with
 |none=>rw[e1] at h;cases h
 |some x=>
  cases e2:l.getD i none with
  |none=>rw[e1,e2] at h;cases h
  |some o=>exact⟨x,o,rfl,rfl⟩
theorem gx.taker(N:gx n g hs L ss ls ns)(F:eJ n (bb n g)){b i:Nat}(hb:b<L)(led:gN n g hs (ss b) (ls b) i=true):
  ∃h o' o l j,(ss b).getD i none=some h/\(ls b).getD i none=some o'/\o'∈g h/\h<n/\dz n g hs i h=o::l/\jX n g hs ss ls b i=j/\(ss b).getD j none=some h/\(ls b).getD j none=some o/\o∈g h/\dH n g hs i o<dH n g hs i h/\¬ dH n g hs i o'<dH n g hs i h/\dH n g hs j o<dH n g hs j h/\dH n g hs j h<=dH n g hs i h:=by
 obtain⟨h,o',e1,e2⟩:=sZ led;obtain⟨k,k1,k2,k3,k4,k5,_⟩:=N.home (dI hb) e1;obtain⟨o,l,eg⟩:=zy F (hs:=hs) (i:=i) k5 (by rw[k3];exact k1) (by rw[k3];exact k4);have mo:o∈dz n g hs i h:=by rw[eg];exact b9
 obtain⟨j,j1,j2,j3,j4⟩:=N.nf b hb i h e1 led o mo;obtain⟨o2,e3,m2⟩:=(N.r.tie b hb).tie i h e1;rw[e2] at e3;cases e3;refine⟨h,o',o,l,j,e1,e2,m2,k5,eg,?_,j1,j2,(iF.mp mo).1,(iF.mp mo).2,?_,j3,j4⟩
 .unfold jX;rw[ao led,e1];show Sz (ss b) (ls b) h ((dz n g hs i h).headD 0)=j;rw[eg];exact L8 (N.r.tie b hb) j1 j2
 .rw[jY e1 e2,e_] at led;lia
theorem gx.next(N:gx n g hs L ss ls ns){b c h o:Nat}(hb:b<L)(e1:(ss b).getD c none=some h)(e2:(ls b).getD c none=some o)(nh:k9 hs (ls b) c≠true):(ss (b+1)).getD c none=some o:=by
 have:=N.r.next b hb c (by rw[e1];intro z;cases z);rw[this,e2];unfold k9 at nh;rw[e2] at nh;have nh':¬ ((o:Int)=hs.getD c 0):=fun z=>nh (bK z);exact ap nh'
theorem zz(N:gx n g hs L ss ls ns)(F:eJ n (bb n g))(R:Rg n g P)(d:Bool):∀ (k b c h o q:Nat) (zs:List Nat),k=L-b->b<L->(ss b).getD c none=some h->(ls b).getD c none=some o->o∈g h->hs.getD c 0=(q:Int)->2*W n d (P h) (P q)<n->Sd n d (P h) (P o)->
  w6 hs ls (jX n g hs ss ls) k b c=some zs->∃e:Nat,e<n/\mN hs L ss ls b h zs e/\W n d (P h) (P e)=zs.length/\zs.length<=W n d (P h) (P q)/\zs.headD 0=c:=by
 intro k;induction k with
 |zero=>intro b c h o q zs _ _ _ _ _ _ _ _ z;cases z
 |succ k ih=>
  intro b c h o q zs hk hb e1 e2 mo eq w st z;have n3:=R.n3;obtain⟨q',q1,q2,q3,q4,hn,hc⟩:=N.home (dI hb) e1;obtain rfl:q=q':=by rw[eq] at q2;exact dS q2
  obtain⟨on,ot⟩:=(R.tie h o hn).mp mo;have Ph:=R.lt h hn;have Po:=R.lt o on;have Pq:=R.lt q q1;have w0:0<W n d (P h) (P q):=by
   refine xV fun y=>q4 (R.inj q h q1 hn ?_);unfold W fd at y
   grind
  have ws:=EZ n3 Ph Pq Po st w0;have P5:∀x,x<n->dH n g hs c x=rd n (P x) (P q):=fun x hx=>by unfold dH;rw[q3];exact gO R F hx q1
  unfold w6 at z;by_cases hm:k9 hs (ls b) c=true
  .rw[ao hm] at z;cases z;unfold k9 at hm;rw[e2] at hm;have VC:(o:Int)=hs.getD c 0:=bV hm;obtain rfl:o=q:=by rw[eq] at VC;exact dS VC
   refine⟨o,on,.last hb e1 e2 VC,?_,w0,rfl⟩;rw[ws];show W n d (P o) (P o)+1=1;unfold W fd
   grind
  .rw[ap hm] at z;obtain⟨lT,z',rfl⟩:=pA.mp z;have Nw:b+1<L:=by
    refine tW fun y=>?_;rw[show k=0 by lia] at z';cases z'
   have e3:=N.next hb e1 e2 hm;have w1:2*W n d (P o) (P q)<n:=by lia
   have fin:∀c' o2 q2:Nat,jX n g hs ss ls (b+1) c=c'->(ss (b+1)).getD c' none=some o->(ls (b+1)).getD c' none=some o2->o2∈g o->hs.getD c' 0=(q2:Int)->W n d (P o) (P q2)<=W n d (P o) (P q)->Sd n d (P o) (P o2)->
     ∃e:Nat,e<n/\mN hs L ss ls b h (c::lT) e/\W n d (P h) (P e)=(c::lT).length/\(c::lT).length<=W n d (P h) (P q)/\(c::lT).headD 0=c:=by
    intro c' o2 q2 x1 x2 x3 x4 x5 x6 x7;rw[x1] at z';obtain⟨e,a1,a2,a3,a4,_⟩:=ih (b+1) c' o o2 q2 lT (by lia) Nw x2 x3 x4 x5 (by lia) x7 z';refine⟨e,a1,.cons hb e1 e2 a2,?_,?_,rfl⟩
    .rw[cw,<-a3];refine EZ n3 Ph (R.lt e a1) Po st ?_;refine xV fun y=>?_;have Pe:=R.lt e a1;have lz:lT.length<=W n d (P o) (P q):=br a4 x6;rw[<-a3] at lz;have:=HU n3 Ph Po Pe st y;lia
    .rw[cw];lia
   by_cases led:gN n g hs (ss (b+1)) (ls (b+1)) c=true
   .obtain⟨h',o',o2,l,j,f1,f2,f3,f4,f5,f6,f7,f8,f9,NH,SB,P6,VD⟩:=N.taker F Nw led;obtain rfl:o=h':=by rw[e3] at f1;exact aY f1
    obtain⟨qj,j1,j2,j3,j4,_,_⟩:=N.home (dI Nw) f7;obtain⟨NI,VE⟩:=(R.tie o o2 on).mp f9;have SC:=R.lt o2 NI;have Pqj:=R.lt qj j1;rw[P5 _ NI,P5 _ on] at NH;have gU:=JO n3 Po Pq SC VE w1 NH;have Mb:∀x,x<n->dH n g hs j x=rd n (P x) (P qj):=fun x hx=>by unfold dH;rw[j3];exact gO R F hx j1
    rw[Mb _ NI,Mb _ on] at P6;rw[Mb _ on,P5 _ on] at VD;have er:=VA Po Pq w1;have ew:=P4 n3 Po Pqj SC gU P6 (by lia);exact fin j o2 qj f6 f7 f8 f9 j2 (by lia) gU
   .obtain⟨o2,f1,f2⟩:=(N.r.tie (b+1) Nw).tie c o e3;obtain⟨NI,VE⟩:=(R.tie o o2 on).mp f2;have SC:=R.lt o2 NI;have nl:=led;rw[jY e3 f1,e_,P5 _ NI,P5 _ on] at nl;have gU:=JO n3 Po Pq SC VE w1 (by lia);exact fin c o2 q (by unfold jX;rw[ap led]) e3 f1 f2 eq (aZ _) gU
theorem AL(N:gx n g hs L ss ls ns)(F:eJ n (bb n g))(R:Rg n g P){b i:Nat}{zs:List Nat}(z:AK n g hs L ss ls b i=some zs):
  ∃ (h o' e d q c:Nat),b<L/\i<hs.length/\(ss b).getD i none=some h/\(ls b).getD i none=some o'/\h<n/\o'<n/\e<n/\jW hs hs.length L ss ls i b (IN zs)=true/\zs.getD (zs.length-1) 0=d/\d<hs.length/\hs.getD d 0=(e:Int)/\zs.length<=far (bb n g) o' e/\
   zs.getD 0 0=c/\c<hs.length/\hs.getD c 0=(q:Int)/\q<n/\zs.length<=far (bb n g) h q/\zs≠[]:=by
 unfold AK at z;by_cases c0:b<L/\gN n g hs (ss b) (ls b) i=true
 rotate_left
 .rw[ap c0] at z;cases z
 rw[ao c0] at z;obtain⟨hb,led⟩:=c0;have n3:=R.n3;obtain⟨h,o',o,l,j,f1,f2,f3,f4,f5,f6,f7,f8,f9,NH,SB,P6,VD⟩:=N.taker F hb led;obtain⟨qi,i1,i2,i3,i4,_,il⟩:=N.home (dI hb) f1;obtain⟨qj,j1,j2,j3,j4,_,jl⟩:=N.home (dI hb) f7;obtain⟨on,ot⟩:=(R.tie h o f4).mp f9;obtain⟨SD,ot'⟩:=(R.tie h o' f4).mp f3;have Ph:=R.lt h f4;have Po:=R.lt o on;have YI:=R.lt o' SD;have P7:∀x,x<n->dH n g hs i x=rd n (P x) (P qi):=fun x hx=>by unfold dH;rw[i3];exact gO R F hx i1
 have Mb:∀x,x<n->dH n g hs j x=rd n (P x) (P qj):=fun x hx=>by unfold dH;rw[j3];exact gO R F hx j1
 rw[P7 _ on,P7 _ f4] at NH;rw[P7 _ SD,P7 _ f4] at SB;rw[Mb _ on,Mb _ f4] at P6;rw[Mb _ f4,P7 _ f4] at VD;obtain⟨hf,d,s1,s2⟩:=VB n3 Ph (R.lt qi i1) Po YI ot ot' NH SB;have ew:=P4 n3 Ph (R.lt qj j1) Po s1 P6 (by lia);rw[f6] at z;obtain⟨e,a1,a2,a3,a4,a5⟩:=zz N F R d (L-b) b j h o qj zs rfl hb f7 f8 f9 j2 (by lia) s1 z;have YJ:j≠i:=by
  rintro rfl;rw[f2] at f8;cases f8;exact SB NH
 obtain⟨w,ne,dd,hd,he⟩:=a2.walk (m:=hs.length) N.sl;have lz:0<zs.length:=pN.mpr ne;refine⟨h,o',e,dd,qj,j,hb,il,f1,f2,f4,SD,a1,a2.chain N.sl hb f1 (by rw[a5];exact YJ),hd,?_,he.symm,?_,?_,jl,j2,j1,?_,ne⟩
 .refine tW fun y=>?_;have ch:=a2.chain (m:=hs.length) N.sl hb f1 (by rw[a5];exact YJ);obtain⟨d2,o2,h2,zd,AF,Ch⟩:=zw N.r ch;rw[aN,kA,hd] at zd;have:=Ch.dm;have:=dS zd;lia
 .rw[gO R F SD a1,<-a3];exact back n3 Ph YI (R.lt e a1) s2 (by lia)
 .cases zs with
  |nil=>exact absurd rfl ne
  |cons c zs=>exact a5
 .rw[gO R F f4 j1,<-ew];exact a4
end
abbrev Mc:Stmt:=gy 46
abbrev VF:Stmt:=gy 47
abbrev VG:Stmt:=gy 49
theorem AM{β:Type}{K:PySem.W.Frag}{a D:Addr}{g:TG}{tt:TT}{te:TE}{fin:Hp->Prop}{σB:St}{H0:Hp}(ms:List β)(e G:β->V)(dv:St->Prop)(ha:H0 a=some (.lst (ms.map e)))(hD:H0 D=none)(hn:ms.length<=1000)(h0:dv σB)(hs:∀m σ H (R:V->St->Hp->Prop) (Kf:St->Hp->Prop),m∈ms->dv σ->aE H0 H->(∀σ2 H2,dv σ2->aE H H2->R (G m) σ2 H2)->
   g (e m) σ H fun σ2 H2=>tt σ2 H2 fun b H3=>if b=true then te σ2 H3 fun v H4=>R v σ2 H4 else Kf σ2 H3)(hd:∀H,aE H0 H->H D=some (.lst (ms.map G))->fin H):g8 (CY K a) g tt te D fin σB (upd H0 D (.lst [])):=by
 refine eY (xs:=ms.map e) (fun i ys σ H=>dv σ/\aE H0 H/\H D=some (.lst ys)/\ys=(ms.take i).map G) ⟨h0,aj hD,af,rfl⟩ (fun i ys σ H _ z=>aT.of (z.2.1 _ _ ha)) ?_ ?_
 .rintro i x ys σ H Kt Kf hx ⟨sh,sm,nU,rfl⟩ kt kf;rw[bo] at hx;cases hz:ms[i]? with
  |none=>rw[hz] at hx;cases hx
  |some m=>
   rw[hz] at hx;obtain rfl:e m=x:=aY hx;refine hs m σ H Kt Kf (dQ hz) sh sm (fun σ2 H2 B1 s2=>?_);refine kt _ _ _ (s2 _ _ nU) ?_ ⟨B1,dE.bE (sm.trans s2) hD,af,?_⟩
   .rw[aN];exact gh (List.length_take_le' _ _) (gh hn (by decide))
   .rw[iq,hz,Option.toList_some,cD];rfl
 .rintro ys σ H ⟨_,sm,nU,rfl⟩;rw[aN,gA] at nU;exact hd H sm nU
theorem vo{K:PySem.W.Frag}{a D:Addr}{os:List Nat}{g:TG}{tt:TT}{te:TE}{fin:Hp->Prop}{σB:St}{H0:Hp}(c:Nat->Bool)(dv:St->Prop)(ha:H0 a=some (.lst (NV os)))(hD:H0 D=none)(hn:os.length<=1000)(h0:dv σB)(hs:∀x σ H (Kt:V->St->Hp->Prop) (Kf:St->Hp->Prop),x∈os->dv σ->aE H0 H->(∀σ2 H2,dv σ2->aE H H2->c x=true->Kt (.int (x:Nat)) σ2 H2)->(∀σ2 H2,dv σ2->aE H H2->c x=false->Kf σ2 H2)->
   g (.int (x:Nat)) σ H fun σ2 H2=>tt σ2 H2 fun b H3=>if b=true then te σ2 H3 fun v H4=>Kt v σ2 H4 else Kf σ2 H3)(hd:∀H,aE H0 H->H D=some (.lst (NV (os.filter c)))->fin H):g8 (CY K a) g tt te D fin σB (upd H0 D (.lst [])):=by
 refine eY (xs:=NV os) (fun i ys σ H=>dv σ/\aE H0 H/\H D=some (.lst ys)/\ys=NV ((os.take i).filter c)) ⟨h0,aj hD,af,rfl⟩ (fun i ys σ H _ z=>aT.of (z.2.1 _ _ ha)) ?_ ?_
 .rintro i x ys σ H Kt Kf hx ⟨sh,sm,nU,rfl⟩ kt kf;obtain⟨y,hy,rfl⟩:=ET hx;have tk:os.take (i+1)=os.take i++[y]:=by rw[iq,hy];rfl
  refine hs y σ H Kt Kf (dQ hy) sh sm (fun σ2 H2 B1 s2 e=>?_) (fun σ2 H2 B1 s2 e=>?_)
  .refine kt _ _ _ (s2 _ _ nU) ?_ ⟨B1,dE.bE (sm.trans s2) hD,af,?_⟩
   .rw[aN];exact gh (br (n9 _ _) (List.length_take_le' _ _)) (gh hn (by decide))
   .rw[tk,jt,show [y].filter c=[y] by simp[jv,e],gL]
  .refine kf _ _ ⟨B1,sm.trans s2,s2 _ _ nU,?_⟩;rw[tk,jt,show [y].filter c=[] by simp[jv,e],m5]
 .rintro ys σ H ⟨_,sm,nU,rfl⟩;rw[show (NV os).length=os.length from aN _,gA] at nU;exact hd H sm nU
theorem w9{K:PySem.W.Frag}{a D:Addr}{xs:List V}{g:TG}{tt:TT}{te:TE}{fin:Hp->Prop}{σB:St}{H0:Hp}(c:Nat->Bool)(dv:St->Prop)(ha:H0 a=some (.tup xs))(hD:H0 D=none)(hn:xs.length<=1000)(h0:dv σB)(hs:∀ (i:Nat) x t σ H (Kt:V->St->Hp->Prop) (Kf:St->Hp->Prop),xs[i]?=some x->dv σ->aE H0 H->H t=some (.tup [.int (i:Int),x])->(∀σ2 H2,dv σ2->aE H H2->c i=true->Kt (.int (i:Nat)) σ2 H2)->(∀σ2 H2,dv σ2->aE H H2->c i=false->Kf σ2 H2)->
   g (.ref t) σ H fun σ2 H2=>tt σ2 H2 fun b H3=>if b=true then te σ2 H3 fun v H4=>Kt v σ2 H4 else Kf σ2 H3)(hd:∀H,aE H0 H->H D=some (.lst (NV ((List.range xs.length).filter c)))->fin H):g8 (GK K a) g tt te D fin σB (upd H0 D (.lst [])):=by
 refine qy (xs:=xs) (fun i ys σ H=>dv σ/\aE H0 H/\H D=some (.lst ys)/\ys=NV ((List.range i).filter c)) ⟨h0,aj hD,af,rfl⟩ (fun i ys σ H _ z=>cx.of (z.2.1 _ _ ha)) ?_ ?_
 .rintro i x t ys σ H Kt Kf hx ⟨sh,sm,nU,rfl⟩ ht kt kf;have st:=aj (o:=.tup [.int (i:Int),x]) ht;have hi:i<xs.length:=(cK.mp hx).1;refine hs i x t σ _ Kt Kf hx sh (sm.trans st) af (fun σ2 H2 B1 s2 e=>?_) (fun σ2 H2 B1 s2 e=>?_)
  .refine kt _ _ _ (s2 _ _ (st _ _ nU)) ?_ ⟨B1,dE.bE ((sm.trans st).trans s2) hD,af,?_⟩
   .rw[aN];exact gh (br (n9 _ _) (by rw[fL];exact dI hi)) (gh hn (by decide))
   .rw[jz,jt,show [i].filter c=[i] by simp[jv,e],gL]
  .refine kf _ _ ⟨B1,(sm.trans st).trans s2,s2 _ _ (st _ _ nU),?_⟩;rw[jz,jt,show [i].filter c=[] by simp[jv,e],m5]
 .rintro ys σ H ⟨_,sm,nU,rfl⟩;exact hd H sm nU
theorem fW:(["_law_other","_law_fars_here","_law_home","_law_house"]:List Str).Nodup:=by decide +kernel
theorem dJ:(["_law_j","_law_here","_law_stand","_law_i","_law_gone","_law_house"]:List Str).Nodup:=by decide +kernel
theorem vp{a b:Option Nat}:decide (jq a=jq b)=decide (a=b):=by
 rw[l_,e_,e_];exact⟨Hy,fun z=>by rw[z]⟩
theorem mO{n:Nat}{hs:List Int}(hm:∀h∈hs,0<=h/\h<n){i:Nat}(hi:i<hs.length):∃k:Nat,k<n/\hs.getD i 0=(k:Int)/\(hs.getD i 0).toNat=k:=by
 have mm:hs.getD i 0∈hs:=by rw[bP,cm hi];exact jg _
 obtain⟨a,c⟩:=hm _ mm;exact⟨(hs.getD i 0).toNat,by lia,by lia,rfl⟩
section
variable {P:Program} {w:World} {K:PySem.W.Frag} {mg:Str->Option Value} {base:Heap}
theorem JP:aG ["_law_fars_here","_law_homes","_law_stand","_law_gone","_law_i","_law_far_here"] ["_law_fars_here","_law_homes","_law_stand","_law_gone","_law_i"] (am Mc):=⟨rfl,rfl,rfl,by decide +kernel,rfl,by decide +kernel,by decide +kernel⟩
def E2:Sp:=fun vs H Q _=>∃ (r a S G:Addr) (ds:List Addr) (n:Nat) (g:Nat->List Nat) (hs:List Int) (s l:List (Option Nat)) (i:Nat),vs=[.ref r,.ref a,.ref S,.ref G,.int i]/\eW H r ds n g/\H a=some (.tup (HV hs))/\H S=some (.tup (SV s))/\H G=some (.tup (SV l))/\s.length=hs.length/\c_ g s l/\gf n g/\(∀i h,s.getD i none=some h->h<n)/\(∀h∈hs,0<=h/\h<n)/\i<hs.length/\Q (.bl (gN n g hs s l i)) H
theorem Md{f:Addr}{fd:FuncData}(F:fR K "_law_is_led" "_law_is_led" Mc f fd):bv P w K mg base a9 1 f fd ["_law_fars_here","_law_homes","_law_stand","_law_gone","_law_i"] E2:=by
 refine F.ok JP (fun vs H Q E h=>?_) (fun dM A outer s0 H vs Q E hr h=>?_)
 .obtain⟨r,a,S,G,ds,n,g,hs,s,l,i,rfl,_⟩:=h;rfl
 .obtain⟨r,a,S,G,ds,n,g,hs,s,l,i,rfl,FR,ha,hS,hG,sl,Hd,Gd,NJ,hm,hi,q⟩:=h;have mS:=hr.u (n:=1);refine⟨_,(ah (bA (PW.pt (oe (aM iT (au aU (pv 2) (pv 4) (fun _ _=>rfl)) ce (aL _)) (lI (aM eQ (au aU (pv 3) (pv 4) (fun _ _=>rfl)) (au aU (pv 2) (pv 4) (fun _ _=>rfl)) (aL _))))) (al (aF fP)) aQ)
   (ah (aO (i:=5) JP.nd rfl (Or.inl rfl) (bY mS (pv 0) (au aU (pv 1) (pv 4) (fun _ _=>rfl)) (fun _ _=>rfl)))
   (al (aF (cZ C1 (bY mS (pv 5) (au aU (pv 3) (pv 4) (fun _ _=>rfl)) (fun _ _=>rfl)) (bY mS (pv 5) (au aU (pv 2) (pv 4) (fun _ _=>rfl)) (fun _ _=>rfl)) (aL _)))))),?_⟩
  have kG:fu (SV s) (i:Int)=some (jq (s.getD i none)):=dw (by lia);have wW:fu (SV l) (i:Int)=some (jq (l.getD i none)):=dw (by rw[Hd.len];lia);refine⟨_,rfl,_,rfl,S,_,_,_,rfl,rfl,cx.of hS,kG,rfl,_,rfl,?_⟩;cases es:s.getD i none with
  |none=>
   refine bN (fun _=>?_) (fun e=>absurd (bK rfl) e);have e2:gN n g hs s l i=false:=by unfold gN;rw[es]
   rw[e2] at q;exact kY q
  |some h=>
   rw[es] at kG;obtain⟨o,eo,mo⟩:=Hd.tie i h es;rw[eo] at wW;have hn:=NJ i h es;obtain⟨on,one⟩:=Gd.lt h hn o mo;obtain⟨k,hk,ek,Cu⟩:=mO hm hi;refine bN (fun e=>absurd (bV e) (by intro z;cases z)) (fun _=>?_);refine⟨_,rfl,_,rfl,G,_,_,_,rfl,rfl,cx.of hG,wW,_,rfl,_,rfl,S,_,_,_,rfl,rfl,cx.of hS,kG,rfl,_,rfl,?_⟩;refine bN (fun e=>absurd (dS (V.int.inj (bV e))) one) (fun _=>?_);refine⟨_,rfl,_,rfl,_,rfl,a,_,_,_,rfl,rfl,cx.of ha,hW hi,r,_,rfl,by rw[ek];exact FR.get hk,?_⟩;refine⟨_,rfl,_,rfl,_,rfl,G,_,_,_,rfl,rfl,cx.of hG,wW,_,_,rfl,((FR.rows k hk).get on),_,rfl,_,rfl,_,rfl,S,_,_,_,rfl,rfl,cx.of hS,kG,_,_,rfl,((FR.rows k hk).get hn),_,_,rfl,rfl,?_⟩;rw[jY es eo] at q;unfold dH at q;rw[Cu] at q;have e3:decide (((far (bb n g) h k:Nat):Int)<=((far (bb n g) o k:Nat):Int))=decide (far (bb n g) h k<=far (bb n g) o k):=mX.mpr (by lia);show Q (V.bl (decide (((far (bb n g) h k:Nat):Int)<=((far (bb n g) o k:Nat):Int)))) H;rw[e3];exact q
theorem VH:aG ["_law_outs","_law_fars_here","_law_home","_law_house"] ["_law_outs","_law_fars_here","_law_home","_law_house"] (am VF):=⟨rfl,rfl,rfl,by decide +kernel,rfl,by decide +kernel,by decide +kernel⟩
def HW:Sp:=fun vs H Q _=>∃ (O r:Addr) (as ds:List Addr) (n:Nat) (g:Nat->List Nat) (k h:Nat),vs=[.ref O,.ref r,.int k,.int h]/\fq H O as n g/\eW H r ds n g/\gf n g/\k<n/\h<n/\∀ (D:Addr) (H':Hp),aE H H'->H D=none->H' D=some (.lst (NV ((g h).filter fun o=>decide (far (bb n g) o k<far (bb n g) h k))))->Q (.ref D) H'
theorem P8{f:Addr}{fd:FuncData}(F:fR K "_law_goods" "_law_goods" VF f fd):bv P w K mg base a9 1 f fd ["_law_outs","_law_fars_here","_law_home","_law_house"] HW:=by
 refine F.ok VH (fun vs H Q E h=>?_) (fun dM A outer s0 H vs Q E hr h=>?_)
 .obtain⟨O,r,as,ds,n,g,k,h,rfl,_⟩:=h;rfl
 .obtain⟨O,r,as,ds,n,g,k,h,rfl,OF,FR,Gd,hk,hh,q⟩:=h;have mS:=hr.u (n:=1);refine'⟨_,(al (aF ?c1)),?_⟩;case c1=>
   refine' cR (g:=(bD 0)) (tt:=(mh (mf (Co fun i j=>.bl (decide (i<j))) (oA (oA (be 1) (be 2)) (be 0)) (oA (oA (be 1) (be 2)) (be 3))))) (te:=(be 0)) (NB:=["_law_other","_law_fars_here","_law_home","_law_house"]) (src:=[none,some 1,some 2,some 3]) (cg (by kernel_rfl)) rfl (cf (bY mS (pv 0) (pv 3) (fun _ _=>rfl))) ?g ?t ?e;case g=>exact fun cl C s₃ H₃ fp=>(aB (i:=0) fW rfl (Or.inl rfl) (Or.inr rfl))
   case t=>exact fun cl C s₃ H₃ fp=>fh (aM qe (bY mS (bY mS (pv 1) (pv 2) (fun _ _=>rfl)) (pv 0) (fun _ _=>rfl)) (bY mS (bY mS (pv 1) (pv 2) (fun _ _=>rfl)) (pv 3) (fun _ _=>rfl)) (aL _))
   case e=>exact fun cl C s₃ H₃ fp=>(pv 0)
  refine⟨_,rfl,_,rfl,O,_,rfl,OF.get hh,_,rfl,⟨_,aT.of (OF.rows.2 h hh)⟩,fun D hD=>?_⟩;have l8:=Gd.le h hh;refine vo (os:=g h) (fun o=>decide (far (bb n g) o k<far (bb n g) h k)) (fun σ=>∃b,σ=[b,some (.ref r),some (.int (k:Int)),some (.int (h:Int))]) (OF.rows.2 h hh) hD (by lia) ⟨_,rfl⟩ ?_ ?_
  .rintro x σ H5 Kt Kf hx ⟨b',rfl⟩ sm kt kf;have FP:=FR.same sm;have xn:=(Gd.lt h hh x hx).1;refine⟨_,rfl,_,rfl,r,_,rfl,FP.get hk,_,rfl,_,_,rfl,(FP.rows k hk).get xn,_,rfl,_,rfl,r,_,rfl,FP.get hk,_,rfl,_,_,rfl,(FP.rows k hk).get hh,_,_,rfl,rfl,_,rfl,?_⟩;refine bN (fun c=>?_) (fun c=>?_)
   .exact⟨_,rfl,kt _ _ ⟨_,rfl⟩ (aE.refl _) (bK (by have:=bV c;lia))⟩
   .exact kf _ _ ⟨_,rfl⟩ (aE.refl _) (cE fun z=>c (bK (by lia)))
  .intro H5 sm SE;exact q D H5 sm hD SE
theorem VI:aG ["_law_stand","_law_gone","_law_i","_law_house"] ["_law_stand","_law_gone","_law_i","_law_house"] (am VG):=⟨rfl,rfl,rfl,by decide +kernel,rfl,by decide +kernel,by decide +kernel⟩
def Me:Sp:=fun vs H Q _=>∃ (S G:Addr) (g:Nat->List Nat) (s l:List (Option Nat)) (i h o j:Nat),vs=[.ref S,.ref G,.int i,.int o]/\H S=some (.tup (SV s))/\H G=some (.tup (SV l))/\s.length<=16/\c_ g s l/\s.getD i none=some h/\s.getD j none=some h/\l.getD j none=some o/\∀H',aE H H'->Q (.int j) H'
theorem P9{f:Addr}{fd:FuncData}(F:fR K "_law_taker" "_law_taker" VG f fd)(B:Bl mg):bv P w K mg base a9 1 f fd ["_law_stand","_law_gone","_law_i","_law_house"] Me:=by
 refine F.ok VI (fun vs H Q E h=>?_) (fun dM A outer s0 H vs Q E hr h=>?_)
 .obtain⟨S,G,g,s,l,i,h,o,j,rfl,_⟩:=h;rfl
 .obtain⟨S,G,g,s,l,i,h,o,j,rfl,hS,hG,LU,Hd,ei,ej,eo,q⟩:=h;refine'⟨_,(al (aF (au az ?c1 aq (fun _ _=>rfl)))),?_⟩;case c1=>
   refine' cR (g:=(ur K 2 (fQ (bD 0) (fQ (bD 1) uq)))) (tt:=(N7 (mh (mf (RT) (be 1) (mf (vV K) (be 2) (be 3)))) (mh (mf (RT) (mf (vV K) (be 4) (be 0)) (be 5))))) (te:=(be 0)) (NB:=["_law_j","_law_here","_law_stand","_law_i","_law_gone","_law_house"]) (src:=[none,none,some 0,some 2,some 1,some 3]) (cg (by kernel_rfl)) rfl (qx rfl B.enum (aa (pv 0) ag)) ?g ?t ?e;case g=>exact fun cl C s₃ H₃ fp=>(fD (n:=2) rfl (a_ (aB (i:=0) dJ rfl (Or.inl rfl) (Or.inr rfl)) (a_ (aB (i:=1) dJ rfl (Or.inl rfl) (Or.inr rfl)) d_)))
   case t=>exact fun cl C s₃ H₃ fp=>fh (PW.pt (yq (aM eQ (pv 1) (au aU (pv 2) (pv 3) (fun _ _=>rfl)) (aL _)) (uo (aM eQ (au aU (pv 4) (pv 0) (fun _ _=>rfl)) (pv 5) (aL _)))))
   case e=>exact fun cl C s₃ H₃ fp=>(pv 0)
  refine⟨_,rfl,S,_,rfl,cx.of hS,fun D hD=>?_⟩;have hi:=(aR ei).1;have hj:=(aR ej).1;refine w9 (xs:=SV s) (fun x=>decide (s.getD x none=some h)&&decide (l.getD x none=some o)) (fun σ=>∃b c,σ=[b,c,some (.ref S),some (.int (i:Int)),some (.ref G),some (.int (o:Int))]) hS hD (by rw[aN];lia) ⟨_,_,rfl⟩ ?_ ?_
  .rintro x v t σ H5 Kt Kf hx ⟨b,c,rfl⟩ sm ht kt kf;obtain⟨Sx,rfl⟩:=zm hx;refine⟨_,_,rfl,cx.of ht,rfl,_,_,rfl,_,_,rfl,rfl,?_⟩;have kG:fu (SV s) (i:Int)=some (.int (h:Int)):=by rw[dw hi,ei];rfl
   refine⟨_,rfl,_,rfl,_,rfl,S,_,_,_,rfl,rfl,cx.of (sm _ _ hS),kG,ky,_,rfl,?_⟩;have e1:decide (jq (s.getD x none)=V.int (h:Int))=decide (s.getD x none=some h):=vp (b:=some h);rw[e1];refine bN (fun e=>?_) (fun e=>?_)
   .refine⟨_,rfl,_,rfl,G,_,_,_,rfl,rfl,cx.of (sm _ _ hG),dw (by rw[Hd.len];exact Sx),_,rfl,ky,_,rfl,?_⟩;have e2:decide (jq (l.getD x none)=V.int (o:Int))=decide (l.getD x none=some o):=vp (b:=some o);rw[e2];refine bN (fun e3=>?_) (fun e3=>?_)
    .exact⟨_,rfl,kt _ _ ⟨_,_,rfl⟩ (aE.refl _) (by rw[e,e3];rfl)⟩
    .exact kf _ _ ⟨_,_,rfl⟩ (aE.refl _) (by rw[tV.mpr e3,ua])
   .exact sU (kf _ _ ⟨_,_,rfl⟩ (aE.refl _) (by rw[tV.mpr e,m6]))
  .intro H5 sm SE;rw[aN] at SE;have mj:j∈(List.range s.length).filter (fun x=>decide (s.getD x none=some h)&&decide (l.getD x none=some o)):=bX.mpr ⟨bO.mpr hj,by rw[ej,eo];simp⟩;have all:∀x∈(List.range s.length).filter (fun x=>decide (s.getD x none=some h)&&decide (l.getD x none=some o)),x=j:=fun x hx=>by
    have:=(bX.mp hx).2;rw[eM,e_,e_] at this;exact Hd.Sv x j h o this.1 ej this.2 eo
   generalize (List.range s.length).filter _=fl at *;have YK:0<fl.length:=tH mj;have LX:fu (NV fl) 0=some (.int (j:Int)):=by
    have:=wO (js:=fl) (k:=0) YK;rw[all _ (mJ YK)] at this;exact this
   exact⟨D,_,_,_,rfl,rfl,aT.of SE,LX,q H5 sm⟩
end
abbrev VJ:Stmt:=gy 53
def E3(n k:Nat):Nat:=(k+1) % n
def FQ(n k:Nat):Nat:=if k=0 then n-1 else k-1
def AN(names:List Nat)(x:Nat):List Nat:=[names.getD (FQ names.length (names.idxOf x)) 0,names.getD (E3 names.length (names.idxOf x)) 0]
theorem qX{n k:Nat}(h:k<n):E3 n k=sc n k:=by
 unfold E3 sc;by_cases e:k+1=n
 .rw[ao e,e,Nat.mod_self]
 .rw[ap e,jx (by lia)]
theorem zA{n k j:Nat}(hk:k<n)(hj:j<n):j=FQ n k↔k=sc n j:=by
 unfold FQ sc;constructor <;> intro h <;> (split at h <;> split <;> lia)
theorem mP{names:List Nat}(nd:names.Nodup){k:Nat}(h:k<names.length):names.idxOf (names.getD k 0)=k:=by
 rw[ph h];exact nd.idxOf_getElem k h
theorem gP{names:List Nat}{x:Nat}(h:x∈names):names.idxOf x<names.length/\names.getD (names.idxOf x) 0=x:=by
 have:=List.idxOf_lt_length_of_mem h;exact⟨this,by rw[ph this];exact List.getElem_idxOf this⟩
theorem vq{n:Nat}{names:List Nat}(n3:3<=n)(pm:names.Perm (List.range n)):Rg n (AN names) (fun x=>names.idxOf x):=by
 have nl:names.length=n:=by rw[pm.length_eq,fL]
 have nd:names.Nodup:=pm.nodup_iff.mpr kP;have mem:∀x,x∈names↔x<n:=fun x=>by rw[pm.mem_iff,bO]
 refine⟨n3,fun h hh=>by rw[<-nl];exact(gP ((mem h).mpr hh)).1,fun h k hh hk e=>?_,fun k hk=>⟨names.getD k 0,(mem _).mp (mJ (by lia)),mP nd (by lia)⟩,fun h o hh=>?_⟩
 .have a:=(gP ((mem h).mpr hh)).2;have b:=(gP ((mem k).mpr hk)).2;have e:names.idxOf h=names.idxOf k:=e;rw[<-a,<-b,e]
 .obtain⟨i1,i2⟩:=gP ((mem h).mpr hh);have hi:names.idxOf h<n:=by lia
  have nx:E3 n (names.idxOf h)<n:=by rw[qX hi];unfold sc;split <;> lia
  have pv:FQ n (names.idxOf h)<n:=by unfold FQ;split <;> lia
  unfold AN;rw[nl,bL,bS];constructor
  .rintro(e|e)
   .have hm:names.getD (FQ n (names.idxOf h)) 0∈names:=mJ (by lia);refine⟨by rw[e];exact(mem _).mp hm,.inr ?_⟩;show names.idxOf h=sc n (names.idxOf o);rw[e,mP nd (by lia)];exact(zA hi pv).mp rfl
   .have hm:names.getD (E3 n (names.idxOf h)) 0∈names:=mJ (by lia);refine⟨by rw[e];exact(mem _).mp hm,.inl ?_⟩;show names.idxOf o=sc n (names.idxOf h);rw[e,mP nd (by lia),qX hi]
  .rintro⟨on,e|e⟩
   .have e':names.idxOf o=sc n (names.idxOf h):=e;right;rw[qX hi,<-e',(gP ((mem o).mpr on)).2]
   .have e':names.idxOf h=sc n (names.idxOf o):=e;left;have oi:=(gP ((mem o).mpr on)).1;rw[<-(zA hi (by lia)).mpr e',(gP ((mem o).mpr on)).2]
theorem JQ{n k j:Nat}(n3:3<=n)(hk:k<n)(hj:j<n)(h:k=sc n j):j≠sc n k/\j≠k:=by
 unfold sc at *;split at h <;> (constructor <;> (try split) <;> lia)
theorem Rg.sym{n:Nat}{g:Nat->List Nat}{P:Nat->Nat}(R:Rg n g P){h o:Nat}(hh:h<n)(ho:o<n):o∈g h↔h∈g o:=by
 rw[R.tie h o hh,R.tie o h ho];exact⟨fun z=>⟨hh,z.2.symm⟩,fun z=>⟨ho,z.2.symm⟩⟩
theorem Cb{n:Nat}{names:List Nat}(n3:3<=n)(pm:names.Perm (List.range n)):gf n (AN names):=by
 have R:=vq n3 pm;have nl:names.length=n:=by rw[pm.length_eq,fL]
 have nd:names.Nodup:=pm.nodup_iff.mpr kP;have lt:∀h,h<n->∀o∈AN names h,o<n/\o≠h:=fun h hh o ho=>by
  obtain⟨a,b⟩:=(R.tie h o hh).mp ho;refine⟨a,fun e=>?_⟩;subst e;rcases b with b|b <;> exact(JQ n3 (R.lt _ a) (R.lt _ a) b).2 rfl
 have YL:∀h,h<n->(AN names h).Nodup:=fun h hh=>by
  have hi:=R.lt h hh;have hi:names.idxOf h<n:=hi;have nx:E3 n (names.idxOf h)<n:=by rw[qX hi];unfold sc;split <;> lia
  have pv:FQ n (names.idxOf h)<n:=by unfold FQ;split <;> lia
  unfold AN;rw[nl];refine dR.mpr ⟨fun z=>?_,dR.mpr ⟨(fun z=>nomatch z),ji⟩⟩;have e:=PF nd (by lia) (by lia) (bS.mp z);rw[qX hi] at e;have e2:=(zA hi pv).mp rfl;rw[e] at e2;have:=(JQ n3 hi (by rw[<-e];exact pv) e2).1;exact this rfl
 refine⟨YL,lt,fun h hh=>by unfold AN;simp,fun h hh=>?_⟩;unfold inn;rw[xz];have e1:(List.range n).filter (fun o=>decide (h∈AN names o))=(List.range n).filter (fun o=>decide (o∈AN names h)):=xY fun o ho=>mX.mpr (R.sym (bO.mp ho) hh);rw[e1];refine(List.Perm.length_eq ((xA (pD _ kP) (YL h hh)).mpr fun o=>?_)).symm;rw[bX,bO,e_];exact⟨fun z=>z.2,fun z=>⟨(lt h hh o z).1,z⟩⟩
theorem VL{n:Nat}{g:Nat->List Nat}{P:Nat->Nat}(R:Rg n g P):LI n g:=by
 have up:∀d i,i+d<n->∀a b,a<n->b<n->P a=i->P b=i+d->Rc g a b:=by
  intro d;induction d with
  |zero=>intro i hi a b ha hb ea eb;rw[R.inj a b ha hb (by lia)];exact .refl _
  |succ d ih=>
   intro i hi a b ha hb ea eb;obtain⟨c,hc,ec⟩:=R.on (i+d) (by lia);refine .step (ih i (by lia) a c ha hc ea ec) ((R.tie c b hc).mpr ⟨hb,.inl ?_⟩);rw[eb,ec];unfold sc;rw[ap (by lia)];lia
 intro a b ha hb;have n3:=R.n3;obtain⟨z,hz,ez⟩:=R.on (n-1) (by lia);obtain⟨y,hy,ey⟩:=R.on 0 (by lia);have pa:=R.lt a ha;have pb:=R.lt b hb;refine Rc.trans (.step (up (n-1-P a) (P a) (by lia) a z ha hz rfl (by lia)) ((R.tie z y hz).mpr ⟨hy,.inl ?_⟩)) (up (P b) 0 (by lia) y b hy hb ey (by lia));rw[ey,ez];unfold sc;rw[ao (by lia)]
theorem Rg.gr{n:Nat}{g:Nat->List Nat}{P:Nat->Nat}(R:Rg n g P)(G:gf n g):Rg n (gr n g) P:=⟨R.n3,R.lt,R.inj,R.on,fun h o hh=>by rw[(gw G hh).mem_iff];exact R.tie h o hh⟩
section
variable {P:Program} {w:World} {K:PySem.W.Frag} {mg:Str->Option Value} {base:Heap}
theorem Cc:aG ["_law_pot_here","_law_many","_law_names","_law_outs","_law_k","_law_house"] ["_law_pot_here","_law_many"] (am VJ):=⟨rfl,rfl,rfl,by decide +kernel,rfl,by decide +kernel,by decide +kernel⟩
def Mf:Sp:=fun vs H Q _=>∃ (p:Addr) (n:Nat),vs=[.ref p,.int n]/\bn H p/\3<=n/\n<=32/\∀ (O:Addr) (as:List Addr) (g:Nat->List Nat) (H':Hp),Es H H' O as n g->(∃P,Rg n g P)->ba p H H'->bn H' p->Q (.ref O) H'
theorem P_{f:Addr}{fd:FuncData}(F:fR K "_law_ring" "_law_ring" VJ f fd)(B:Bl mg)(TK:b_ P w K mg base a9 1 "_law_take" ["_law_pot_here","_law_many"] lV)(SH:b_ P w K mg base a9 2 "_law_shuffled" ["_law_pot_here","_law_some"] (zj K)):bv P w K mg base a9 3 f fd ["_law_pot_here","_law_many"] Mf:=by
 refine F.ok Cc (fun vs H Q E h=>?_) (fun dM A outer s H vs Q E hr h=>?_)
 .obtain⟨p,n,rfl,_⟩:=h;rfl
 .obtain⟨p,n,rfl,hp,n3,FK,q⟩:=h;have h1:bW 1 _:=hr.mono (by decide);have h2:bW 2 _:=hr.mono (by decide);have mS:=hr.u (n:=1);refine⟨_,(ah (aO (i:=2) Cc.nd rfl (Or.inl rfl) (dh (yT rfl) (by rfl) B.lst tE (aa (dh wo (by rfl) B.range PyProof.Rows.boot_range (aa (pv 1) ag)) ag)))
   (ah (bA (aM eQ (aD TK h1 aP (aa (pv 0) (aa aq ag))) aq (aL _)) (al (aO (i:=2) Cc.nd rfl (Or.inl rfl) (aD SH h2 aP (aa (pv 0) (aa (pv 2) ag))))) aQ)
   (ah (aO (i:=3) Cc.nd rfl (Or.inl rfl) ww)
   (ah (dO eN rfl (Am rfl B.enum (aa (pv 2) ag)) (fD (n:=2) rfl (a_ (aB (i:=4) Cc.nd rfl (Or.inl rfl)) (a_ (aB (i:=5) Cc.nd rfl (Or.inl rfl)) d_)))
    (al (mz mS (pv 3) (pv 5) (dY (aa (au az (pv 2) (bp ny (pv 4) aq) (fun _ _=>rfl)) (aa (au az (pv 2) (bp fZ (bp dC (pv 4) aq) (pv 1)) (fun _ _=>rfl)) ag))) rfl)))
   (al (aF (pv 3))))))),?_⟩
  refine⟨_,rfl,n,rfl,fun R hR=>⟨R,n,rfl,af,by lia,fun L hL=>?_⟩⟩;have Nx:aE H (upd (upd H R (.CL 0 n)) L (.lst ((List.range n).map fun (i:Nat)=>V.int i))):=(aj hR).trans (aj hL);have VM:p≠L:=by obtain⟨_,_,e,_⟩:=hp;exact ai ((aj hR) _ _ e) hL
  have ND:(upd (upd H R (.CL 0 n)) L (.lst ((List.range n).map fun (i:Nat)=>V.int i))) L=some (.lst (NV (List.range n))):=af;have hLH:H L=none:=(aj hR).free hL;generalize upd (upd H R (.CL 0 n)) L (.lst ((List.range n).map fun (i:Nat)=>V.int i))=H1 at *;have OL:=hp.same Nx;refine⟨_,rfl,p,2,rfl,by decide,by decide,OL,fun d a b d0 d1 a0 b0 b1=>⟨rfl,_,rfl,?_⟩⟩;have wS:bn (upd H1 p (.lst [.int a,.int b])) p:=bn.upd a0 b0 b1;have YM:(upd H1 p (.lst [.int a,.int b])) L=some (.lst (NV (List.range n))):=by rw[ak VM.symm];exact ND
  have Ez:ba p H (upd H1 p (.lst [.int a,.int b])):=(ba.of Nx).trans ba.upd;generalize upd H1 p (.lst [.int a,.int b])=H2 at *;refine Et (fun σ Hc=>∃ (L:Addr) (names:List Nat),σ=[some (.ref p),some (.int n),some (.ref L),none,none,none]/\names.Perm (List.range n)/\Hc L=some (.lst (NV names))/\L≠p/\ba p H Hc/\bn Hc p) ?_ (fun e kc=>?_) (fun e=>⟨L,List.range n,rfl,List.Perm.refl _,YM,VM.symm,Ez,wS⟩)
  rotate_left
  .refine⟨_,rfl,_,rfl,p,L,_,rfl,wS,YM,VM.symm,by rw[aN,fL];lia,fun nm ys H3 pm SF JE hn3 hy3=>?_⟩;obtain⟨names,rfl,pn⟩:=Ht (xs:=List.range n) pm;exact kc _ _ ⟨nm,names,rfl,pn,hy3,fun z=>wS.some (z ▸ hn3),Ez.trans SF,JE⟩
  .rintro σ H3 ⟨L,names,rfl,pn,SG,aac,NK,FO⟩;have nl:names.length=n:=by rw[pn.length_eq,fL]
   have nd:names.Nodup:=pn.nodup_iff.mpr kP;have OK:u5 names n:=pn;intro F' hF;have nLF:L≠F':=ai SG hF;refine⟨_,rfl,L,_,rfl,aj hF _ _ SG,?_⟩;refine wx (K:=K) (xs:=NV names) (fun i σ H5=>(∃x y,σ=[some (.ref p),some (.int n),some (.ref L),some (.ref F'),x,y])/\aE H3 H5/\∃A,rN H5 F' A (names.take i) (AN names)/\∀h∈names.take i,H3 (A h)=none)
    ⟨⟨_,_,rfl⟩,aj hF,fun _=>0,⟨af,fun h m=>by simp at m,fun h m=>by simp at m⟩,fun h m=>by simp at m⟩ (fun i σ H5 _ z=>aT.of (z.2.1 _ _ SG)) ?_ ?_
   .rintro i v t σ H5 hx ⟨⟨x,y,rfl⟩,sm,A,hB,fr⟩ ht;obtain⟨h,xw,rfl⟩:=ET hx;obtain⟨hi,hh,tk,ni⟩:=OK.at_ xw;have s5:=sm.trans (aj (o:=.tup [.int (i:Int),.int (h:Int)]) ht);have Su:=hB.same (aj (o:=.tup [.int (i:Int),.int (h:Int)]) ht);have VN:upd H5 t (.tup [.int (i:Int),.int (h:Int)]) t=some (.tup [.int (i:Int),.int (h:Int)]):=af;refine⟨_,_,rfl,cx.of VN,rfl,_,_,rfl,_,_,rfl,rfl,?_⟩;generalize upd H5 t (.tup [.int (i:Int),.int (h:Int)])=H6 at *;have Qa:=s5 _ _ SG;have ix:names.idxOf h=i:=by
     have:names.getD i 0=h:=by rw[bP,xw];rfl
     rw[<-this,mP nd (by lia)]
    have kG:fu (NV names) ((i:Int)-1)=some (.int ((names.getD (FQ n i) 0:Nat):Int)):=by
     rw[Eo (by lia),Ep (by lia),nl];rfl
    have em:((i:Int)+1) % (n:Int)=((E3 n i:Nat):Int):=by unfold E3;rw[Int.natCast_emod];rfl
    have nx:E3 n i<n:=ui _ (by lia);have wW:fu (NV names) (((i:Int)+1) % (n:Int))=some (.int ((names.getD (E3 n i) 0:Nat):Int)):=by
     rw[em,wO (by lia)]
    refine⟨_,rfl,_,rfl,_,_,rfl,rfl,L,_,_,_,rfl,rfl,aT.of Qa,kG,_,rfl,_,rfl,_,_,rfl,rfl,_,rfl,_,_,rfl,rfl,by lia,L,_,_,_,rfl,rfl,aT.of Qa,wW,by show 2<=sizeLine;decide,fun D hD=>?_⟩;have eg:NV (AN names h)=[.int ((names.getD (FQ n i) 0:Nat):Int),.int ((names.getD (E3 n i) 0:Nat):Int)]:=by unfold AN;rw[ix,nl];rfl
    rw[<-eg];have YN:=Su.same (aj (o:=.lst (NV (AN names h))) hD);have hB7:=YN.push ni (D:=D) af fun x m=>(ai (Su.rows x m) hD).symm;refine⟨_,rfl,_,rfl,F',_,rfl,qr.k (k:=.inl (h:Int)) YN.dict (by rw[cp,jf];exact bU (show min i names.length<33 by lia) (by decide)),⟨_,_,rfl⟩,dE.bE (s5.trans (aj hD)) hF,jo A h D,by rw[tk];exact hB7,fun x hx=>?_⟩;rw[tk] at hx;unfold jo;by_cases e:x=h
    .rw[ao e];exact s5.free hD
    .rw[ap e];rcases bq.mp hx with m|m
     .exact fr x m
     .exact absurd (bS.mp m) e
   .rintro σ H5 ⟨⟨x,y,rfl⟩,sm,A,hB,fr⟩;rw[show (NV names).length=names.length from aN _,gA] at hB fr;have Qb:=NK.trans (ba.of sm);refine⟨_,rfl,q F' _ (AN names) H5 ⟨Cb n3 pn,by lia,FK,hB.done OK,?_,fun h hh=>?_,VL (vq n3 pn)⟩ ⟨_,vq n3 pn⟩ Qb (FO.same sm)⟩
    .exact NK.free FO.some hF
    .rw[hV hh];exact NK.free FO.some (fr h (OK.mem.mpr hh))
end
open dE (zr zp PO FI Zs iC iD i8 dP u6 Eh)
abbrev VO:Stmt:=gy 48
def VP(kz:Nat->Int)(a b:Nat):Prop:=64*kz a+a<=64*kz b+b
theorem HX{kz:Nat->Int}{us:List Nat}{zs lT:Zs}(e:zp zs=us.map fun l=>(kz l,ci l))(pm:lT.Perm zs)(ord:dE.u5 (zp lT)):∃out:List Nat,(lT.map fun z=>V.int z.2.2)=NV out/\out.Perm us/\out.Pairwise (VP kz):=by
 have pz:(zp lT).Perm (us.map fun l=>(kz l,ci l)):=by rw[<-e];exact pm.map _
 have mem:∀u∈zp lT,∃l∈us,u=(kz l,ci l):=fun u hu=>by
  obtain⟨l,hl,e⟩:=bQ.mp (pz.mem_iff.mp hu);exact⟨l,hl,e.symm⟩
 refine⟨(zp lT).map fun u=>u.2.toNat,?_,?_,?_⟩
 .unfold zp NV;rw[fN,fN];refine jb fun z hz=>?_;obtain⟨l,_,el⟩:=mem z.2 (bQ.mpr ⟨z,hz,rfl⟩);show V.int z.2.2=V.int ((z.2.2.toNat:Nat):Int);rw[el];rfl
 .have:=pz.map fun u=>u.2.toNat;rw[fN] at this;refine this.trans ?_;rw[show ((fun u:Int×Int=>u.2.toNat) ∘ fun l=>(kz l,ci l))=id from funext fun l=>rfl,jD]
 .refine ir.mpr (ord.imp_of_mem fun {u v} hu hv h=>?_);obtain⟨l,_,rfl⟩:=mem u hu;obtain⟨m,_,rfl⟩:=mem v hv;exact h
theorem qY:(["_law_i","_law_house"]:List Str).Nodup:=by decide +kernel
theorem gQ:(["_law_i","_law_fars_here","_law_homes","_law_stand"]:List Str).Nodup:=by decide +kernel
theorem k_:(["_law_far_here","_law_i"]:List Str).Nodup:=by decide +kernel
theorem ft:(["_law_house","_law_stand","_law_i","_law_taken"]:List Str).Nodup:=by decide +kernel
theorem zB{xs:List Nat}:ow uC (NV xs) []=xs.isEmpty:=by cases xs <;> rfl
theorem HY{o:Option Nat}:(!decide (jq o=V.bJ))=o.isSome:=by
 cases o with
 |none=>rw[bK (show jq none=V.bJ from rfl)];rfl
 |some x=>rw[cE (show ¬ jq (some x)=V.bJ from fun z=>by cases z)];rfl
theorem Mg{o:Option Nat}:decide (jq o=V.bJ)=o.isNone:=by
 cases o with
 |none=>exact bK rfl
 |some x=>exact cE fun z=>by cases z
noncomputable def dN(n:Nat)(g:Nat->List Nat)(hs:List Int)(s:List (Option Nat))(i:Nat):Nat:=dH n g hs i ((s.getD i none).getD 0)
structure Cv(n:Nat)(g:Nat->List Nat)(hs:List Int)(s gl:List (Option Nat))(pre dn:List Nat):Prop where
 nd:dn.Nodup
 sub:∀j∈dn,j∈pre
 mid:Ct g s gl dn
 near:∀j∈dn,∀h o,s.getD j none=some h->gl.getD j none=some o->dH n g hs j o<dH n g hs j h
 left:∀i∈pre,i∉dn->∀h,s.getD i none=some h->∀o∈dz n g hs i h,∃j∈dn,s.getD j none=some h/\gl.getD j none=some o/\dH n g hs j h<=dH n g hs i h
theorem Cv.nil{n:Nat}{g:Nat->List Nat}{hs:List Int}{s:List (Option Nat)}:Cv n g hs s (List.replicate s.length none) [] []:=⟨ji,(fun j h=>nomatch h),Ct.nil,(fun j h=>nomatch h),(fun j h=>nomatch h)⟩
theorem HZ{g:Nat->List Nat}{s gl:List (Option Nat)}{dn:List Nat}(M:Ct g s gl dn){h o:Nat}:(h,o)∈gg s gl dn↔∃j∈dn,s.getD j none=some h/\gl.getD j none=some o:=by
 unfold gg;rw[bQ];constructor
 .rintro⟨j,hj,e⟩;obtain⟨h',o',a,b,c⟩:=M.inn j hj;rw[a,b] at e;have e1:h'=h:=congrArg Prod.fst e;have e2:o'=o:=congrArg Prod.snd e;subst e1 e2;exact⟨j,hj,a,b⟩
 .rintro⟨j,hj,a,b⟩;exact⟨j,hj,by rw[a,b];rfl⟩
theorem Cv.pass{n:Nat}{g:Nat->List Nat}{hs:List Int}{s gl:List (Option Nat)}{pre dn:List Nat}{i h:Nat}(L:Cv n g hs s gl pre dn)(hi:s.getD i none=some h)(up:∀j∈pre,dN n g hs s j<=dN n g hs s i)(all:∀o∈dz n g hs i h,(h,o)∈gg s gl dn):Cv n g hs s gl (pre++[i]) dn:=by
 refine⟨L.nd,fun j hj=>gY _ (L.sub j hj),L.mid,L.near,fun j hj nj x hx o ho=>?_⟩;rcases bq.mp hj with m|m
 .exact L.left j m nj x hx o ho
 .obtain rfl:=bS.mp m;rw[hi] at hx;cases hx;obtain⟨k,hk,a,b⟩:=(HZ L.mid).mp (all o ho);refine⟨k,hk,a,b,?_⟩;have:=up k (L.sub k hk);unfold dN at this;rw[a,hi] at this;exact this
theorem Cv.take{n:Nat}{g:Nat->List Nat}{hs:List Int}{s gl:List (Option Nat)}{pre dn:List Nat}{i h o:Nat}(L:Cv n g hs s gl pre dn)(hi:s.getD i none=some h)(ni:i∉pre)(ho:o∈dz n g hs i h)(fr:(h,o)∉gg s gl dn):
  Cv n g hs s (gl.set i (some o)) (pre++[i]) (dn++[i])/\gg s (gl.set i (some o)) (dn++[i])=gg s gl dn++[(h,o)]:=by
 have E4:i∉dn:=fun z=>ni (L.sub i z);obtain⟨M,e⟩:=L.mid.step E4 hi (iF.mp ho).1 fr;have il:i<gl.length:=by rw[L.mid.len];exact(aR hi).1
 have old:∀j∈dn,(gl.set i (some o)).getD j none=gl.getD j none:=fun j hj=>by rw[dF il,ap (fun z:j=i=>E4 (z ▸ hj))]
 have new:(gl.set i (some o)).getD i none=some o:=by rw[dF il,ao rfl]
 refine⟨⟨ju.mpr ⟨L.nd,dR.mpr ⟨(fun z=>nomatch z),ji⟩,fun u hu v hv z=>E4 (by rw[bS] at hv;rw[<-hv,<-z];exact hu)⟩,fun j hj=>?_,M,fun j hj x y hx hy=>?_,fun j hj nj x hx y hy=>?_⟩,e⟩
 .rcases bq.mp hj with m|m
  .exact gY _ (L.sub j m)
  .exact io _ m
 .rcases bq.mp hj with m|m
  .rw[old j m] at hy;exact L.near j m x y hx hy
  .obtain rfl:=bS.mp m;rw[new] at hy;rw[hi] at hx;cases hx;cases hy;exact(iF.mp ho).2
 .rcases bq.mp hj with m|m
  .obtain⟨k,hk,a,b,c⟩:=L.left j m (fun z=>nj (gY _ z)) x hx y hy;exact⟨k,gY _ hk,a,by rw[old k hk];exact b,c⟩
  .exact absurd (io _ m) nj
structure E5(g:Nat->List Nat)(s g5 gl:List (Option Nat))(d5 pre dn:List Nat):Prop where
 nd:dn.Nodup
 old:∀j∈d5,j∈dn/\gl.getD j none=g5.getD j none
 sub:∀j∈pre,j∈dn
 mid:Ct g s gl dn
theorem E5.start{n:Nat}{g:Nat->List Nat}{hs:List Int}{s gl:List (Option Nat)}{pre dn:List Nat}(L:Cv n g hs s gl pre dn):E5 g s gl gl dn [] dn:=⟨L.nd,fun j hj=>⟨hj,rfl⟩,(fun j h=>nomatch h),L.mid⟩
theorem E5.skip{g:Nat->List Nat}{s g5 gl:List (Option Nat)}{d5 pre dn:List Nat}{i:Nat}(L:E5 g s g5 gl d5 pre dn)(h:gl.getD i none≠none):E5 g s g5 gl d5 (pre++[i]) dn:=by
 refine⟨L.nd,L.old,fun j hj=>?_,L.mid⟩;rcases bq.mp hj with m|m
 .exact L.sub j m
 .rw[bS.mp m];by_cases z:i∈dn
  .exact z
  .exact absurd (L.mid.out i z) h
theorem E5.take{g:Nat->List Nat}{s g5 gl:List (Option Nat)}{d5 pre dn:List Nat}{i h o:Nat}(L:E5 g s g5 gl d5 pre dn)(hn:gl.getD i none=none)(hi:s.getD i none=some h)(ho:o∈g h)(fr:(h,o)∉gg s gl dn):
  E5 g s g5 (gl.set i (some o)) d5 (pre++[i]) (dn++[i])/\gg s (gl.set i (some o)) (dn++[i])=gg s gl dn++[(h,o)]/\(dn++[i]).Nodup:=by
 have E4:i∉dn:=fun z=>by
  obtain⟨_,_,_,b,_⟩:=L.mid.inn i z;rw[hn] at b;cases b
 obtain⟨M,e⟩:=L.mid.step E4 hi ho fr;have il:i<gl.length:=by rw[L.mid.len];exact(aR hi).1
 have nd:(dn++[i]).Nodup:=ju.mpr ⟨L.nd,dR.mpr ⟨(fun z=>nomatch z),ji⟩,fun u hu v hv z=>E4 (by rw[bS] at hv;rw[<-hv,<-z];exact hu)⟩;refine⟨⟨nd,fun j hj=>⟨gY _ (L.old j hj).1,?_⟩,fun j hj=>?_,M⟩,e,nd⟩
 .rw[dF il,ap (fun z:j=i=>E4 (z ▸ (L.old j hj).1))];exact(L.old j hj).2
 .rcases bq.mp hj with m|m
  .exact gY _ (L.sub j m)
  .exact io _ m
theorem H_{n:Nat}{g:Nat->List Nat}{hs:List Int}{s g5 gl:List (Option Nat)}{us d5 dn:List Nat}(L5:Cv n g hs s g5 us d5)(L6:E5 g s g5 gl d5 us dn)(pm:us.Perm (EH s s.length)):c_ g s gl/\NF n g hs s gl:=by
 have du:∀j∈dn,j∈us:=fun j hj=>by
  obtain⟨h,o,a,_,_⟩:=L6.mid.inn j hj;exact pm.mem_iff.mpr (bX.mpr ⟨bO.mpr (aR a).1,by rw[a];rfl⟩)
 have VQ:us.Nodup:=pm.nodup_iff.mpr (pD _ kP);have pd:dn.Perm us:=(xA L6.nd VQ).mpr fun j=>⟨du j,L6.sub j⟩
 have Hd:=L6.mid.done (pd.trans pm);refine⟨Hd,fun i h hi led o ho=>?_⟩;have iu:i∈us:=pm.mem_iff.mpr (bX.mpr ⟨bO.mpr (aR hi).1,by rw[hi];rfl⟩);have E4:i∉d5:=fun z=>by
  obtain⟨h',o',a,b,_⟩:=L5.mid.inn i z;rw[hi] at a;cases a;have c:=L5.near i z h o' hi b;rw[jY hi (by rw[(L6.old i z).2];exact b),e_] at led;lia
 obtain⟨j,hj,a,b,c⟩:=L5.left i iu E4 h hi o ho;exact⟨j,a,by rw[(L6.old j hj).2];exact b,L5.near j hj h o a b,c⟩
section
variable {P:Program} {w:World} {K:PySem.W.Frag} {mg:Str->Option Value} {base:Heap}
theorem vt:aG ["_law_outs","_law_fars_here","_law_homes","_law_stand","_law_under","_law_order","_law_gone","_law_taken","_law_i","_law_goods_here","_law_free"] ["_law_outs","_law_fars_here","_law_homes","_law_stand"] (am VO):=⟨rfl,rfl,rfl,by decide +kernel,rfl,by decide +kernel,by decide +kernel⟩
def Mh:Sp:=fun vs H Q _=>∃ (O r a S:Addr) (as ds:List Addr) (n:Nat) (g:Nat->List Nat) (hs:List Int) (s:List (Option Nat)),vs=[.ref O,.ref r,.ref a,.ref S]/\fq H O as n g/\eW H r ds n g/\gf n g/\H a=some (.tup (HV hs))/\H S=some (.tup (SV s))/\s.length=hs.length/\s.length<=16/\d9 n g s/\(∀h∈hs,0<=h/\h<n)/\
 ∀ (t:Addr) (gs:List (Option Nat)) (H':Hp),aE H H'->H' t=some (.tup (SV gs))->c_ g s gs->NF n g hs s gs->Q (.ref t) H'
structure Ne(H:Hp)(Gn Tk D:Addr)(us:List Nat)(s:List (Option Nat))(Hc:Hp)(gl:List (Option Nat))(dn:List Nat):Prop where
 sm:aE H Hc
 ord:Hc D=some (.lst (NV us))
 gn:Hc Gn=some (.lst (SV gl))
 tk:Hc Tk=some (.dT (B8 (gg s gl dn)))
theorem Ne.same{H:Hp}{Gn Tk D:Addr}{us:List Nat}{s:List (Option Nat)}{Hc H':Hp}{gl:List (Option Nat)}{dn:List Nat}(h:Ne H Gn Tk D us s Hc gl dn)(x:aE Hc H'):Ne H Gn Tk D us s H' gl dn:=⟨h.sm.trans x,x _ _ h.ord,x _ _ h.gn,x _ _ h.tk⟩
theorem Ne.put{H:Hp}{Gn Tk D t:Addr}{us:List Nat}{s:List (Option Nat)}{Hc:Hp}{gl:List (Option Nat)}{dn:List Nat}{i h o:Nat}(N:Ne H Gn Tk D us s Hc gl dn)(hG:H Gn=none)(hT:H Tk=none)(NL:Gn≠Tk)(SI:D≠Gn)(SJ:D≠Tk)(fr:(h,o)∉gg s gl dn)(e:gg s (gl.set i (some o)) (dn++[i])=gg s gl dn++[(h,o)])(ht:(upd Hc Gn (.lst (SV (gl.set i (some o))))) t=none):
  Ne H Gn Tk D us s (upd (upd (upd Hc Gn (.lst (SV (gl.set i (some o))))) t (.tup [.int (h:Int),.int (o:Int)])) Tk (.dT (fT (B8 (gg s gl dn)) (kH (h,o)) (.bl true)))) (gl.set i (some o)) (dn++[i]):=by
 have keep:∀b u,Hc b=some u->b≠Gn->b≠Tk->(upd (upd (upd Hc Gn (.lst (SV (gl.set i (some o))))) t (.tup [.int (h:Int),.int (o:Int)])) Tk (.dT (fT (B8 (gg s gl dn)) (kH (h,o)) (.bl true)))) b=some u:=fun b u e n1 n2=>by
  have e8:(upd Hc Gn (.lst (SV (gl.set i (some o))))) b=some u:=by rw[ak n1];exact e
  rw[ak n2,ak (ai e8 ht)];exact e8
 refine⟨fun b u e=>keep _ _ (N.sm _ _ e) (ai e hG) (ai e hT),keep _ _ N.ord SI SJ,?_,?_⟩
 .rw[ak NL];exact aj ht _ _ af
 .rw[af,my _ (EE fr),<-EF,e]
theorem Qc{f:Addr}{fd:FuncData}(F:fR K "_law_nearest" "_law_nearest" VO f fd)(B:Bl mg)(hso:mg "sorted"=none)(GO:b_ P w K mg base a9 1 "_law_goods" ["_law_outs","_law_fars_here","_law_home","_law_house"] HW):bv P w K mg base a9 2 f fd ["_law_outs","_law_fars_here","_law_homes","_law_stand"] Mh:=by
 refine F.ok vt (fun vs H Q E h=>?_) (fun dM A outer s0 H vs Q E hr h=>?_)
 .obtain⟨O,r,a,S,as,ds,n,g,hs,s,rfl,_⟩:=h;rfl
 .obtain⟨O,r,a,S,as,ds,n,g,hs,s,rfl,OF,FR,Gd,ha,hS,sl,LU,R,hm,q⟩:=h;have h1:bW 1 _:=hr.mono (by decide);have mS:=hr.u (n:=1);refine'⟨_,(ah (gG (i:=4) (g:=(ur K 2 (fQ (bD 0) (fQ (bD 1) uq)))) (tt:=(mh (mf (fun x y H Q=>y=.bJ/\Q (.bl (!decide (x=.bJ))) H) (be 1) (tC .bJ)))) (te:=(be 0)) (NB:=["_law_i","_law_house"]) (src:=[none,none]) (cg (by kernel_rfl)) rfl (qx rfl B.enum (aa (pv 3) ag)) ?g1 ?t1 ?e1 vt.nd rfl rfl rfl)
   (ah (gG (i:=5) (g:=(ur K 2 (fQ (bD 0) (fQ (bD 1) uq)))) (te:=(be 1)) (NB:=["_law_far_here","_law_i"]) (src:=[none,none]) (cg (by kernel_rfl)) rfl (cf (aA qK (by rfl) hso xD (aa ?c2 ag))) ?g3 ?t3 ?e3 vt.nd rfl rfl rfl)
   (ah (aO (i:=6) vt.nd rfl (Or.inl rfl) (bp KG (dY (aa ce ag)) (aA aH (by rfl) B.len cG (aa (pv 3) ag))))
   (ah (aO (i:=7) vt.nd rfl (Or.inr rfl) DH)
   (ah (dO eN rfl (cf (pv 5)) (aB (i:=8) vt.nd rfl (Or.inr rfl))
    (ah (aO (i:=9) vt.nd rfl (Or.inl rfl) (aD GO h1 aP (aa (pv 0) (aa (pv 1) (aa (au aU (pv 2) (pv 8) (fun _ _=>rfl)) (aa (au aU (pv 3) (pv 8) (fun _ _=>rfl)) ag))))))
    (ah (gG (i:=10) (g:=(bD 0)) (tt:=(tB (uT (yE (cH (mf (vV K) (be 1) (be 2)) (cH (be 0) lJ))) (be 3)))) (te:=(be 0)) (NB:=["_law_house","_law_stand","_law_i","_law_taken"]) (src:=[none,some 3,some 8,some 7]) (cg (by kernel_rfl)) rfl (cf (pv 9)) ?g4 ?t4 ?e4 vt.nd rfl rfl rfl)
    (al (bA (aM (Dt (e:=uC) hr.u) (pv 10) (dY ag) (aL _)) (ah (iR (au az (pv 10) aq (fun _ _=>rfl)) (nw (pv 6) (pv 8) iy))
     (al (mz mS (pv 7) (f_ (aa (au aU (pv 3) (pv 8) (fun _ _=>rfl)) (aa (au az (pv 6) (pv 8) (fun _ _=>rfl)) ag))) fP rfl))) aQ)))))
   (ah (dO eN rfl (cf (pv 5)) (aB (i:=8) vt.nd rfl (Or.inr rfl))
    (al (bA (aM iT (au az (pv 6) (pv 8) (fun _ _=>rfl)) ce (aL _)) (ah (iR (au az ?c5 aq (fun _ _=>rfl)) (nw (pv 6) (pv 8) iy))
     (al (mz mS (pv 7) (f_ (aa (au aU (pv 3) (pv 8) (fun _ _=>rfl)) (aa (au az (pv 6) (pv 8) (fun _ _=>rfl)) ag))) fP rfl))) aQ)))
   (al (aF (dh fJ (by rfl) B.tup pH (aa (pv 6) ag)))))))))),?_⟩
  case g1=>exact fun cl C s₃ H₃ fp=>(fD (n:=2) rfl (a_ (aB (i:=0) qY rfl (Or.inl rfl) (Or.inr rfl)) (a_ (aB (i:=1) qY rfl (Or.inl rfl) (Or.inr rfl)) d_)))
  case t1=>exact fun cl C s₃ H₃ fp=>fh (aM uw (pv 1) ce (aL _))
  case e1=>exact fun cl C s₃ H₃ fp=>(pv 0)
  case c2=>
   refine' cR (g:=(bD 0)) (te:=(yE (cH (oA (oA (be 1) (mf (vV K) (be 2) (be 0))) (mf (vV K) (be 3) (be 0))) (cH (be 0) lJ)))) (NB:=["_law_i","_law_fars_here","_law_homes","_law_stand"]) (src:=[none,some 1,some 2,some 3]) (cg (by kernel_rfl)) rfl (cf (pv 4)) ?g ?t ?e;case g=>exact fun cl C s₃ H₃ fp=>(aB (i:=0) gQ rfl (Or.inl rfl) (Or.inr rfl))
   case t=>exact fun cl C s₃ H₃ fp=>fg
   case e=>exact fun cl C s₃ H₃ fp=>(f_ (aa (bY mS (bY mS (pv 1) (au aU (pv 2) (pv 0) (fun _ _=>rfl)) (fun _ _=>rfl)) (au aU (pv 3) (pv 0) (fun _ _=>rfl)) (fun _ _=>rfl)) (aa (pv 0) ag)))
  case g3=>exact fun cl C s₃ H₃ fp=>(fD (n:=2) rfl (a_ (aB (i:=0) k_ rfl (Or.inl rfl) (Or.inr rfl)) (a_ (aB (i:=1) k_ rfl (Or.inl rfl) (Or.inr rfl)) d_)))
  case t3=>exact fun cl C s₃ H₃ fp=>fg
  case e3=>exact fun cl C s₃ H₃ fp=>(pv 1)
  case g4=>exact fun cl C s₃ H₃ fp=>(aB (i:=0) ft rfl (Or.inl rfl) (Or.inr rfl))
  case t4=>exact fun cl C s₃ H₃ fp=>fh (uk (nM mS (f_ (aa (au aU (pv 1) (pv 2) (fun _ _=>rfl)) (aa (pv 0) ag))) (pv 3)))
  case e4=>exact fun cl C s₃ H₃ fp=>(pv 0)
  case c5=>
   refine' cR (g:=(bD 0)) (tt:=(tB (uT (yE (cH (mf (vV K) (be 1) (be 2)) (cH (be 0) lJ))) (be 3)))) (te:=(be 0)) (NB:=["_law_house","_law_stand","_law_i","_law_taken"]) (src:=[none,some 3,some 8,some 7]) (cg (by kernel_rfl)) rfl (cf (bY mS (pv 0) (au aU (pv 3) (pv 8) (fun _ _=>rfl)) (fun _ _=>rfl))) ?g ?t ?e;case g=>exact fun cl C s₃ H₃ fp=>(aB (i:=0) ft rfl (Or.inl rfl) (Or.inr rfl))
   case t=>exact fun cl C s₃ H₃ fp=>fh (uk (nM mS (f_ (aa (au aU (pv 1) (pv 2) (fun _ _=>rfl)) (aa (pv 0) ag))) (pv 3)))
   case e=>exact fun cl C s₃ H₃ fp=>(pv 0)
  refine⟨_,rfl,S,_,rfl,cx.of hS,fun D1 K8=>?_⟩;refine w9 (xs:=SV s) (fun x=>(s.getD x none).isSome) (fun σ=>∃b c,σ=[b,c]) hS K8 (by rw[aN];lia) ⟨_,_,rfl⟩ ?_ ?_
  .rintro x v t σ H5 Kt Kf hx ⟨b,c,rfl⟩ sm ht kt kf;obtain⟨Sx,rfl⟩:=zm hx;refine⟨_,_,rfl,cx.of ht,rfl,_,_,rfl,_,_,rfl,rfl,?_⟩;refine⟨_,rfl,rfl,_,rfl,?_⟩;rw[HY];refine bN (fun e=>?_) (fun e=>?_)
   .exact⟨_,rfl,kt _ _ ⟨_,_,rfl⟩ (aE.refl _) e⟩
   .exact kf _ _ ⟨_,_,rfl⟩ (aE.refl _) (tV.mpr e)
  intro H1 s1 E6;rw[aN] at E6;change H1 D1=some (.lst (NV (EH s s.length))) at E6;dsimp only;have VQ:(EH s s.length).Nodup:=pD _ kP;have ul:(EH s s.length).length<=16:=br HB LU;have um:∀i∈EH s s.length,∃h k:Nat,s.getD i none=some h/\h<n/\i<s.length/\k<n/\hs.getD i 0=(k:Int)/\(hs.getD i 0).toNat=k:=fun i hi=>by
   obtain⟨a1,a2⟩:=bX.mp hi;obtain⟨h,eh⟩:=pG.mp a2;obtain⟨k,b1,b2,b3⟩:=mO hm (i:=i) (by rw[<-sl];exact bO.mp a1);exact⟨h,k,eh,R.1 h (aR eh).2,bO.mp a1,b1,b2,b3⟩
  refine⟨_,rfl,D1,rfl,⟨_,aT.of E6⟩,fun D2 l0=>?_⟩;refine w5 (xs:=EH s s.length) (fun i=>(((dN n g hs s i:Nat):Int),ci i)) (fun σ=>∃b,σ=[b,some (.ref r),some (.ref a),some (.ref S)]) E6 l0 (by lia) ⟨_,rfl⟩ ?_ ?_
  .rintro x σ H5 Rr Kf hx ⟨b,rfl⟩ sm kr;obtain⟨h,k,eh,hn,xl,hk,ek,Cu⟩:=um x hx;have s5:=s1.trans sm;have FP:=FR.same s5;have kG:fu (SV s) (x:Int)=some (.int (h:Int)):=by rw[dw xl,eh];rfl
   refine⟨_,rfl,_,rfl,_,rfl,a,_,_,_,rfl,rfl,cx.of (s5 _ _ ha),hW (by lia),r,_,rfl,by rw[ek];exact FP.get hk,_,rfl,_,rfl,S,_,_,_,rfl,rfl,cx.of (s5 _ _ hS),kG,_,_,rfl,(FP.rows k hk).get hn,_,rfl,by show 2<=sizeLine;decide,fun p hp=>?_⟩;have e:((dN n g hs s x:Nat):Int)=((far (bb n g) h k:Nat):Int):=by unfold dN dH;rw[eh,Cu];rfl
   have:=kr [some (.int (x:Int)),some (.ref r),some (.ref a),some (.ref S)] p ⟨_,rfl⟩ hp
   (try dsimp only at this)
   rw[e] at this;exact this
  intro zs H2 s2 Qd po ez;have zl:zs.length<=16:=by rw[<-dP,ez,aN];exact ul
  refine Eh ?_;refine u6 Qd po (by lia) (fun u hu=>?_) fun D3 lT kF pm ord=>⟨D3,rfl,⟨_,aT.of af⟩,fun D hD=>?_⟩
  .rw[ez] at hu;obtain⟨l,hl,rfl⟩:=bQ.mp hu;obtain⟨_,_,_,_,xl,_⟩:=um l hl;show (0:Int)<=(l:Int)/\(l:Int)<64;lia
  obtain⟨us,eo,op,pw⟩:=HX (kz:=fun i=>((dN n g hs s i:Nat):Int)) ez pm ord;have sD:=aj (o:=.lst (zr lT)) kF;have wS:PO (upd H2 D3 (.lst (zr lT))) lT:=fun z hz=>sD _ _ (po z (pm.mem_iff.mp hz));refine AM lT (fun z=>V.ref z.1) (fun z=>V.int z.2.2) (fun σ=>∃a b,σ=[a,b]) af hD (by rw[pm.length_eq];lia) ⟨_,_,rfl⟩ ?_ ?_
  .rintro z σ H5 Rr Kf hz ⟨a,b,rfl⟩ sm kk;exact⟨z.1,_,rfl,cx.of (sm _ _ (wS z hz)),rfl,_,_,rfl,_,_,rfl,rfl,_,rfl,kk _ _ ⟨_,_,rfl⟩ (aE.refl _)⟩
  intro H3 s3 D_;rw[eo] at D_;have rM:aE H H3:=s1.trans (s2.trans (sD.trans s3));dsimp only;clear pm ord po wS ez eo sD s3 Qd s2 E6 s1;have nud:us.Nodup:=op.nodup_iff.mpr VQ;have usl:us.length<=16:=by rw[op.length_eq];exact ul
  refine⟨by show 1<=sizeLine;decide,fun L hL=>⟨_,rfl,S,_,rfl,.inr (cx.of (aj hL _ _ (rM _ _ hS))),L,_,_,rfl,rfl,af,by lia,?_,?_,fun Gn hG=>?_⟩⟩
  .rw[aN];lia
  .rw[cM,aN];exact br (show 1*s.length<=16 by lia) (by decide)
  have eL:(List.replicate ((((SV s).length:Nat):Int)).toNat [V.bJ]).flatten=SV (List.replicate s.length none):=by rw[cM,aN];exact EG
  rw[eL];have qQ:aE H3 (upd (upd H3 L (.lst [.bJ])) Gn (.lst (SV (List.replicate s.length none)))):=(aj hL).trans (aj hG);have YO:H3 Gn=none:=(aj hL).free hG;have Mi:(upd (upd H3 L (.lst [.bJ])) Gn (.lst (SV (List.replicate s.length none)))) Gn=some (.lst (SV (List.replicate s.length none))):=af;generalize upd (upd H3 L (.lst [.bJ])) Gn (.lst (SV (List.replicate s.length none)))=H4 at *;intro Tk Qe;have YQ:H3 Tk=none:=qQ.free Qe;have NL:Gn≠Tk:=ai Mi Qe;have NM:aE H3 (upd H4 Tk (.dT [])):=qQ.trans (aj Qe);have Qf:(upd H4 Tk (.dT [])) Gn=some (.lst (SV (List.replicate s.length none))):=aj Qe _ _ Mi;have Qg:(upd H4 Tk (.dT [])) Tk=some (.dT []):=af;generalize upd H4 Tk (.dT [])=H5 at *;have SK:H Gn=none:=rM.free YO;have YR:H Tk=none:=rM.free YQ;have SI:D≠Gn:=ai D_ YO;have SJ:D≠Tk:=ai D_ YQ;have N5:Ne H Gn Tk D us s H5 (List.replicate s.length none) []:=⟨rM.trans NM,NM _ _ D_,Qf,Qg⟩
  clear qQ NM Mi Qf Qg Qe hG hL D_ rM;refine⟨_,rfl,D,rfl,⟨_,aT.of N5.ord⟩,?_⟩;refine jI (K:=K) (a:=D) (xs:=NV us) (fun k σ Hc=>(∃x1 x8 x9 Mj,σ=[some (.ref O),some (.ref r),some (.ref a),some (.ref S),x1,some (.ref D),some (.ref Gn),some (.ref Tk),x8,x9,Mj])/\∃gl dn,Ne H Gn Tk D us s Hc gl dn/\Cv n g hs s gl (us.take k) dn) ⟨⟨_,_,_,_,rfl⟩,_,_,N5,Cv.nil⟩ (fun k σ Hc _ ⟨_,_,_,z,_⟩=>aT.of z.ord) ?_ ?_
  .rintro k v σ Hc hx ⟨⟨x1,x8,x9,Mj,rfl⟩,gl,dn,N,L5⟩;obtain⟨i,xw,rfl⟩:=ET hx;have hk:k<us.length:=(cK.mp xw).1;have tk:us.take (k+1)=us.take k++[i]:=by rw[iq,xw];rfl
   have iu:i∈EH s s.length:=op.mem_iff.mp (dQ xw);have VR:(us.take k++[i]).Nodup:=by rw[<-tk];exact nud.sublist (tT _ _)
   have hip:i∉us.take k:=fun z=>(ju.mp VR).2.2 i z i (bS.mpr rfl) rfl;obtain⟨h,kk,eh,hn,il,SL,ek,Cu⟩:=um i iu;have up:∀j∈us.take k,dN n g hs s j<=dN n g hs s i:=fun j hj=>by
    have pw':(us.take k++[i]).Pairwise (VP fun i=>((dN n g hs s i:Nat):Int)):=by rw[<-tk];exact pw.sublist (tT _ _)
    have:=(tK.mp pw').2.2 j hj i (bS.mpr rfl);obtain⟨_,_,_,_,jl,_⟩:=um j (op.mem_iff.mp (mU hj));unfold VP at this;lia
   have kG:fu (SV s) (i:Int)=some (.int (h:Int)):=by rw[dw il,eh];rfl
   have NO:=N.sm _ _ hS;have Ml:(g h).filter (fun o=>decide (far (bb n g) o kk<far (bb n g) h kk))=dz n g hs i h:=by unfold dz dH;rw[Cu]
   refine⟨_,rfl,_,rfl,_,rfl,_,rfl,a,_,_,_,rfl,rfl,cx.of (N.sm _ _ ha),hW (by lia),_,rfl,_,rfl,S,_,_,_,rfl,rfl,cx.of NO,kG,O,r,as,ds,n,g,kk,h,by rw[ek];rfl,OF.same N.sm,FR.same N.sm,Gd,SL,hn,fun D6 H6 s6 JF Mm=>?_⟩;rw[Ml] at Mm;have N6:=N.same s6;have NP:=s6 _ _ NO;have gl8:(dz n g hs i h).length<=8:=br (n9 _ _) (Gd.le h hn);refine⟨_,rfl,D6,rfl,⟨_,aT.of Mm⟩,fun D7 VS=>?_⟩;refine vo (os:=dz n g hs i h) (fun o=>decide ((h,o)∉gg s gl dn)) (fun σ=>∃b,σ=[b,some (.ref S),some (.int (i:Int)),some (.ref Tk)]) Mm VS (by lia) ⟨_,rfl⟩ ?_ ?_
   .rintro o σ H8 Kt Kf ho ⟨b',rfl⟩ Mn kt kf;refine⟨_,rfl,_,rfl,S,_,_,_,rfl,rfl,cx.of (Mn _ _ NP),kG,_,rfl,by show 2<=sizeLine;decide,fun t ht=>⟨_,rfl,Tk,_,rfl,iW.t (k:=kH (h,o)) (aj ht _ _ (Mn _ _ N6.tk)) af,_,rfl,?_⟩⟩;refine bN (fun e=>?_) (fun e=>?_)
    .exact⟨_,rfl,kt _ _ ⟨_,rfl⟩ (aj ht) (bK (by rw[kq] at e;simpa using e))⟩
    .exact kf _ _ ⟨_,rfl⟩ (aj ht) (cE fun z=>z (by rw[kq] at e;simpa using e))
   intro H8 s8 hD8;dsimp only;have N8:=N6.same s8;have VT:=s8 _ _ NP;have VU:∀o∈(dz n g hs i h).filter (fun o=>decide ((h,o)∉gg s gl dn)),o∈dz n g hs i h/\(h,o)∉gg s gl dn:=fun o ho=>⟨(bX.mp ho).1,bV (bX.mp ho).2⟩
   have frn:(dz n g hs i h).filter (fun o=>decide ((h,o)∉gg s gl dn))=[]->∀o∈dz n g hs i h,(h,o)∈gg s gl dn:=fun e o ho=>by
    by_cases z:(h,o)∈gg s gl dn
    .exact z
    .have:o∈(dz n g hs i h).filter (fun o=>decide ((h,o)∉gg s gl dn)):=bX.mpr ⟨ho,bK z⟩;rw[e] at this;cases this
   generalize (dz n g hs i h).filter (fun o=>decide ((h,o)∉gg s gl dn))=fr at *;refine⟨_,rfl,by show 0<=sizeLine;decide,fun E1 Ib=>?_⟩;have sE:=aj (o:=.lst []) Ib;have N9:=N8.same sE;have VW:=sE _ _ VT;have SN:=sE _ _ hD8;refine⟨D7,E1,_,[],rfl,rfl,aT.of SN,aT.of af,fun i h1 h2=>absurd h2 (by simp),_,rfl,?_⟩;rw[ao rfl,zB];generalize upd H8 E1 (.lst [])=H9 at *;cases fr with
   |nil=>exact sU ⟨⟨_,_,_,_,rfl⟩,gl,dn,N9,by rw[tk];exact L5.pass eh up (frn rfl)⟩
   |cons o fr'=>
    obtain⟨og,Qh⟩:=VU o b9;obtain⟨L5',ep⟩:=L5.take eh hip og Qh;have JR:i<gl.length:=by rw[L5.mid.len];exact il
    have Mo:(SV gl).set i (.int (o:Int))=SV (gl.set i (some o)):=by unfold SV;rw[List.map_set];rfl
    have wW:fu (SV (gl.set i (some o))) (i:Int)=some (.int (o:Int)):=by rw[dw (by rw[lm];exact JR),dF JR,ao rfl];rfl
    have VX:S≠Gn:=ai hS SK;refine kY ⟨_,rfl,D7,_,_,_,rfl,rfl,aT.of SN,bg (j:=0) rfl,_,rfl,_,rfl,Gn,_,_,i,rfl,rfl,N9.gn,j_ (by rw[aN];exact JR),?_⟩;rw[Mo];refine⟨_,rfl,_,rfl,_,rfl,S,_,_,_,rfl,rfl,cx.of (by rw[ak VX];exact VW),kG,_,rfl,_,rfl,Gn,_,_,_,rfl,rfl,aT.of af,wW,by show 2<=sizeLine;decide,fun t2 Qi=>?_⟩;refine⟨Tk,_,rfl,qr.t (k:=kH (h,o)) (aj Qi _ _ (by rw[ak NL.symm];exact N9.tk)) af ?_,⟨_,_,_,_,rfl⟩,_,_,N9.put SK YR NL SI SJ Qh ep Qi,by rw[tk];exact L5'⟩;unfold B8 gg;rw[aN,aN];have:=sV L5.nd (m:=us.take k) L5.sub;rw[jf] at this;exact gh this (bU (show min k us.length<17 by lia) (by decide))
  rintro σ Hc ⟨⟨x1,x8,x9,Mj,rfl⟩,g5,d5,YS,L5⟩;rw[show (NV us).length=us.length from aN _,gA] at L5;refine⟨_,rfl,D,rfl,⟨_,aT.of YS.ord⟩,?_⟩;refine jI (K:=K) (a:=D) (xs:=NV us) (fun k σ Hc=>(∃x1 x8 x9 Mj,σ=[some (.ref O),some (.ref r),some (.ref a),some (.ref S),x1,some (.ref D),some (.ref Gn),some (.ref Tk),x8,x9,Mj])/\∃gl dn,Ne H Gn Tk D us s Hc gl dn/\E5 g s g5 gl d5 (us.take k) dn) ⟨⟨_,_,_,_,rfl⟩,_,_,YS,E5.start L5⟩ (fun k σ Hc _ ⟨_,_,_,z,_⟩=>aT.of z.ord) ?_ ?_
  .rintro k v σ Hc hx ⟨⟨x1,x8,x9,Mj,rfl⟩,gl,dn,N,L6⟩;obtain⟨i,xw,rfl⟩:=ET hx;have tk:us.take (k+1)=us.take k++[i]:=by rw[iq,xw];rfl
   have iu:i∈EH s s.length:=op.mem_iff.mp (dQ xw);obtain⟨h,kk,eh,hn,il,SL,ek,Cu⟩:=um i iu;have kG:fu (SV s) (i:Int)=some (.int (h:Int)):=by rw[dw il,eh];rfl
   have JR:i<gl.length:=by rw[L6.mid.len];exact il
   have NO:=N.sm _ _ hS;refine⟨_,rfl,_,rfl,Gn,_,_,_,rfl,rfl,aT.of N.gn,dw JR,rfl,_,rfl,?_⟩;rw[Mg];refine bN (fun e=>?_) (fun e=>?_)
   rotate_left
   .exact⟨⟨_,_,_,_,rfl⟩,gl,dn,N,by rw[tk];exact L6.skip (fun z=>e (by rw[z];rfl))⟩
   have e':=Option.isNone_iff_eq_none.mp e;have E4:i∉dn:=fun z=>by
    obtain⟨_,_,_,b,_⟩:=L6.mid.inn i z;rw[e'] at b;cases b
   have VR:(dn++[i]).Nodup:=ju.mpr ⟨L6.nd,dR.mpr ⟨(fun z=>nomatch z),ji⟩,fun u hu v hv z=>E4 (by rw[bS] at hv;rw[<-hv,<-z];exact hu)⟩;have f0:=j8 L6.mid VR R Gd eh;have VY:=OF.same N.sm;refine⟨_,rfl,_,rfl,_,rfl,S,_,_,_,rfl,rfl,cx.of NO,kG,O,_,rfl,VY.get hn,as.getD h 0,rfl,⟨_,aT.of (VY.rows.2 h hn)⟩,fun D7 VS=>?_⟩;refine vo (os:=g h) (fun o=>decide ((h,o)∉gg s gl dn)) (fun σ=>∃b,σ=[b,some (.ref S),some (.int (i:Int)),some (.ref Tk)]) (VY.rows.2 h hn) VS (by have:=Gd.le h hn;lia) ⟨_,rfl⟩ ?_ ?_
   .rintro o σ H8 Kt Kf ho ⟨b',rfl⟩ Mn kt kf;refine⟨_,rfl,_,rfl,S,_,_,_,rfl,rfl,cx.of (Mn _ _ NO),kG,_,rfl,by show 2<=sizeLine;decide,fun t ht=>⟨_,rfl,Tk,_,rfl,iW.t (k:=kH (h,o)) (aj ht _ _ (Mn _ _ N.tk)) af,_,rfl,?_⟩⟩;refine bN (fun e=>?_) (fun e=>?_)
    .exact⟨_,rfl,kt _ _ ⟨_,rfl⟩ (aj ht) (bK (by rw[kq] at e;simpa using e))⟩
    .exact kf _ _ ⟨_,rfl⟩ (aj ht) (cE fun z=>z (by rw[kq] at e;simpa using e))
   intro H8 s8 SN;dsimp only;have N9:=N.same s8;have VW:=s8 _ _ NO;have VU:∀o∈(g h).filter (fun o=>decide ((h,o)∉gg s gl dn)),o∈g h/\(h,o)∉gg s gl dn:=fun o ho=>⟨(bX.mp ho).1,bV (bX.mp ho).2⟩
   generalize (g h).filter (fun o=>decide ((h,o)∉gg s gl dn))=fr at *;cases fr with
   |nil=>exact absurd f0 (by simp)
   |cons o fr'=>
    obtain⟨og,Qh⟩:=VU o b9;obtain⟨L6',ep,nd'⟩:=L6.take e' eh og Qh;have Mo:(SV gl).set i (.int (o:Int))=SV (gl.set i (some o)):=by unfold SV;rw[List.map_set];rfl
    have wW:fu (SV (gl.set i (some o))) (i:Int)=some (.int (o:Int)):=by rw[dw (by rw[lm];exact JR),dF JR,ao rfl];rfl
    have VX:S≠Gn:=ai hS SK;refine⟨D7,_,_,_,rfl,rfl,aT.of SN,bg (j:=0) rfl,_,rfl,_,rfl,Gn,_,_,i,rfl,rfl,N9.gn,j_ (by rw[aN];exact JR),?_⟩;rw[Mo];refine⟨_,rfl,_,rfl,_,rfl,S,_,_,_,rfl,rfl,cx.of (by rw[ak VX];exact VW),kG,_,rfl,_,rfl,Gn,_,_,_,rfl,rfl,aT.of af,wW,by show 2<=sizeLine;decide,fun t2 Qi=>?_⟩;refine⟨Tk,_,rfl,qr.t (k:=kH (h,o)) (aj Qi _ _ (by rw[ak NL.symm];exact N9.tk)) af ?_,⟨_,_,_,_,rfl⟩,_,_,N9.put SK YR NL SI SJ Qh ep Qi,by rw[tk];exact L6'⟩;unfold B8 gg;rw[aN,aN];have:dn.length<=us.length:=sV L6.nd fun j hj=>by
     obtain⟨h',o',a,_,_⟩:=L6.mid.inn j hj;exact op.mem_iff.mpr (bX.mpr ⟨bO.mpr (aR a).1,by rw[a];rfl⟩)
    exact gh this (bU (show us.length<17 by lia) (by decide))
  rintro σ Hc ⟨⟨x1,x8,x9,Mj,rfl⟩,gl,dn,N,L6⟩;rw[show (NV us).length=us.length from aN _,gA] at L6;obtain⟨Hd,nf⟩:=H_ L5 L6 op;exact⟨_,rfl,Gn,_,rfl,.inl ⟨aT.of N.gn,fun t ht=>q t gl _ (N.sm.trans (aj ht)) af Hd nf⟩⟩
end
end vC
namespace L2
open PySem PySem.Spec PyProof.Rows
section
variable {X:Cx}
def SO(X:Cx)(H:Hp)(d:Nat)(x y:V):Prop:=∀ (ae:List (Addr×Obj)) (s:Shared) (σ:St) (A:Around) (u v:Value),aK X ae σ H s->A.units+d<cLine->bf x u->bf y v->SeqAt.EqAt A s u v true
theorem Ic:SO X H 0 (.int i) (.int i):=by
 intro ae s σ A u v I hu rx ry;have h:=C9 (A:=A) (s:=s) rx ry rfl rfl;rw[show uC (.int i) (.int i)=true by show decide (i=i)=true;simp] at h;exact h
theorem s_(I:aK X ae σ H s)(hu:A.units+d<cLine)(rx:aV xs us)(ry:aV ys vs)(he:∀i,i<xs.length->i<ys.length->SO X H d (xs.getD i .bJ) (ys.getD i .bJ)):∀j (h1:j<us.toArray.size) (h2:j<vs.toArray.size),SeqAt.EqAt A s us.toArray[j] vs.toArray[j] true:=by
 intro j h1 h2;have j1:j<xs.length:=by rw[rx.length];simpa using h1
 have j2:j<ys.length:=by rw[ry.length];simpa using h2
 have e1:xs[j]?=some (xs.getD j .bJ):=by rw[bP,cm j1];rfl
 have e2:ys[j]?=some (ys.getD j .bJ):=by rw[bP,cm j2];rfl
 obtain⟨u,mS,ru⟩:=rx.get e1;obtain⟨v,Uw,rv⟩:=ry.get e2;have eu:us.toArray[j]=u:=by
  have:us[j]?=some us.toArray[j]:=by simp at h1 |-
  rw[mS] at this;exact(aY this).symm
 have ev:vs.toArray[j]=v:=by
  have:vs[j]?=some vs.toArray[j]:=by simp at h2 |-
  rw[Uw] at this;exact(aY this).symm
 rw[eu,ev];exact he j j1 j2 ae s σ A u v I hu ru rv
theorem w_:(List.range n).all (fun _=>true)=true:=mZ.mpr fun _ _=>rfl
def JS(X:Cx)(Os:Bool)(d:Nat):R2:=fun x y H Q=>∃p q xs ys,x=.ref p/\y=.ref q/\aT X.K H p xs/\aT X.K H q ys/\xs.length=ys.length/\(∀i,i<xs.length->i<ys.length->SO X H d (xs.getD i .bJ) (ys.getD i .bJ))/\Q (.bl (!Os)) H
theorem Ie{d:Nat}(hu:X.A.units+(d+1)<cLine):me X (compareOp .NotEq) (JS X true d):=by
 intro ae s σ H x y v u Q I rx ry h;obtain⟨p,q,xs,ys,rfl,rfl,hp,hq,hl,he,k⟩:=h;obtain rfl:v=Value.ref p:=rx;obtain rfl:u=Value.ref q:=ry;obtain⟨us,r1,p1,_⟩:=I.list hp;obtain⟨vs,r2,p2,_⟩:=I.list hq;refine SeqAt.RcNeAt.lists (e:=fun _=>true) p1.isList p2.isList (by simp only[cu];rw[<-r1.length,<-r2.length];exact hl) (by lia) (s_ I (by show X.A.units+1+d<cLine;lia) r1 r2 he) _ _ _ _ ⟨.bl _,H,I,rfl,?_⟩;rw[w_];exact k
end
end L2
namespace vC
open PySem L2 rJ
abbrev VZ:Stmt:=gy 51
abbrev V0:Stmt:=gy 52
abbrev Mp:Stmt:=gy 54
theorem Cd{K:PySem.W.Frag}{a D:Addr}{xs:List V}{g:TG}{tt:TT}{te:TE}{fin:Hp->Prop}{σB:St}{H0:Hp}(Pv:Nat->List V->St->Hp->Prop)(h0:Pv 0 [] σB H0)(hl:∀i ys σ H,i<=xs.length->Pv i ys σ H->cx K H a xs)(hs:∀i x ys σ H (Kt:V->St->Hp->Prop) (Kf:St->Hp->Prop),xs[i]?=some x->Pv i ys σ H->
   (∀v σ2 H4,H4 D=some (.lst ys)->ys.length<sizeLine->Pv (i+1) (ys++[v]) σ2 (upd H4 D (.lst (ys++[v])))->Kt v σ2 H4)->(∀σ2 H3,Pv (i+1) ys σ2 H3->Kf σ2 H3)->
   g x σ H fun σ2 H2=>tt σ2 H2 fun b H3=>if b=true then te σ2 H3 fun v H4=>Kt v σ2 H4 else Kf σ2 H3)(hd:∀ys σ H,Pv xs.length ys σ H->fin H):g8 (TH K a) g tt te D fin σB H0:=by
 refine⟨fun i m σ H=>m=xs.length-i/\i<=xs.length/\∃ys,Pv i ys σ H,⟨xs.length,by simp,dg _,[],h0⟩,?_⟩;rintro i m σ H ⟨rfl,hi,ys,p⟩;have q:=hl i ys σ H hi p;by_cases eB:i<xs.length
 .refine .inr ⟨⟨xs,xs[i],q,by simp[eB]⟩,?_⟩;rintro x H' ⟨rfl,y⟩;exact hs i x ys σ _ (fun v σ2 H4=>∃ys,H4 D=some (.lst ys)/\ys.length<sizeLine/\∃m',m'<xs.length-i/\m'=xs.length-(i+1)/\i+1<=xs.length/\∃oN,Pv (i+1) oN σ2 (upd H4 D (.lst (ys++[v]))))
   (fun σ2 H3=>∃m',m'<xs.length-i/\m'=xs.length-(i+1)/\i+1<=xs.length/\∃oN,Pv (i+1) oN σ2 H3) (y xs q) p
   (fun v σ2 H4 z1 z2 z3=>⟨ys,z1,z2,_,by lia,rfl,eB,_,z3⟩) (fun σ2 H3 z=>⟨_,by lia,rfl,eB,_,z⟩)
 .have e:i=xs.length:=by lia
  subst e;exact .inl ⟨⟨xs,q,aZ _⟩,hd ys σ H p⟩
theorem Ig{X:Cx}{d:Nat}(hu:X.A.units+(d+1)<cLine):me X (compareOp .Eq) (JS X false d):=by
 intro ae s σ H x y v u Q I rx ry h;obtain⟨p,q,xs,ys,rfl,rfl,hp,hq,hl,he,k⟩:=h;obtain rfl:v=Value.ref p:=rx;obtain rfl:u=Value.ref q:=ry;obtain⟨us,r1,p1,_⟩:=I.list hp;obtain⟨vs,r2,p2,_⟩:=I.list hq;refine SeqAt.eq_listAt (e:=fun _=>true) p1.isList p2.isList (by simp only[cu];rw[<-r1.length,<-r2.length];exact hl) (by lia) (s_ I (by show X.A.units+1+d<cLine;lia) r1 r2 he) ⟨.bl _,H,I,rfl,?_⟩;rw[w_];exact k
theorem Mq:(["_law_one"]:List Str).Nodup:=by decide +kernel
theorem E7:(["_law_house"]:List Str).Nodup:=by decide +kernel
theorem E8{X:Cx}{H:Hp}{os:List Nat}:∀i,i<(NV os).length->i<(NV os).length->SO X H 0 ((NV os).getD i .bJ) ((NV os).getD i .bJ):=fun i h _=>by
 rw[bP,cm h,Option.getD_some,yd];exact Ic
theorem xa{as:List Addr}{k:Nat}:Bi (as.map V.ref) none (some (k:Int))=(as.take k).map V.ref:=by
 have h1:HT.vz (as.map V.ref).length 0 none=0:=rfl;have h2:HT.vz (as.map V.ref).length (as.map V.ref).length (some (k:Int))=min k as.length:=by
  unfold HT.vz;simp;try lia
 unfold Bi;rw[h1,h2,yj,Nat.sub_zero,List.map_take,List.take_eq_take_iff];simp;try lia
section
variable {n:Nat} {g:Nat->List Nat} {hs:List Int} {L:Nat} {ss ls:Nat->List (Option Nat)}
theorem gx.start{s:List (Option Nat)}{ls:Nat->List (Option Nat)}(h:PR n hs s)(R:d9 n g s)(sl:s.length=hs.length):gx n g hs 0 (fun _=>s) ls []:=
 ⟨iE.start (fun z hz=>nomatch hz) fun i h e=>R.1 h (aR e).2,fun b hb=>absurd hb (by lia),h.1,fun b _=>h.2,fun b _=>sl⟩
theorem gx.push{gs:List (Option Nat)}(N:gx n g hs L ss ls [])(G:gf n g)(R:d9 n g (ss L))(Hd:c_ g (ss L) gs)(nf:NF n g hs (ss L) gs):gx n g hs (L+1) (wV ss (L+1) (bh hs gs)) (wV ls L gs) []:=by
 have R5:d9 n g (bh hs gs):=Hd.right G R ve (fun i=>JJ i);refine⟨N.r.push Hd (fun _ _=>rfl) (fun _ h=>h) (fun z hz=>nomatch hz) fun i h e=>R5.1 h (aR e).2,fun b hb=>?_,N.hm,fun b hb i h e=>?_,fun b hb=>?_⟩
 .rw[hX (show b≠L+1 by lia)];by_cases e:b=L
  .rw[e,i_];exact nf
  .rw[hX e];exact N.nf b (by lia)
 .by_cases e':b=L+1
  .rw[e',i_,vf] at e;intro z;unfold JH at e;split at e
   .cases e
   .rename_i x _;by_cases c:(x:Int)=hs.getD i 0
    .rw[ao c] at e;cases e
    .rw[ap c] at e;cases e;exact c z.symm
  .rw[hX e'] at e;exact N.off b (by lia) i h e
 .by_cases e':b=L+1
  .rw[e',i_,ve,Hd.len];exact N.sl L (aZ _)
  .rw[hX e'];exact N.sl b (by lia)
theorem gx.cut{M:Nat}{ns:List Int}(N:gx n g hs L ss ls ns)(h:M<=L):gx n g hs M ss ls ns:=
 ⟨⟨fun b hb=>N.r.tie b (by lia),fun b hb=>N.r.next b (by lia),fun z hz b hb=>N.r.fresh z hz b (by lia),fun b hb i a c d e f=>N.r.out b (by lia) i a c d e (by lia),fun b hb=>N.r.lt b (by lia)⟩,fun b hb=>N.nf b (by lia),N.hm,fun b hb=>N.off b (by lia),fun b hb=>N.sl b (by lia)⟩
theorem tf{H:Hp}{as:List Addr}{L M:Nat}{f:Nat->HO}(h:Holds H as L f)(le:M<=L):Holds H (as.take M) M f:=by
 refine⟨by rw[jf,h.1];lia,fun j hj=>?_⟩;have e:(as.take M).getD j 0=as.getD j 0:=by rw[bP,bP,xF hj]
 rw[e];exact h.2 j (by lia)
end
def E9(H H':Hp)(v:V):Option (List Nat)->Prop
 |none=>v=.bJ
 |some zs=>∃D,v=.ref D/\H D=none/\H' D=some (.lst (NV zs))
section
variable {P:Program} {w:World} {K:PySem.W.Frag} {mg:Str->Option Value} {base:Heap}
theorem Qj:aG ["_law_pot_here","_law_stands","_law_log_here","_law_many"] ["_law_pot_here","_law_stands","_law_log_here"] (am VZ):=⟨rfl,rfl,rfl,by decide +kernel,rfl,by decide +kernel,by decide +kernel⟩
def Mr:Sp:=fun vs H Q _=>∃ (p SA LA:Addr) (bx bz:List Addr) (m L:Nat) (ss ls:Nat->List (Option Nat)),vs=[.ref p,.ref SA,.ref LA]/\bn H p/\cI H SA LA bx bz m L ss ls/\SA≠p/\LA≠p/\L<=60/\
 ∀ (t V1 V2:Addr) (V3 V4:List Addr) (M:Nat) (H':Hp),H' t=some (.tup [.ref V1,.ref V2])->cI H' V1 V2 V3 V4 m M ss ls->M<=L->V1≠p->V2≠p->ba p H H'->bn H' p->Q (.ref t) H'
theorem Qk{f:Addr}{fd:FuncData}(F:fR K "_law_cut" "_law_cut" VZ f fd)(B:Bl mg)(TK:b_ P w K mg base a9 1 "_law_take" ["_law_pot_here","_law_many"] lV):bv P w K mg base a9 2 f fd ["_law_pot_here","_law_stands","_law_log_here"] Mr:=by
 refine F.ok Qj (fun vs H Q E h=>?_) (fun dM A outer s0 H vs Q E hr h=>?_)
 .obtain⟨p,SA,LA,bx,bz,m,L,ss,ls,rfl,_⟩:=h;rfl
 .obtain⟨p,SA,LA,bx,bz,m,L,ss,ls,rfl,hp,LG,SS,SU,zC,q⟩:=h;have h1:bW 1 _:=hr.mono (by decide);refine⟨_,(ah (bA (aM zT (aD TK h1 aP (aa (pv 0) (aa aq ag))) aq (aL _)) (al (aF (f_ (aa (pv 1) (aa (pv 2) ag))))) aQ)
   (ah (aO (i:=3) Qj.nd rfl (Or.inl rfl) (aD TK h1 aP (aa (pv 0) (aa (bp dC (aA aH (by rfl) B.len cG (aa (pv 2) ag)) aq) ag))))
   (al (aF (f_ (aa (vT zZ (pv 1) zU (zV (bp dC (pv 3) aq))) (aa (vT zZ (pv 2) zU (zV (pv 3))) ag))))))),?_⟩
  refine⟨_,rfl,p,3,rfl,by decide,by decide,hp,fun d a b d0 d1 a0 b0 b1=>⟨_,_,rfl,rfl,_,rfl,?_⟩⟩;have NQ:bn (upd H p (.lst [.int a,.int b])) p:=bn.upd a0 b0 b1;have V5:ba p H (upd H p (.lst [.int a,.int b])):=ba.upd;have Sy:=LG.gp V5 hp SS SU;generalize upd H p (.lst [.int a,.int b])=H1 at *;refine bN (fun e=>?_) (fun e=>?_)
  .refine⟨_,rfl,_,rfl,by show 2<=sizeLine;decide,fun t ht=>?_⟩;have st:=aj (o:=.tup [.ref SA,.ref LA]) ht;exact q t SA LA bx bz L _ af (Sy.same st) (aZ _) SS SU (V5.trans (ba.of st)) (NQ.same st)
  .obtain⟨g1,g2,g3,g4,g5,g6⟩:=Sy;have ll:(((bz.map V.ref).length:Nat):Int)=(L:Int):=by rw[aN,g4.1]
   refine⟨_,rfl,_,rfl,LA,_,rfl,.inl (aT.of g2),_,_,rfl,rfl,p,_,rfl,by lia,by lia,NQ,fun d2 a2 b2 e0 e1 c0 c1 c2=>?_⟩;have wS:bn (upd H1 p (.lst [.int a2,.int b2])) p:=bn.upd c0 c1 c2;have Ez:ba p H1 (upd H1 p (.lst [.int a2,.int b2])):=ba.upd;have V6:=cI.gp ⟨g1,g2,g3,g4,g5,g6⟩ Ez NQ SS SU;generalize upd H1 p (.lst [.int a2,.int b2])=H2 at *;obtain⟨k,rfl⟩:∃k:Nat,(k:Int)=d2:=⟨d2.toNat,by lia⟩
   have kL:k<=L:=by lia
   obtain⟨g1,g2,g3,g4,g5,g6⟩:=V6;refine⟨_,rfl,_,rfl,_,_,rfl,rfl,_,rfl,SA,_,rfl,aT.of g1,fun S2 YT=>?_⟩;rw[show ((k:Int)+1)=((k+1:Nat):Int) by lia,xa];have s3:=aj (o:=.lst ((bx.take (k+1)).map V.ref)) YT;refine⟨_,rfl,_,rfl,_,rfl,LA,_,rfl,aT.of (s3 _ _ g2),fun L2 ND=>?_⟩;rw[xa];have s4:=aj (o:=.lst ((bz.take k).map V.ref)) ND;have hSn:(upd (upd H2 S2 (.lst ((bx.take (k+1)).map V.ref))) L2 (.lst ((bz.take k).map V.ref))) S2=some (.lst ((bx.take (k+1)).map V.ref)):=s4 _ _ af;have hLn:(upd (upd H2 S2 (.lst ((bx.take (k+1)).map V.ref))) L2 (.lst ((bz.take k).map V.ref))) L2=some (.lst ((bz.take k).map V.ref)):=af;have s34:=s3.trans s4;have nS:S2≠p:=by rintro rfl;exact wS.some YT
   have nL:L2≠p:=by rintro rfl;exact(wS.same s3).some ND
   generalize upd (upd H2 S2 (.lst ((bx.take (k+1)).map V.ref))) L2 (.lst ((bz.take k).map V.ref))=H3 at *;refine⟨by show 2<=sizeLine;decide,fun t ht=>?_⟩;have st:=aj (o:=.tup [.ref S2,.ref L2]) ht;have s5:=s34.trans st;exact q t S2 L2 _ _ k _ af ⟨st _ _ hSn,st _ _ hLn,tf (g3.mono fun j _ e=>s5 _ _ e) (by lia),tf (g4.mono fun j _ e=>s5 _ _ e) kL,fun b hb=>g5 b (by lia),fun b hb=>g6 b (by lia)⟩ kL nS nL (V5.trans (Ez.trans (ba.of s5))) (wS.same s5)
theorem V7:aG ["_law_found","_law_due"] ["_law_found","_law_due"] (am V0):=⟨rfl,rfl,rfl,by decide +kernel,rfl,by decide +kernel,by decide +kernel⟩
def Ms:Sp:=fun vs H Q _=>∃ (a b:Addr) (os:List Nat),vs=[.ref a,.ref b]/\H a=some (.lst (NV os))/\H b=some (.lst (NV os))/\os.length<=100/\∀H',aE H H'->Q (.bl true) H'
theorem Ql{f:Addr}{fd:FuncData}(F:fR K "_law_is_list" "_law_is_list" V0 f fd)(B:Bl mg):bv P w K mg base a9 1 f fd ["_law_found","_law_due"] Ms:=by
 refine F.ok V7 (fun vs H Q E h=>?_) (fun dM A outer s H vs Q E hr h=>?_)
 .obtain⟨a,b,os,rfl,_⟩:=h;rfl
 .obtain⟨a,b,os,rfl,ha,hb,ol,q⟩:=h;refine'⟨_,(ah (bA (PW.pt (oe (dW (dB (aA eR (by rfl) B.DT kI (aa (pv 0) (aa (fH (v:=.ty "list") rfl B.lst tE rfl) ag))))) (lI (aM (Ie (d:=0) hr.u) (pv 0) (pv 1) (aL _))))) (al (aF fP)) aQ)
   (al (aF (aA (BS rfl) (by rfl) B.all PyProof.Rows.boot_all (aa ?c1 ag))))),?_⟩
  case c1=>
   refine' cR (g:=(bD 0)) (te:=(Jc (RV (KM K) (cH (be 0) (cH (tC (.ty "int")) lJ))) (Jd (RV (KM K) (cH (be 0) (cH (tC (.ty "bool")) lJ)))))) (NB:=["_law_one"]) (src:=[none]) (cg (by kernel_rfl)) rfl (cf (pv 0)) ?g ?t ?e;case g=>exact fun cl C s₃ H₃ fp=>(aB (i:=0) Mq rfl (Or.inl rfl) (Or.inr rfl))
   case t=>exact fun cl C s₃ H₃ fp=>fg
   case e=>exact fun cl C s₃ H₃ fp=>(ff (aA eR (by rfl) B.DT kI (aa (pv 0) (aa (fH (v:=.ty "int") rfl B.int pJ rfl) ag))) (fY (yr (aA eR (by rfl) B.DT kI (aa (pv 0) (aa (fH (v:=.ty "bool") rfl B.bool xI rfl) ag))))))
  refine⟨_,rfl,_,_,_,.type "list",true,rfl,⟨rfl,kZ⟩,.of (.lst ha),true,rfl,?_⟩;refine bN (fun e=>absurd e (by decide)) (fun _=>?_);refine⟨_,rfl,_,rfl,a,b,_,_,rfl,rfl,aT.of ha,aT.of hb,rfl,E8,_,rfl,?_⟩;refine bN (fun e=>absurd e (by decide)) (fun _=>?_);refine⟨_,rfl,a,rfl,⟨_,aT.of ha⟩,fun D hD=>?_⟩;refine AM os (fun (x:Nat)=>V.int (x:Int)) (fun _=>V.bl true) (fun σ=>∃x,σ=[x]) ha hD (by lia) ⟨_,rfl⟩ ?_ ?_
  .rintro x σ H2 R Kf hx ⟨x',rfl⟩ sm kk;refine⟨_,rfl,_,_,_,.type "int",true,rfl,⟨rfl,hU⟩,.of (.int _),true,rfl,?_⟩;exact kY ⟨_,rfl,_,_,_,.type "int",false,rfl,⟨rfl,gv⟩,.of (.int _),false,rfl,kk _ _ ⟨_,rfl⟩ (aE.refl _)⟩
  .intro H2 sm l0;have e0:(os.map fun _=>V.bl true)=(os.map fun _=>true).map V.bl:=by rw[fN];rfl
   rw[e0] at l0;refine⟨D,_,rfl,aT.of l0,?_⟩;have e:(os.map fun _=>true).all id=true:=by
    rw[mZ];intro x sA;obtain⟨_,_,rfl⟩:=bQ.mp sA;rfl
   rw[e];exact q _ sm
theorem AO:aG ["_law_outs","_law_fars_here","_law_homes","_law_stand","_law_stands","_law_log_here","_law_beat"] ["_law_outs","_law_fars_here","_law_homes","_law_stand"] (am Mp):=⟨rfl,rfl,rfl,by decide +kernel,rfl,by decide +kernel,by decide +kernel⟩
def zD:Sp:=fun vs H Q _=>∃ (O r a S:Addr) (as ds:List Addr) (n:Nat) (g:Nat->List Nat) (hs:List Int) (s:List (Option Nat)),vs=[.ref O,.ref r,.ref a,.ref S]/\fq H O as n g/\eW H r ds n g/\gf n g/\H a=some (.tup (HV hs))/\H S=some (.tup (SV s))/\s.length=hs.length/\s.length<=16/\d9 n g s/\PR n hs s/\
 ∀ (t SA LA:Addr) (bx bz:List Addr) (L:Nat) (ss ls:Nat->List (Option Nat)) (H':Hp),H' t=some (.tup [.ref SA,.ref LA])->cI H' SA LA bx bz s.length L ss ls->gx n g hs L ss ls []->L<=60->aE H H'->H SA=none->H LA=none->Q (.ref t) H'
theorem Mt{f:Addr}{fd:FuncData}(F:fR K "_law_log" "_law_log" Mp f fd)(B:Bl mg)(NE:b_ P w K mg base a9 2 "_law_nearest" ["_law_outs","_law_fars_here","_law_homes","_law_stand"] Mh)(BE:b_ P w K mg base a9 1 "_law_behind" ["_law_homes","_law_stand","_law_gone"] EC):
  bv P w K mg base a9 3 f fd ["_law_outs","_law_fars_here","_law_homes","_law_stand"] zD:=by
 refine F.ok AO (fun vs H Q E h=>?_) (fun dM A outer s0 H vs Q E hr h=>?_)
 .obtain⟨O,r,a,S,as,ds,n,g,hs,s,rfl,_⟩:=h;rfl
 .obtain⟨O,r,a,S,as,ds,n,g,hs,s,rfl,OF,FR,G,ha,hS,sl,LU,R,HM,q⟩:=h;have h1:bW 1 _:=hr.mono (by decide);have h2:bW 2 _:=hr.mono (by decide);refine'⟨_,(ah (aO (i:=4) AO.nd rfl (Or.inl rfl) (dY (aa (pv 3) ag)))
   (ah (aO (i:=5) AO.nd rfl (Or.inl rfl) (dY ag))
   (ah (dO eN rfl (et rfl B.range (aa aq ag)) (aB (i:=6) AO.nd rfl (Or.inl rfl))
    (al (bA (aM (Dt (e:=uC) hr.u) ?c1 (dY ag) (aL _)) (ah (cP (iA im kM kK dj (pv 5) (aa (aD NE h2 aP (aa (pv 0) (aa (pv 1) (aa (pv 2) (aa (au az (pv 4) (oh jJ aq) (fun _ _=>rfl)) ag))))) ag)))
     (al (cP (iA im kM kK dj (pv 4) (aa (aD BE h1 aP (aa (pv 2) (aa (au az (pv 4) (oh jJ aq) (fun _ _=>rfl)) (aa (au az (pv 5) (oh jJ aq) (fun _ _=>rfl)) ag)))) ag))))) aQ)))
   (al (aF (f_ (aa (pv 4) (aa (pv 5) ag)))))))),?_⟩
  case c1=>
   refine' cR (g:=(bD 0)) (tt:=(mh (mf (fun x y H Q=>y=.bJ/\Q (.bl (!decide (x=.bJ))) H) (be 0) (tC .bJ)))) (te:=(be 0)) (NB:=["_law_house"]) (src:=[none]) (cg (by kernel_rfl)) rfl (Ko (au az (pv 4) (oh jJ aq) (fun _ _=>rfl))) ?g ?t ?e;case g=>exact fun cl C s₃ H₃ fp=>(aB (i:=0) E7 rfl (Or.inl rfl) (Or.inr rfl))
   case t=>exact fun cl C s₃ H₃ fp=>fh (aM uw (pv 0) ce (aL _))
   case e=>exact fun cl C s₃ H₃ fp=>(pv 0)
  refine⟨_,rfl,by show 1<=sizeLine;decide,fun SA SW=>⟨by show 0<=sizeLine;decide,fun LA V8=>?_⟩⟩;have V9:SA≠LA:=ai af V8;have Qm:H LA=none:=(aj SW).free V8;have NM:=(aj (o:=.lst [.ref S]) SW).trans (aj (o:=.lst []) V8)
  let J:Nat->Hp->Prop:=fun i Hc=>aE H Hc/\∃bx bz L ss ls,L<=i/\cI Hc SA LA bx bz s.length L ss ls/\d9 n g (ss L)/\gx n g hs L ss ls []
  have J0:J 0 (upd (upd H SA (.lst [.ref S])) LA (.lst [])):=by
   refine⟨NM,[S],[],0,fun _=>s,fun _=>[],aZ _,⟨by rw[ak V9];exact af,af,⟨rfl,fun j hj=>?_⟩,Holds.nil,fun b _=>rfl,fun b hb=>absurd hb (by lia)⟩,R,gx.start HM R sl⟩;have:j=0:=by lia
   subst this;exact NM _ _ hS
  refine⟨60,rfl,by decide,by decide,eX (n:=60) (lo:=0) (fun i σ Hc=>(∃v6,σ=[some (.ref O),some (.ref r),some (.ref a),some (.ref S),some (.ref SA),some (.ref LA),v6])/\J i Hc) ⟨⟨_,rfl⟩,J0⟩ ?_ ?_⟩
  .rintro i σ Hc hi ⟨⟨v6,rfl⟩,sc,bx,bz,L,ss,ls,hL,LG,RC,LN⟩;obtain⟨g1,g2,g3,g4,g5,g6⟩:=LG;have LG:cI Hc SA LA bx bz s.length L ss ls:=⟨g1,g2,g3,g4,g5,g6⟩
   have YU:(ss L).length=s.length:=g5 L (aZ _);have hT:=g3.2 L (by lia);refine⟨_,rfl,_,rfl,SA,_,_,_,rfl,rfl,aT.of g1,mK g3.1,_,rfl,⟨_,cx.of hT⟩,fun D hD=>?_⟩;refine Cd (K:=K) (xs:=SV (ss L)) (fun j ys σ H3=>(∃b,σ=[b])/\ys.length<=j/\aE Hc H3/\H3 D=some (.lst ys)) ⟨⟨_,rfl⟩,aZ _,aj hD,af⟩ (fun j ys σ H3 _ z=>cx.of (z.2.2.1 _ _ hT)) ?_ ?_
   .rintro j x ys σ H3 Kt Kf hx ⟨⟨b,rfl⟩,yl,sm,kF⟩ kt kf;have hj:=(cK.mp hx).1;rw[aN] at hj;refine⟨_,rfl,rfl,_,rfl,?_⟩;refine bN (fun e=>?_) (fun e=>kf _ _ ⟨⟨_,rfl⟩,by lia,sm,kF⟩);exact⟨_,rfl,kt _ _ _ kF (gh yl (bU (show j<17 by lia) (by decide))) ⟨⟨_,rfl⟩,by rw[cr,pK];lia,dE.bE sm hD,af⟩⟩
   rintro ys σ H3 ⟨_,_,sm,kF⟩;dsimp only;refine⟨by show 0<=sizeLine;decide,fun E1 Ib=>?_⟩;have s3:=sm.trans (aj (o:=.lst []) Ib);have B5:=aj (o:=.lst []) Ib _ _ kF;refine⟨D,E1,_,[],rfl,rfl,aT.of B5,aT.of af,fun i h1 h2=>absurd h2 (by simp),_,rfl,?_⟩;have YV:=LG.same s3;have Qn:=sc.trans s3;generalize upd H3 E1 (.lst [])=H4 at *;refine bN (fun _=>?_) (fun _=>⟨⟨_,rfl⟩,Qn,bx,bz,L,ss,ls,by lia,YV,RC,LN⟩);obtain⟨g1,g2,g3,g4,g5,g6⟩:=YV;refine⟨_,rfl,.inl ⟨rfl,_,aT.of g2⟩,_,rfl,_,rfl,_,rfl,_,rfl,_,rfl,SA,_,_,_,rfl,rfl,aT.of g1,mK g3.1,O,r,a,bx.getD L 0,as,ds,n,g,hs,ss L,rfl,OF.same Qn,FR.same Qn,G,Qn _ _ ha,g3.2 L (by lia),by lia,by lia,RC,HM.1,fun t gs H5 s5 ht Hd nf=>?_⟩;have gl:gs.length=s.length:=by rw[Hd.len];exact YU
   have Mu:=s5 _ _ g2;refine⟨LA,_,_,rfl,rfl,Mu,by rw[aN,g4.1];exact bU (show L<61 by lia) (by decide),?_⟩;have Cs:aE H (upd H5 LA (.lst (bz.map V.ref++[.ref t]))):=dE.bE (Qn.trans s5) Qm;have kt6:qT H4 (upd H5 LA (.lst (bz.map V.ref++[.ref t]))):=(qT.of s5).trans (qT.upd Mu);have NP:(upd H5 LA (.lst (bz.map V.ref++[.ref t]))) SA=some (.lst (bx.map V.ref)):=by rw[ak V9];exact s5 _ _ g1
   have Qa:(upd H5 LA (.lst (bz.map V.ref++[.ref t]))) LA=some (.lst ((bz++[t]).map V.ref)):=by rw[af,cD];rfl
   have SX:(upd H5 LA (.lst (bz.map V.ref++[.ref t]))) t=some (.tup (SV gs)):=qT.upd Mu _ _ ht;generalize upd H5 LA (.lst (bz.map V.ref++[.ref t]))=H6 at *;have ll:(bz++[t]).length=L+1:=by rw[cr,g4.1];rfl
   have Qo:fu ((bz++[t]).map V.ref) (-1)=some (.ref t):=by rw[mK ll,kd g4.1,ao rfl]
   refine⟨_,rfl,.inl ⟨rfl,_,aT.of NP⟩,_,rfl,_,rfl,_,rfl,SA,_,_,_,rfl,rfl,aT.of NP,mK g3.1,_,rfl,_,rfl,LA,_,_,_,rfl,rfl,aT.of Qa,Qo,a,t,_,hs,gs,rfl,Cs _ _ ha,SX,by lia,by lia,fun r2 H7 s7 Np=>?_⟩;have SY:=s7 _ _ NP;refine⟨SA,_,_,rfl,rfl,SY,by rw[aN,g3.1];exact bU (show L+1<62 by lia) (by decide),?_⟩;have Mn:aE H (upd H7 SA (.lst (bx.map V.ref++[.ref r2]))):=dE.bE (Cs.trans s7) SW;have kt8:qT H4 (upd H7 SA (.lst (bx.map V.ref++[.ref r2]))):=(kt6.trans (qT.of s7)).trans (qT.upd SY);have VT:(upd H7 SA (.lst (bx.map V.ref++[.ref r2]))) SA=some (.lst ((bx++[r2]).map V.ref)):=by rw[af,cD];rfl
   have hL8:(upd H7 SA (.lst (bx.map V.ref++[.ref r2]))) LA=some (.lst ((bz++[t]).map V.ref)):=by rw[ak V9.symm];exact s7 _ _ Qa
   have ht8:(upd H7 SA (.lst (bx.map V.ref++[.ref r2]))) t=some (.tup (SV gs)):=qT.upd SY _ _ (s7 _ _ SX);have hr8:(upd H7 SA (.lst (bx.map V.ref++[.ref r2]))) r2=some (.tup (SV (bh hs gs))):=qT.upd SY _ _ Np;generalize upd H7 SA (.lst (bx.map V.ref++[.ref r2]))=H8 at *;have mv:=Hd.moves G RC;have R5:d9 n g (bh hs gs):=Hd.right G RC ve (fun i=>JJ i);have bl:(bh hs gs).length=s.length:=by rw[ve];exact gl
   exact⟨⟨_,rfl⟩,Mn,_,_,L+1,_,_,by lia,cI.push ⟨g1,g2,g3,g4,g5,g6⟩ kt8 VT hL8 ht8 hr8 bl mv,by rw[i_];exact R5,LN.push G RC Hd nf⟩
  .rintro σ Hc ⟨⟨v6,rfl⟩,sc,bx,bz,L,ss,ls,hL,LG,RC,LN⟩;refine⟨_,rfl,_,rfl,by show 2<=sizeLine;decide,fun t ht=>?_⟩;have st:=aj (o:=.tup [.ref SA,.ref LA]) ht;exact q t SA LA bx bz L ss ls _ af (LG.same st) LN hL (sc.trans st) SW Qm
end
abbrev V_:Stmt:=gy 50
theorem xb{hs:List Int}{ls:Nat->List (Option Nat)}{nx:Nat->Nat->Nat}{k b c:Nat}(h:k9 hs (ls b) c=true):w6 hs ls nx (k+1) b c=some [c]:=ao h
theorem xc{hs:List Int}{ls:Nat->List (Option Nat)}{nx:Nat->Nat->Nat}{k b c:Nat}(h:k9 hs (ls b) c≠true):w6 hs ls nx (k+1) b c=(w6 hs ls nx k (b+1) (nx (b+1) c)).map (c::·):=ap h
theorem xf{o:Option (List Nat)}{zs:List Nat}{c:Nat}:(o.map (c::·)).map (zs++·)=o.map ((zs++[c])++·):=by
 cases o with
 |none=>rfl
 |some l=>show some (zs++(c::l))=some ((zs++[c])++l);rw[jc];rfl
theorem xg{hs:List Int}{l:List (Option Nat)}{c:Nat}:decide (jq (l.getD c none)=V.int (hs.getD c 0))=k9 hs l c:=by
 unfold k9;cases l.getD c none with
 |none=>exact cE fun z=>by cases z
 |some o=>exact oY
section
variable {P:Program} {w:World} {K:PySem.W.Frag} {mg:Str->Option Value} {base:Heap}
theorem Ce:aG ["_law_outs","_law_fars_here","_law_homes","_law_stands","_law_log_here","_law_i","_law_beat","_law_found","_law_one","_law_at","_law_stand"] ["_law_outs","_law_fars_here","_law_homes","_law_stands","_law_log_here","_law_i","_law_beat"] (am V_):=⟨rfl,rfl,rfl,by decide +kernel,rfl,by decide +kernel,by decide +kernel⟩
def Ih:Sp:=fun vs H Q _=>∃ (O r a SA LA:Addr) (as ds bx bz:List Addr) (n L:Nat) (g:Nat->List Nat) (hs ns:List Int) (ss ls:Nat->List (Option Nat)) (i b:Nat),vs=[.ref O,.ref r,.ref a,.ref SA,.ref LA,.int i,.int b]/\fq H O as n g/\eW H r ds n g/\gf n g/\eJ n (bb n g)/\H a=some (.tup (HV hs))/\hs.length<=16/\cI H SA LA bx bz hs.length L ss ls/\gx n g hs L ss ls ns/\L<=60/\i<hs.length/\b<L/\
 ∀ (v:V) (H':Hp),aE H H'->E9 H H' v (AK n g hs L ss ls b i)->Q v H'
theorem Qp{f:Addr}{fd:FuncData}(F:fR K "_law_blame" "_law_blame" V_ f fd)(B:Bl mg)(LE:b_ P w K mg base a9 1 "_law_is_led" ["_law_fars_here","_law_homes","_law_stand","_law_gone","_law_i"] E2)(TR:b_ P w K mg base a9 1 "_law_taker" ["_law_stand","_law_gone","_law_i","_law_house"] Me)(GO:b_ P w K mg base a9 1 "_law_goods" ["_law_outs","_law_fars_here","_law_home","_law_house"] HW):bv P w K mg base a9 2 f fd ["_law_outs","_law_fars_here","_law_homes","_law_stands","_law_log_here","_law_i","_law_beat"] Ih:=by
 refine F.ok Ce (fun vs H Q E h=>?_) (fun dM A outer s0 H vs Q E hr h=>?_)
 .obtain⟨O,r,a,SA,LA,as,ds,bx,bz,n,L,g,hs,ns,ss,ls,i,b,rfl,_⟩:=h;rfl
 .obtain⟨O,r,a,SA,LA,as,ds,bx,bz,n,L,g,hs,ns,ss,ls,i,b,rfl,OF,FR,G,Fi,ha,Cf,LG,LN,zC,hi,hb,q⟩:=h;have h1:bW 1 _:=hr.mono (by decide);refine⟨_,(ah (bA (dW (dB (aD LE h1 aP (aa (pv 1) (aa (pv 2) (aa (au az (pv 3) (pv 6) (fun _ _=>rfl)) (aa (au az (pv 4) (pv 6) (fun _ _=>rfl)) (aa (pv 5) ag)))))))) (al (aF ce)) aQ)
   (ah (aO (i:=7) Ce.nd rfl (Or.inl rfl) (dY ag))
   (ah (aO (i:=8) Ce.nd rfl (Or.inl rfl) (pv 5))
   (ah (dO eN rfl (rX rfl B.range (aa (pv 6) (aa (aA aH (by rfl) B.len cG (aa (pv 4) ag)) ag))) (aB (i:=9) Ce.nd rfl (Or.inl rfl))
    (ah (aO (i:=10) Ce.nd rfl (Or.inl rfl) (au az (pv 3) (pv 9) (fun _ _=>rfl)))
    (ah (bA (dB (aD LE h1 aP (aa (pv 1) (aa (pv 2) (aa (pv 10) (aa (au az (pv 4) (pv 9) (fun _ _=>rfl)) (aa (pv 8) ag))))))) (al (aO (i:=8) Ce.nd rfl (Or.inl rfl) (aD TR h1 aP (aa (pv 10) (aa (au az (pv 4) (pv 9) (fun _ _=>rfl)) (aa (pv 8) (aa (au az (aD GO h1 aP (aa (pv 0) (aa (pv 1) (aa (au aU (pv 2) (pv 8) (fun _ _=>rfl)) (aa (au aU (pv 10) (pv 8) (fun _ _=>rfl)) ag))))) aq (fun _ _=>rfl)) ag))))))) aQ)
    (ah (cP (iA im kM kK dj (pv 7) (aa (pv 8) ag)))
    (al (bA (aM eQ (au aU (au az (pv 4) (pv 9) (fun _ _=>rfl)) (pv 8) (fun _ _=>rfl)) (au aU (pv 2) (pv 8) (fun _ _=>rfl)) (aL _)) (al (aF (pv 7))) aQ))))))
   (al (aF ce)))))),?_⟩
  obtain⟨g1,g2,g3,g4,g5,g6⟩:=LG;have LG:cI H SA LA bx bz hs.length L ss ls:=⟨g1,g2,g3,g4,g5,g6⟩
  have YW:∀c,c<L->c_ g (ss c) (ls c):=LN.r.tie;have NJ:∀c,c<=L->∀i h,(ss c).getD i none=some h->h<n:=fun c hc=>LN.r.lt c hc;refine⟨_,rfl,_,rfl,_,rfl,_,rfl,SA,_,_,_,rfl,rfl,aT.of g1,eK (by rw[g3.1];lia),_,rfl,_,rfl,LA,_,_,_,rfl,rfl,aT.of g2,eK (by rw[g4.1];exact hb),_,rfl,r,a,bx.getD b 0,bz.getD b 0,ds,n,g,hs,ss b,ls b,i,rfl,FR,ha,g3.2 b (by lia),g4.2 b hb,g5 b (by lia),YW b hb,G,NJ b (by lia),LN.hm,hi,_,rfl,?_⟩;unfold AK at q;refine bN (fun e=>?_) (fun e=>?_)
  .have e':gN n g hs (ss b) (ls b) i=false:=by simpa using e
   rw[ap (fun z=>by rw[e'] at z;cases z.2)] at q;exact q .bJ H (aE.refl _) rfl
  have e':gN n g hs (ss b) (ls b) i=true:=by simpa using e
  rw[ao ⟨hb,e'⟩] at q;refine⟨by show 0<=sizeLine;decide,fun Fo Wa=>?_⟩;have sF:=aj (o:=.lst []) Wa;have LV:(((bz.map V.ref).length:Nat):Int)=(L:Int):=by rw[aN,g4.1]
  refine⟨_,rfl,_,rfl,_,rfl,LA,_,rfl,.inl (aT.of (sF _ _ g2)),b,L,by rw[LV],⟨by lia,by lia,by lia,by lia⟩,?_⟩;have en:((L:Int)-(b:Int)).toNat=L-b:=by lia
  rw[en];refine eX (n:=L-b) (lo:=(b:Int)) (fun k σ Hc=>∃ (one:Nat) (zs:List Nat),(∃v9 FM,σ=[some (.ref O),some (.ref r),some (.ref a),some (.ref SA),some (.ref LA),some (.int i),some (.int b),some (.ref Fo),some (.int one),v9,FM])/\aE H Hc/\Hc Fo=some (.lst (NV zs))/\zs.length=k/\one<hs.length/\
    w6 hs ls (jX n g hs ss ls) (L-b) b (jX n g hs ss ls b i)=(w6 hs ls (jX n g hs ss ls) (L-b-k) (b+k) (jX n g hs ss ls (b+k) one)).map (zs++·)) ⟨i,[],⟨_,_,rfl⟩,sF,af,rfl,hi,?_⟩ ?_ ?_
  .show _=(w6 hs ls (jX n g hs ss ls) (L-b) b (jX n g hs ss ls b i)).map ([]++·);cases w6 hs ls (jX n g hs ss ls) (L-b) b (jX n g hs ss ls b i) <;> rfl
  .rintro k σ Hc hk ⟨one,zs,⟨v9,FM,rfl⟩,sc,YX,zl,ol,ch⟩;have FS:b+k<L:=by lia
   have Wb:=LG.same sc;obtain⟨c1,c2,c3,c4,c5,c6⟩:=Wb;have SZ:(b:Int)+(k:Int)=((b+k:Nat):Int):=by lia
   have rS:fu (bx.map V.ref) ((b:Int)+(k:Int))=some (.ref (bx.getD (b+k) 0)):=by rw[SZ];exact eK (by rw[c3.1];lia)
   have rL:fu (bz.map V.ref) ((b:Int)+(k:Int))=some (.ref (bz.getD (b+k) 0)):=by rw[SZ];exact eK (by rw[c4.1];exact FS)
   have Wc:=c3.2 (b+k) (by lia);have YY:=c4.2 (b+k) FS;have Hd:=YW _ FS;refine⟨_,rfl,_,rfl,SA,_,_,_,rfl,rfl,aT.of c1,rS,?_⟩;refine⟨_,rfl,_,rfl,_,rfl,_,rfl,_,rfl,LA,_,_,_,rfl,rfl,aT.of c2,rL,_,rfl,r,a,bx.getD (b+k) 0,bz.getD (b+k) 0,ds,n,g,hs,ss (b+k),ls (b+k),one,rfl,FR.same sc,sc _ _ ha,Wc,YY,g5 _ (by lia),Hd,G,NJ _ (by lia),LN.hm,ol,_,rfl,?_⟩;refine Et (fun σ Hx=>σ=[some (.ref O),some (.ref r),some (.ref a),some (.ref SA),some (.ref LA),some (.int i),some (.int b),some (.ref Fo),some (.int ((jX n g hs ss ls (b+k) one:Nat):Int)),some (.int ((b:Int)+(k:Int))),some (.ref (bx.getD (b+k) 0))]/\aE Hc Hx/\jX n g hs ss ls (b+k) one<hs.length) ?_ (fun led kc=>?_) (fun nl=>?_)
   .rintro σ Hx ⟨rfl,sx,nl⟩;have YZ:=sx _ _ YX;refine⟨_,rfl,.inl ⟨rfl,_,aT.of YZ⟩,_,rfl,Fo,_,_,rfl,rfl,YZ,by rw[aN,zl];exact bU (show k<61 by lia) (by decide),?_⟩;have s2:aE H (upd Hx Fo (.lst (NV zs++[.int ((jX n g hs ss ls (b+k) one:Nat):Int)]))):=dE.bE (sc.trans sx) Wa;have Y0:(upd Hx Fo (.lst (NV zs++[.int ((jX n g hs ss ls (b+k) one:Nat):Int)]))) Fo=some (.lst (NV (zs++[jX n g hs ss ls (b+k) one]))):=by rw[af,gL]
    generalize upd Hx Fo (.lst (NV zs++[.int ((jX n g hs ss ls (b+k) one:Nat):Int)]))=H2 at *;generalize jX n g hs ss ls (b+k) one=Qq at *;have V6:=LG.same s2;obtain⟨d1,d2,d3,d4,d5,d6⟩:=V6;have YG:(ls (b+k)).length=hs.length:=by rw[Hd.len];exact g5 _ (by lia)
    refine⟨_,rfl,_,rfl,LA,_,_,_,rfl,rfl,aT.of d2,rL,_,rfl,bz.getD (b+k) 0,_,_,_,rfl,rfl,cx.of (d4.2 (b+k) FS),dw (by lia),_,rfl,_,rfl,a,_,_,_,rfl,rfl,cx.of (s2 _ _ ha),hW nl,ky,_,rfl,?_⟩;rw[xg];rw[show L-b-k=(L-b-(k+1))+1 by lia] at ch;refine bN (fun hm=>?_) (fun hm=>?_)
    .rw[xb hm] at ch;rw[ch] at q;exact⟨_,rfl,q _ H2 s2 ⟨Fo,rfl,Wa,Y0⟩⟩
    .refine⟨Qq,zs++[Qq],⟨_,_,rfl⟩,s2,Y0,by rw[cr,zl];rfl,nl,?_⟩;rw[xc hm,xf] at ch;exact ch
   .obtain⟨h,o',o,l,j,f1,f2,f3,f4,f5,f6,f7,f8,f9,_⟩:=LN.taker Fi FS led;obtain⟨kk,SL,ek,Cu⟩:=mO LN.hm ol;have kG:fu (SV (ss (b+k))) (one:Int)=some (.int (h:Int)):=by rw[dw (by rw[g5 _ (by lia)];exact ol),f1];rfl
    have jl:j<hs.length:=by have:=(aR f7).1;rw[g5 _ (by lia)] at this;exact this
    have Ml:(g h).filter (fun o=>decide (far (bb n g) o kk<far (bb n g) h kk))=dz n g hs one h:=by unfold dz dH;rw[Cu]
    refine⟨_,rfl,_,rfl,_,rfl,LA,_,_,_,rfl,rfl,aT.of c2,rL,_,rfl,_,rfl,_,rfl,_,rfl,_,rfl,a,_,_,_,rfl,rfl,cx.of (sc _ _ ha),hW ol,_,rfl,_,rfl,bx.getD (b+k) 0,_,_,_,rfl,rfl,cx.of Wc,kG,O,r,as,ds,n,g,kk,h,by rw[ek];rfl,OF.same sc,FR.same sc,G,SL,f4,fun D H6 s6 hD D_=>?_⟩;rw[Ml,f5] at D_;refine⟨D,_,_,_,rfl,rfl,aT.of D_,bg (j:=0) rfl,bx.getD (b+k) 0,bz.getD (b+k) 0,g,ss (b+k),ls (b+k),one,h,o,j,rfl,s6 _ _ Wc,s6 _ _ YY,by rw[g5 _ (by lia)];exact Cf,Hd,f1,f7,f8,fun H7 s7=>?_⟩;refine kc _ _ ⟨?_,s6.trans s7,by rw[f6];exact jl⟩;rw[f6];rfl
   .refine⟨?_,aE.refl _,?_⟩ <;> (unfold jX;rw[ap nl])
    .rfl
    .exact ol
  .rintro σ Hc ⟨one,zs,⟨v9,FM,rfl⟩,sc,YX,zl,ol,ch⟩;rw[show L-b-(L-b)=0 by lia] at ch;have e0:w6 hs ls (jX n g hs ss ls) (L-b) b (jX n g hs ss ls b i)=none:=ch;rw[e0] at q;exact q .bJ Hc sc rfl
end
end vC
namespace L2
open PySem PySem.Spec PyProof.Rows
def cz(cells:List (Str×Addr))(a:Addr):Prop:=∃x,cells.lookup x=some a
abbrev jm(h0:Heap)(b:Addr):HO:=.ext fun h=>h.get? b=h0.get? b
open Classical in
noncomputable def iG(S:Addr->Prop)(h0:Heap)(H:Hp):Hp:=fun b=>if S b then some (jm h0 b) else H b
open Classical in
noncomputable def AQ(S:Addr->Prop)(H:Hp):Hp:=fun b=>if S b then none else H b
section
variable {S:Addr->Prop} {h0 h h':Heap} {H H':Hp} {b:Addr} {P:Program} {w:World} {fs:List Addr}
theorem mQ(e:S b):iG S h0 H b=some (jm h0 b):=ao e
theorem bH(e:¬ S b):iG S h0 H b=H b:=ap e
theorem n6(e:S b):AQ S H b=none:=ao e
theorem eE(e:¬ S b):AQ S H b=H b:=ap e
theorem gR(e:H b=none):AQ S H b=none:=by
 by_cases c:S b
 .exact n6 c
 .rw[eE c];exact e
theorem AR(x:iP P w H h)(l:∀a,S a->H a=some (jm h0 a)):iP P w (AQ S H) h:=fun a o e=>by
 by_cases c:S a
 .rw[n6 c] at e;cases e
 .rw[eE c] at e;exact(x a o e).oG (fun _ _ _ q=>q) (fun d q=>by rw[eE fun z=>by rw[l d z] at q;cases q];exact q) fun d xs q=>by rw[eE fun z=>by rw[l d z] at q;cases q];exact q
theorem xh(x:iP P w H h)(l:∀a,S a->H a=none/\h.get? a=h0.get? a/\∃o,h0.get? a=some o):iP P w (iG S h0 H) h:=fun a o e=>by
 by_cases c:S a
 .rw[mQ c] at e;cases e;obtain⟨_,e1,o,e2⟩:=l a c;exact⟨e1,⟨o,e1.trans e2⟩,fun h1 h2 z k=>(k o (z.trans e2)).trans e2.symm⟩
 .rw[bH c] at e;exact(x a o e).oG (fun _ _ _ q=>q) (fun d q=>by rw[bH fun z=>by rw[(l d z).1] at q;cases q];exact q) fun d xs q=>by rw[bH fun z=>by rw[(l d z).1] at q;cases q];exact q
theorem Mv(u:Un fs [] (iG S h0 H) H' h h')(l:∀a,S a->H a=none/\h.get? a=h0.get? a/\a∉fs)(l':∀a,S a->h'.get? a=h0.get? a):Un fs [] H (AQ S H') h h' where
 keep:=fun b o e n hb hx=>by
  by_cases c:S b
  .rw[l' b c,<-(l b c).2.1];exact e
  .exact u.keep b o e (by rw[bH c];exact n) hb hx
 slot:=fun b o e n hb hx=>u.slot b o e (by rw[bH fun z=>(l b z).2.2 hb];exact n) hb hx
 free:=fun b o e n hx=>by
  by_cases c:S b
  .exact n6 c
  .exact gR (u.free b o e (by rw[bH c];exact n) hx)
 there:=u.there
 lH:=fun b xs e=>by
  have c:¬ S b:=fun z=>by rw[(l b z).1] at e;cases e
  rw[eE c];exact u.lH b xs (by rw[bH c];exact e)
 ng:=fun b o v e=>by
  have c:¬ S b:=fun z=>by rw[(l b z).1] at e;cases e
  rw[eE c];exact u.ng b o v (by rw[bH c];exact e)
 nq:=fun b ps e=>by
  have c:¬ S b:=fun z=>by rw[(l b z).1] at e;cases e
  rw[eE c];exact u.nq b ps (by rw[bH c];exact e)
theorem Ii(u:Un fs [] (AQ S H) H' h h')(l:∀a,S a->H a=some (jm h0 a)):Un fs [] H (iG S h0 H') h h' where
 keep:=fun b o e n hb hx=>u.keep b o e (gR n) hb hx
 slot:=fun b o e n hb hx=>u.slot b o e (gR n) hb hx
 free:=fun b o e n hx=>by
  have c:¬ S b:=fun z=>by rw[l b z] at n;cases n
  rw[bH c];exact u.free b o e (gR n) hx
 there:=u.there
 lH:=fun b xs e=>by
  have c:¬ S b:=fun z=>by rw[l b z] at e;cases e
  rw[bH c];exact u.lH b xs (by rw[eE c];exact e)
 ng:=fun b o v e=>by
  have c:¬ S b:=fun z=>by rw[l b z] at e;cases e
  rw[bH c];exact u.ng b o v (by rw[eE c];exact e)
 nq:=fun b ps e=>by
  have c:¬ S b:=fun z=>by rw[l b z] at e;cases e
  rw[bH c];exact u.nq b ps (by rw[eE c];exact e)
end
structure xi(cells:List (Str×Addr))(h0:Heap)(H:Hp):Prop where
 inj:∀x y c,cells.lookup x=some c->cells.lookup y=some c->x=y
 at_:∀a,cz cells a->H a=some (jm h0 a)
 cell:∀x c,cells.lookup x=some c->∃v,h0.IsCell c v
theorem xi.mono{cells:List (Str×Addr)}{h0:Heap}{H H':Hp}(l:xi cells h0 H)(s:∀a,cz cells a->H a=some (jm h0 a)->H' a=some (jm h0 a)):xi cells h0 H':=⟨l.inj,fun a c=>s a c (l.at_ a c),l.cell⟩
def qZ(cells:List (Str×Addr))(h0:Heap)(x:Str)(v:V):Prop:=∃u c,bf v u/\cells.lookup x=some c/\h0.IsCell c (some u)
def Mw(X:Cx)(sp:Sp)(t:TA):TE:=fun σ H Q=>t σ H fun vs H1=>(∀a,cz X.env.cells a->H1 a=none)->∀h0:Heap,xi X.env.cells h0 (iG (cz X.env.cells) h0 H1)->(∀ (i:Nat) (x:Str) (v:V),X.N[i]?=some x->σ[i]?=some (some v)->X.env.scope.names.lookup x=some .cell->qZ X.env.cells h0 x v)->
 sp vs (iG (cz X.env.cells) h0 H1) (fun v H'=>(∀a,cz X.env.cells a->H' a=some (jm h0 a))/\Q v (AQ (cz X.env.cells) H')) E0
section
variable {X:Cx} {k:Nat} {x:Str} {ps:List Str} {sp:Sp} {e:Expr} {es:List Expr} {t:TA} {p pos:Pos}
theorem Ij(C:b_ X.prog X.w X.K X.mg X.base a9 k x ps sp)(hr:bW k X.A)(N2:X.fn=fun _=>true)(Y1:X.ex=[])(ha:PA X (e::es) t)(hg:Gl X x:=by rfl)(Bg:(x==("__debug__":Str))=false:=by decide)(he:starEach (e::es) X.env=(false,eval e X.env)::starEach es X.env:=by rfl)(xr:(backTo pos (starEach es X.env)).any (·.1)=false:=by rfl):
  PE X (.Call (.Name x p) (e::es) [] pos) (Mw X sp t):=by
 obtain⟨f,fd,hm,hk,hb,F⟩:=C.ex;intro ae s σ H Q I h;refine lj (oX I hg hm ?_ Bg);refine tS (h₀:=X.base) I.ok.mod.Ni hk (bZ (ha pos ae s σ H _ I h) fun us s1 ⟨vs,H1,I1,r,q⟩=>⟨I1.nt,?_⟩) he xr;have cF:∀a,cz X.env.cells a->H1 a=none/\(∃o,s1.heap.get? a=some o)/\a∉A_ X.stack/\X.base.get? a=none:=fun a ⟨y,ey⟩=>by
  obtain⟨v,o,ho,hd⟩:=I1.cell y a ey;have ab:=I1.ok.Nj y a (by rw[N2]) ey;refine⟨I1.jF y a ey,⟨o,ho⟩,fun oM=>?_,lf (br I1.ok.Cn ab)⟩;rcases bL.mp (I1.p_ a oM) with z|z
  .exact I1.IZ y a ey z
  .obtain⟨_,o',CP,_⟩:=I1.ok.nr.mem z;exact absurd (bU (aX CP) ab) (jj _)
 have L:xi X.env.cells s1.heap (iG (cz X.env.cells) s1.heap H1):=⟨I1.ok.inj,fun a c=>mQ c,I1.cell⟩
 have q':=q (fun a c=>(cF a c).1) s1.heap L fun i y v h1 h2 h3=>by
  obtain⟨m,_,hl⟩:=I1.loc;obtain⟨u,ru,lk⟩:=hl i y v h1 h2 (.inr (.inl h3));rcases lk with ⟨z,_⟩|⟨_,c,e1,e2⟩
  .have z:X.env.scope.names.lookup y=some .local:=z;rw[h3] at z;cases z
  .exact⟨u,c,ru,e1,e2⟩
 have E0':vQ X.prog X.w X.K X.mg X.base X.A X.stack s1 (iG (cz X.env.cells) s1.heap H1):=by
  obtain⟨e1,e2,e3,e4,e5,e6,e7,e8⟩:=I1.Kz;refine⟨e1,e2,fun b o eb=>⟨(e3 b o eb).1,?_⟩,e4,e5,fun b oM=>?_,xh e7 fun a c=>⟨(cF a c).1,rfl,(cF a c).2.1⟩,e8⟩
  .rw[bH fun z=>by rw[(cF b z).2.2.2] at eb;cases eb];exact(e3 b o eb).2
  .rw[bH fun z=>(cF b z).2.2.1 oM];exact e6 b oM
 have hl:us.length=ps.length:=by rw[<-r.length];exact F.len _ _ _ _ q'
 have oM:=hb s1 us I1.nt (by rw[m5];exact hl);rw[m5] at oM;refine m7 (lC (F.run X.A X.stack s1 _ ⟨us,[]⟩ us vs _ E0 hr E0' oM r q') fun rr s' hq=>?_);cases rr with
 |error e=>exact hq.elim
 |ok fl=>
  cases fl with
  |ret u=>
   obtain⟨v,H',os,bare,un,bC,rv,k1,k2⟩:=hq;have l':∀a,cz X.env.cells a->s'.heap.get? a=s1.heap.get? a:=fun a c=>(bC a _ (k1 a c)).1;exact I1.after ⟨v,AQ _ H',os,bare,Mv un (fun a c=>⟨(cF a c).1,rfl,(cF a c).2.2.1⟩) l',AR bC k1,rv,k2⟩
  |next=>exact False.elim hq
  |brk=>exact False.elim hq
  |cont=>exact False.elim hq
end
def vv(scope:Scope)(dt:List (Str×Addr))(qual:Str)(f c L:Addr):Env:=
 { scope:=scope,locals:=L,globals:=mainGlobals,cells:=dt,qual:=qual++".<locals>.",func:=some f,code:=.ref c,frame:=some L,builtins:=builtinsNs }
def zE(X:Cx)(NB:List Str)(scope:Scope)(dt:List (Str×Addr))(qual:Str)(f c:Addr)(s:Shared)(H:Hp):Cx:=
 { X with A:=X.A.deeper (vv scope dt qual f c s.heap.objs.size),N:=NB,s₀:=s,H₀:=H,env:=vv scope dt qual f c s.heap.objs.size,outer:=X.stack,stack:=vv scope dt qual f c s.heap.objs.size::X.stack,ex:=[],fn:=fun _=>false,pn:=[],xe:=fun _ _=>False }
structure AS(NB:List Str)(nP:Nat)(scope:Scope)(qual:Str)(params:Arguments)(body:Expr):Prop where
 kind:scope.kind=.function
 nd:NB.Nodup
 bind:∀dt pm c uP us,us.length=nP->bindArgs (PySem.W.kla_fn "<lambda>" qual params body scope dt pm (.ref c) uP) ⟨us,[]⟩=pure ((NB.take nP).zip us)
 par:∀x∈NB.take nP,scope.names.lookup x=some .local
 fr:∀i x,nP<=i->NB[i]?=some x->scope.names.lookup x=some .free
 uQ:∀z∈scope.names,z.2≠.cell
 co:scope.isCoroutine=false
 gen:scope.isGenerator=false
theorem xj{x:Str}{v:Value}:∀ {l:List (Str×Value)},(l.map (·.1)).Nodup->(x,v)∈l->l.lookup x=some v
 |(y,u)::l,nd,h=>by
  obtain⟨n1,n2⟩:=dR.mp nd;rcases bL.mp h with z|z
  .injection z with z1 z2;rw[z1,z2,fv,beq_self_eq_true]
  .have ne:x≠y:=fun e=>n1 (by rw[<-e];exact bQ.mpr ⟨_,z,rfl⟩);rw[fv,show (x==y)=false by simpa using ne];exact xj n2 z
theorem E_{x:Str}{v:Value}{l:List Str}{us:List Value}{i:Nat}(nd:l.Nodup)(hl:l.length<=us.length)(h1:l[i]?=some x)(h2:us[i]?=some v):(l.zip us).reverse.lookup x=some v:=by
 refine xj ?_ (List.mem_reverse.mpr (dQ (i:=i) ?_))
 .rw[List.map_reverse,List.map_fst_zip hl];exact(List.reverse_perm l).nodup_iff.mpr nd
 .rw[List.getElem?_zip_eq_some];exact⟨h1,h2⟩
section
variable {X:Cx} {ae:List (Addr×Obj)} {σ:St} {H:Hp} {s:Shared} {NB:List Str} {nP:Nat} {scope:Scope} {qual:Str} {params:Arguments} {body:Expr} {dt cells:List (Str×Addr)} {f c:Addr} {h₁ h0:Heap} {t₁:Nat} {vs ws:List V} {us:List Value}
theorem Fa(I:aK X ae σ H s)(S:AS NB nP scope qual params body)(hd:X.A.handled=none)(S0:X.calm=true)(c1:∀x c,dt.lookup x=some c->cells.lookup x=some c)(c2:∀x,(x,NameKind.free)∈scope.names->∃c,dt.lookup x=some c)(L:xi cells h0 H)(hw:∀ (i:Nat) (x:Str) (v:V),NB[nP+i]?=some x->ws[i]?=some v->qZ cells h0 x v)(hn:h₁.Ns s.heap.objs.size (fun x=>((NB.take nP).zip us).reverse.lookup x))(hk:∀b o,s.heap.get? b=some o->h₁.get? b=some o)(rv:aV vs us)(hv:vs.length=nP)(dZ:nP+ws.length=NB.length):
  aK (zE X NB scope dt qual f c s (AQ (cz cells) H)) [] ((vs++ws).map some) (AQ (cz cells) H) { s with heap:=h₁,toks:=t₁ }:=by
 have inS:∀ {x c},dt.lookup x=some c->cz cells c:=fun {x c} e=>⟨x,c1 x c e⟩
 have LX:∀a,cz cells a->s.heap.get? a=h0.get? a:=fun a z=>(I.bC a _ (L.at_ a z)).1;have qh:∀x c v,cells.lookup x=some c->h0.IsCell c v->h₁.IsCell c v:=fun x c v e ⟨o,ho,Kg⟩=>⟨o,hk _ _ ((LX c ⟨x,e⟩).trans ho),Kg⟩
 refine⟨⟨I.ok.mod,S.kind,rfl,rfl,aZ _,fun x y c e1 e2=>L.inj x y c (c1 x c e1) (c1 y c e2),fun x hx=>?_,(fun x c z e=>by cases z),fun _=>hd,Around.frames_deeper I.ok.frames,.inr ⟨rfl,rfl⟩,(fun b hb=>by cases hb),fun b o e=>⟨(I.bs b o e).1,gR (I.bs b o e).2⟩,br I.ok.Cn I.sz,(fun b o e hb=>by cases hb),(fun b hb=>by cases hb),I.stack,fun b hb=>gR (I.oW b hb)⟩,
  rfl,I.bare,Un.kept hk,⟨_,hn,fun i x w e1 e2 e3=>?_⟩,fun x c e=>?_,gR (I.bC.fresh (aZ _)),fun x c e=>n6 (inS e),fun p hp=>absurd (show p∈([]:List (Addr×Obj)) from hp) (by simp),(AR I.bC L.at_).kept hk,?_⟩
 .have hx:scope.names.lookup x=some .cell\/scope.names.lookup x=some .free:=hx;rcases hx with z|z
  .exact absurd rfl (S.uQ _ (jr z))
  .exact c2 x (jr z)
 .have e1:NB[i]?=some x:=e1;have e2:(vs++ws)[i]?=some w:=by
   rw[bo] at e2;obtain⟨w',h1,h2⟩:=pA.mp e2;rw[h1];exact h2
  by_cases hi:i<nP
  .rw[ja (by rw[hv];exact hi)] at e2;obtain⟨u,hu,ru⟩:=rv.get e2;have hp:(NB.take nP)[i]?=some x:=by rw[xF hi];exact e1
   have hx:x∈NB.take nP:=dQ hp;refine⟨u,ru,.inl ⟨S.par x hx,?_⟩⟩;exact E_ (S.nd.sublist (tT _ _)) (by rw[<-rv.length,hv];exact xR _ _) hp hu
  .rw[n8 (by rw[hv];lia),hv] at e2;obtain⟨u,c',ru,ec,hc⟩:=hw (i-nP) x w (by rw[show nP+(i-nP)=i by lia];exact e1) e2;have hF:=S.fr i x (by lia) e1;obtain⟨S4,Qr⟩:=c2 x (jr hF);have:S4=c':=by have:=c1 x S4 Qr;rw[ec] at this;exact(aY this).symm
   subst this;exact⟨u,ru,.inr ⟨.inr hF,S4,Qr,qh x S4 _ ec hc⟩⟩
 .obtain⟨v,yy⟩:=L.cell x c (c1 x c e);exact⟨v,qh x c v (c1 x c e) yy⟩
 .show ((vs++ws).map some).length=NB.length;rw[aN,cr,hv];exact dZ
def Fb(nP:Nat)(scope:Scope)(qual:Str)(params:Arguments)(body:Expr)(NB:List Str)(te:TE)(f:Addr)(vs:List V)(H:Hp)(Q:VK):Prop:=∃ (cells:List (Str×Addr)) (c:Addr) (h0:Heap) (ws:List V),H f=some (qo f qual params body scope cells c)/\H c=some (oz c qual)/\vs.length=nP/\nP+ws.length=NB.length/\xi cells h0 H/\
 (∀ (i:Nat) (x:Str) (v:V),NB[nP+i]?=some x->ws[i]?=some v->qZ cells h0 x v)/\te ((vs++ws).map some) (AQ (cz cells) H) fun v H'=>(∀a,cz cells a->H' a=none)->Q v (iG (cz cells) h0 H')
theorem Ik{te:TE}{Q:VK}{k:Nat}(hr:bW k X.A)(S0:X.calm=true)(S:AS NB nP scope qual params body)(I:aK X ae σ H s)(rv:aV vs us)(hb:∀dt c s H,PE (zE X NB scope dt qual f c s H) body te)(h:Fb nP scope qual params body NB te f vs H Q):
  wpAny (model X.prog X.w) X.A (call (.ref f) us) (EP X ae σ Q) X.xe s:=by
 obtain⟨cells,c,h0,ws,hf,hc,hv,dZ,L,hw,h⟩:=h;obtain⟨dt,pm,uP,c1,c2,KI⟩:=(I.bC f _ hf).1;have UE:s.heap.CodeRec (.ref c) qual:=(I.bC c _ hc).1;have Dy:X.A.depth<recursionLimit:=by have:=hr.dp;lia
 have hul:us.length=nP:=by rw[<-rv.length];exact hv
 refine m7 (PySem.W.kla_callFunE Dy KI rfl S.co S.gen rfl UE ?_);rw[S.bind _ _ _ _ _ hul];refine wpAny_pure (wpAny_newFunctionEnv S.uQ (fun x hx=>?_) (fun h₁ KY OX=>⟨I.nolimit.fresh _ OX,?_⟩) S.kind)
 .exact S.par _ (m4 hx).1
 have KZ:∀b o,s.heap.get? b=some o->h₁.get? b=some o:=fun b o e=>OX.extBut b o (aW (aX e)) (cq _ e);refine PySem.W.kla_codeExpr ?_;have J:=Fa (f:=f) (c:=c) (t₁:=s.toks+((NB.take nP).zip us).length) I S hr.hd S0 c1 c2 L hw KY KZ rv hv dZ;refine ic (hb dt c s _ [] _ _ _ _ J h) (fun w s' ⟨v',H',J',r',q'⟩=>?_) fun _ _ z=>z.elim;have kp:∀a,cz cells a->H' a=none/\s'.heap.get? a=h0.get? a/\∃o,h0.get? a=some o:=fun a z=>by
  obtain⟨y,ey⟩:=id z;have e0:s.heap.get? a=h0.get? a:=(I.bC a _ (L.at_ a z)).1;obtain⟨v,o,ho,_⟩:=L.cell y a ey;have es:s.heap.get? a=some o:=e0.trans ho;refine⟨J'.base.free a o es (n6 z) (by intro z;cases z),?_,o,ho⟩;rw[ho];exact J'.base.keep a o es (n6 z) (fun oM=>by have:=I.oW a oM;rw[L.at_ a z] at this;cases this) (by intro z;cases z)
 exact⟨v',iG (cz cells) h0 H',I.Jb (ch:=[]) J'.os (Ii J'.base L.at_) (xh J'.bC kp) J'.bare (fun b hb=>by cases hb),r',q' fun a z=>(kp a z).1⟩
def Qs(i:Nat)(nP:Nat)(scope:Scope)(qual:Str)(params:Arguments)(body:Expr)(NB:List Str)(te:TE)(t:TA):TE:=fun σ H Q=>∃f,σ[i]?=some (some (.ref f))/\(∃cells c,H f=some (qo f qual params body scope cells c))/\t σ H fun vs H1=>Fb nP scope qual params body NB te f vs H1 Q
theorem AT{te:TE}{k i:Nat}{x:Str}{e:Expr}{es:List Expr}{t:TA}{p pos:Pos}(hr:bW k X.A)(S0:X.calm=true)(S:AS NB nP scope qual params body)(hx:PE X (.Name x p) (be i))(ha:PA X (e::es) t)(hb:∀f dt c s H,PE (zE X NB scope dt qual f c s H) body te)(he:starEach (e::es) X.env=(false,eval e X.env)::starEach es X.env:=by rfl)(xr:(backTo pos (starEach es X.env)).any (·.1)=false:=by rfl):
  PE X (.Call (.Name x p) (e::es) [] pos) (Qs i nP scope qual params body NB te t):=by
 intro ae s σ H Q I h;obtain⟨f,hσ,⟨cells,c,hf⟩,h⟩:=h;have fn:∀ {s:Shared} {H:Hp} {cells:List (Str×Addr)} {c:Addr},iP X.prog X.w H s.heap->H f=some (qo f qual params body scope cells c)->PySem.W.FnAt f s.heap:=fun {s H cells c} bC hf=>by
  obtain⟨dt,pm,uP,_,_,e⟩:=(bC f _ hf).1;exact⟨_,_,_,_,e⟩
 refine lj (bZ (hx ae s σ H (fun v H1=>v=.ref f/\H1=H) I ⟨_,hσ,rfl,rfl⟩) fun u s1 ⟨v,H1,I1,r1,ev,eH⟩=>?_);subst ev;subst eH;cases r1;refine PySem.W.callWith_F (fn I1.bC hf) (bZ (ha pos ae s1 σ H1 _ I1 h) fun us s2 ⟨vs,H2,I2,r,q⟩=>⟨?_,?_⟩) he xr
 .obtain⟨Wd,c',_,_,Bw,_⟩:=id q;exact fn I2.bC Bw
 .exact Ik hr S0 S I2 r (hb f) q
end
end L2
namespace dE
open PySem L2 rJ
theorem wO{xs:List Nat}{i:Nat}{x:V}(h:(NV xs)[i]?=some x):∃z,xs[i]?=some z/\x=.int (z:Nat):=by
 rw[bo] at h;obtain⟨z,hz,rfl⟩:=pA.mp h;exact⟨z,hz,rfl⟩
theorem Il{xs ys:List Nat}:NV (xs++ys)=NV xs++NV ys:=cD
theorem Vj:(["other","self","home","own"]:List Str).Nodup:=by decide +kernel
noncomputable def AU(n:Nat)(ts:Ts)(i j:Nat):List Nat:=(eZ n ts i).filter fun o=>decide (far ts o j<far ts i j)
theorem JT(n:Int)(tl ol ds:Addr):(oQ n tl ol ds).lookup ("good":Str)=none:=u7 n tl ol ds (by decide +kernel) (by decide +kernel) (by decide +kernel) (by decide +kernel)
section
variable {P:Program} {w:World} {K:PySem.W.Frag} {mg:Str->Option Value} {base:Heap}
theorem Fc:aG ["self","house","home","own"] ["self","house","home"] (am DZ):=⟨rfl,rfl,rfl,by decide +kernel,rfl,by decide +kernel,by decide +kernel⟩
def pq(C:Addr):Sp:=fun vs H Q _=>∃ (L:Addr->Prop) (p:Addr) (n:Nat) (ts:Ts) (i j:Nat),vs=[.ref p,.int i,.int j]/\cS C H L p n ts/\i<n/\j<n/\∀r H',aE H H'->H r=none->H' r=some (.lst (NV (AU n ts i j)))->Q (.ref r) H'
theorem Fd{f C:Addr}{fd:FuncData}(F:fR K "good" "Net.good" DZ f fd)(T:NT K mg C)(M:mH P w K mg base a9 5 C "far" ["self","one","other"] (nV C)):
  bv P w K mg base a9 6 f fd ["self","house","home"] (pq C):=by
 obtain⟨fM,fdM,mM,bM,GM⟩:=M.ex;refine F.ok Fc (fun vs H Q E h=>?_) (fun dM A outer s H vs Q E hr h=>?_)
 .obtain⟨L,p,n,ts,i,j,rfl,_⟩:=h;rfl
 .obtain⟨L,p,n,ts,i,j,rfl,N,hi,hj,k2⟩:=h;obtain⟨dx,tl,ol,ds,h1,_,_,RO,R,_⟩:=N.ob;have fi:=N.i9;have n2:=fi.n2;refine'⟨_,ah (aO (i:=3) Fc.nd rfl (Or.inr rfl) (iU (pv 0) T.cl mM GM hr bM .nil aP (aa (pv 1) (aa (pv 2) ag))))
   (al (aF ?c)),?_⟩
  case c=>
   refine' cR (g:=bD 0) (tt:=mh (mf (Co fun i j=>.bl (decide (i<j))) (mf (Bj K) (mf (Bj K) (Kx K (be 1) "distances") (be 0)) (be 2)) (be 3))) (te:=be 0) (NB:=["other","self","home","own"]) (src:=[none,some 0,some 2,some 3]) (cg (by kernel_rfl)) rfl (cf (au az (nA (pv 0) rfl) (pv 1) (fun _ _=>rfl))) ?g ?t ?e;case g=>exact fun cl C s₃ H₃ fp=>aB (i:=0) Vj rfl (Or.inl rfl) (Or.inr rfl)
   case t=>exact fun cl C s₃ H₃ fp=>fh (aM qe (au az (au az (nA (pv 1) rfl) (pv 0) (fun _ _=>rfl)) (pv 2) (fun _ _=>rfl)) (pv 3) (aL _))
   case e=>exact fun cl C s₃ H₃ fp=>pv 0
  refine⟨_,rfl,p,dx,_,rfl,h1,B3 _ _ _ _,_,rfl,_,rfl,L,p,n,ts,i,j,rfl,N,hi,hj,?_⟩;obtain⟨bs,b,r1,r2,r3,_⟩:=RO.row hi;refine⟨_,rfl,p,C,dx,_,_,rfl,h1,T.cl,T.nO,G_ _ _ _ _,_,rfl,ol,_,_,_,rfl,rfl,aT.of r1,bg r2,b,rfl,⟨_,aT.of r3⟩,fun D hD=>?_⟩;have nb:b≠D:=ai r3 hD;refine eY (xs:=NV (eZ n ts i)) (fun m ys σ H2=>(∃a,σ=[a,some (.ref p),some (.int (j:Int)),some (.int ((far ts i j:Nat):Int))])/\ys=NV (((eZ n ts i).take m).filter fun o=>decide (far ts o j<far ts i j))/\H2=upd H D (.lst ys)) ⟨⟨_,rfl⟩,by simp,rfl⟩ (fun m ys σ H2 _ ⟨_,_,e⟩=>by rw[e];exact aT.of (by rw[ak nb];exact r3)) ?_ ?_
  .rintro m x ys σ H2 Kt Kf hx ⟨⟨a,rfl⟩,ey,rfl⟩ kt kf;obtain⟨v,hv,rfl⟩:=wO hx;have Sk:v∈eZ n ts i:=dQ hv;have Ed:v<n:=Ax fi hi Sk;have sm:aE H (upd H D (.lst ys)):=aj hD;obtain⟨bs2,b2,q1,q2,q3,_⟩:=R.row Ed;have hg:(NV ((List.range n).map (far ts v)))[j]?=some (.int (far ts v j:Nat)):=by
    rw[bo,bo,lc hj];rfl
   have tk:(eZ n ts i).take (m+1)=(eZ n ts i).take m++[v]:=by rw[iq,hv];rfl
   have hm:m<(eZ n ts i).length:=(cK.mp hv).1;refine⟨_,rfl,p,C,dx,_,_,rfl,sm _ _ h1,T.cl,T.nD,Az _ _ _ _,_,rfl,ds,_,_,_,rfl,rfl,aT.of (sm _ _ q1),bg q2,_,rfl,b2,_,_,_,rfl,rfl,aT.of (sm _ _ q3),bg hg,_,rfl,_,_,rfl,rfl,_,rfl,?_⟩;refine bN (fun e=>?_) (fun e=>?_)
   .refine⟨_,rfl,kt _ _ _ af ?_ ⟨⟨_,rfl⟩,?_,by rw[g7]⟩⟩
    .rw[ey,qP];refine gh (n9 _ _) (gh (xR _ _) (bU (show m<33 from ?_) (by decide)));have:(eZ n ts i).length<=n:=br (n9 _ _) (by simp);lia
    .have:decide (far ts v j<far ts i j)=true:=by simp at e |-;lia
     rw[ey,tk,jt,Il];simp[jv,this]
   .refine kf _ _ ⟨⟨_,rfl⟩,?_,rfl⟩;have:decide (far ts v j<far ts i j)=false:=by simp at e |-;lia
    rw[ey,tk,jt];simp[jv,this]
  .rintro ys σ H2 ⟨_,ey,rfl⟩;rw[qP,gA] at ey;refine k2 D _ (aj hD) hD ?_;rw[af,ey];rfl
end
theorem Fe{ts AV:Ts}(p:ts.Perm AV){a b:Nat}:T ts a b↔T AV a b:=p.mem_iff
theorem kB{ts AV:Ts}(p:ts.Perm AV):∀ {k a b:Nat},dk ts k a b->dk AV k a b
 |0,_,_,e=>e
 |k+1,a,b,⟨c,w,t⟩=>⟨c,kB p w,(Fe p).mp t⟩
theorem tj{n:Nat}{ts AV:Ts}(p:ts.Perm AV)(F:eJ n ts):eJ n AV:=by
 refine⟨F.n1,F.n2,p.nodup_iff.mp F.nd,fun t ht=>F.rg t (p.mem_iff.mpr ht),fun t ht=>F.ne t (p.mem_iff.mpr ht),fun h=>?_,fun h=>?_,fun a b ha hb=>?_⟩
 .rw[<-(p.filter _).length_eq,<-(p.filter _).length_eq];exact F.Jy h
 .rw[<-(p.filter _).length_eq];exact F.most h
 .obtain⟨k,w⟩:=F.con a b ha hb;exact⟨k,kB p w⟩
theorem Ff{n:Nat}{ts AV:Ts}(p:ts.Perm AV)(F:eJ n ts){a b:Nat}(ha:a<n)(hb:b<n):far AV a b=far ts a b:=by
 have h:=F.G5 ha hb;exact qL ⟨kB p h.1,fun k w=>h.2 k (kB p.symm w)⟩
theorem ij.Qt{H:Hp}{L:Addr->Prop}{l:Addr}{n:Nat}{r r':Nat->List Nat}(R:ij H L l n r)(e:∀h,h<n->r' h=r h):ij H L l n r':=
 let ⟨bs,a,b,c⟩:=R
 ⟨bs,a,b,c.1,fun j hj=>by
  show _=some (HO.lst (NV (r' j)));rw[e j hj];exact c.2 j hj⟩
theorem cS.perm{C:Addr}{H:Hp}{L:Addr->Prop}{p:Addr}{n:Nat}{ts AV:Ts}(N:cS C H L p n ts)(pm:ts.Perm AV):cS C H L p n AV:=by
 obtain⟨dx,tl,ol,ds,a,l1,l2,b,c,l3,zs,d1,d2,d3,d4,d5⟩:=N.ob;refine⟨tj pm N.i9,dx,tl,ol,ds,a,l1,l2,b.Qt fun h hh=>?_,c.Qt fun h hh=>?_,l3,zs,d1,d2,d3,d4.trans pm,d5⟩
 .unfold eZ;exact xY fun o _=>mX.mpr (Fe pm).symm
 .exact jb fun x hx=>Ff pm N.i9 hh (bO.mp hx)
end dE
namespace vC
open PySem L2 rJ
open dE (cS NT mH B3 JT AU nV pq)
abbrev Mx:Stmt:=gy 14
abbrev We:Stmt:=gy 2
abbrev Wf:Stmt:=gy 19
abbrev Wg:Stmt:=gy 20
abbrev S5:Stmt:=gy 18
def sr(n:Nat)(g:Nat->List Nat):Prop:=∀h,h<n->eZ n (bb n g) h=g h
theorem My{n:Nat}{g:Nat->List Nat}(G:gf n g):sr n (gr n g):=by
 intro h hh;obtain⟨m,rfl⟩:∃m,n=m+1:=⟨n-1,by lia⟩
 have nh:¬ T (bb (m+1) (gr (m+1) g)) h h:=fun t=>((AD G).lt h hh h (wX.mp t).2).2 rfl;unfold eZ;have e0:(h+0) % (m+1)=h:=jx hh;rw[tG,cX,e0,List.filter_cons_of_neg (by simpa using nh),fN];show _=B6 (m+1) g h m;unfold B6;have e:((fun s=>(h+s) % (m+1)) ∘ Nat.succ)=fun s=>(h+(1+s)) % (m+1):=funext fun s=>by
  show (h+(s+1)) % (m+1)=_;rw[Nat.add_comm s 1]
 rw[e];refine xY fun o _=>mX.mpr ?_;rw[wX];exact⟨fun z=>(gw G hh).mem_iff.mp z.2,fun z=>⟨hh,(gw G hh).mem_iff.mpr z⟩⟩
section
variable {P:Program} {w:World} {K:PySem.W.Frag} {mg:Str->Option Value} {base:Heap}
theorem JU:aG ["stand","handing","house","goes","letter"] ["stand","handing","house","goes"] (am Mx):=⟨rfl,rfl,rfl,by decide +kernel,rfl,by decide +kernel,by decide +kernel⟩
def Fg:Sp:=fun vs H Q _=>∃ (S G:Addr) (g:Nat->List Nat) (s l:List (Option Nat)) (h o j:Nat),vs=[.ref S,.ref G,.int h,.int o]/\H S=some (.tup (SV s))/\H G=some (.tup (SV l))/\s.length<=16/\c_ g s l/\s.getD j none=some h/\l.getD j none=some o/\Q (.int j) H
theorem Mz{f:Addr}{fd:FuncData}(F:fR K "taker" "taker" Mx f fd)(B:Bl mg):bv P w K mg base a9 1 f fd ["stand","handing","house","goes"] Fg:=by
 refine F.ok JU (fun vs H Q E h=>?_) (fun dM A outer s0 H vs Q E hr h=>?_)
 .obtain⟨S,G,g,s,l,h,o,j,rfl,_⟩:=h;rfl
 .obtain⟨S,G,g,s,l,h,o,j,rfl,hS,hG,LU,Hd,e1,e2,q⟩:=h;refine⟨_,(ah (dO eN rfl (et rfl B.range (aa (aA aH (by rfl) B.len cG (aa (pv 0) ag)) ag)) (aB (i:=4) JU.nd rfl (Or.inl rfl))
    (al (bA (PW.pt (yq (aM eQ (au aU (pv 0) (pv 4) (fun _ _=>rfl)) (pv 2) (aL _)) (uo (aM eQ (au aU (pv 1) (pv 4) (fun _ _=>rfl)) (pv 3) (aL _))))) (al (aF (pv 4))) aQ)))
   (al (aF ce))),?_⟩
  have jl:=(aR e1).1;refine⟨_,rfl,S,_,rfl,.inr (cx.of hS),(s.length:Nat),by rw[aN],by lia,by lia,?_⟩;refine eX (n:=s.length) (lo:=0) (fun k σ Hc=>(∃v,σ=[some (.ref S),some (.ref G),some (.int h),some (.int o),v])/\Hc=H/\k<=j) ⟨⟨_,rfl⟩,rfl,dg _⟩ ?_ ?_
  .rintro k σ Hc hk ⟨⟨v,rfl⟩,rfl,kj⟩;rw[lB];refine⟨_,rfl,_,rfl,S,_,_,_,rfl,rfl,cx.of hS,dw hk,_,rfl,ky,_,rfl,?_⟩;have d1:decide (jq (s.getD k none)=V.int (h:Int))=decide (s.getD k none=some h):=vp (b:=some h);rw[d1];refine bN (fun a1=>?_) (fun a1=>?_)
   .refine⟨_,rfl,_,rfl,G,_,_,_,rfl,rfl,cx.of hG,dw (by rw[Hd.len];exact hk),_,rfl,ky,_,rfl,?_⟩;have d2:decide (jq (l.getD k none)=V.int (o:Int))=decide (l.getD k none=some o):=vp (b:=some o);rw[d2];refine bN (fun a2=>?_) (fun a2=>?_)
    .have:=Hd.Sv k j h o (bV a1) e1 (bV a2) e2;subst this;exact⟨_,rfl,q⟩
    .refine⟨⟨_,rfl⟩,rfl,?_⟩;rcases Nat.lt_or_eq_of_le kj with z|z
     .exact z
     .exact absurd (bK (by rw[z];exact e2)) a2
   .refine sU ⟨⟨_,rfl⟩,rfl,?_⟩;rcases Nat.lt_or_eq_of_le kj with z|z
    .exact z
    .exact absurd (bK (by rw[z];exact e1)) a1
  .rintro σ Hc ⟨_,_,kj⟩;exact absurd jl (by lia)
theorem MA:aG ["net","homes","stand","handing","letter","house","goes"] ["net","homes","stand","handing","letter"] (am We):=⟨rfl,rfl,rfl,by decide +kernel,rfl,by decide +kernel,by decide +kernel⟩
def Fh(C:Addr):Sp:=fun vs H Q _=>∃ (Lp:Addr->Prop) (p a S G:Addr) (n:Nat) (g:Nat->List Nat) (hs:List Int) (s l:List (Option Nat)) (i:Nat),vs=[.ref p,.ref a,.ref S,.ref G,.int i]/\cS C H Lp p n (bb n g)/\H a=some (.tup (HV hs))/\H S=some (.tup (SV s))/\H G=some (.tup (SV l))/\s.length=hs.length/\c_ g s l/\gf n g/\(∀i h,s.getD i none=some h->h<n)/\(∀h∈hs,0<=h/\h<n)/\i<hs.length/\Q (.bl (gN n g hs s l i)) H
theorem MB{f C:Addr}{fd:FuncData}(F:fR K "is_led" "is_led" We f fd)(T:NT K mg C)(MF:mH P w K mg base a9 5 C "far" ["self","one","other"] (nV C)):bv P w K mg base a9 6 f fd ["net","homes","stand","handing","letter"] (Fh C):=by
 obtain⟨fF,fdF,mF,bF,GF⟩:=MF.ex;refine F.ok MA (fun vs H Q E h=>?_) (fun dM A outer s0 H vs Q E hr h=>?_)
 .obtain⟨Lp,p,a,S,G,n,g,hs,s,l,i,rfl,_⟩:=h;rfl
 .obtain⟨Lp,p,a,S,G,n,g,hs,s,l,i,rfl,N,ha,hS,hG,sl,Hd,Gd,NJ,hm,hi,q⟩:=h;have h5:bW 5 _:=hr;refine⟨_,(ah (aO (i:=5) MA.nd rfl (Or.inl rfl) (au aU (pv 2) (pv 4) (fun _ _=>rfl)))
   (ah (aO (i:=6) MA.nd rfl (Or.inl rfl) (au aU (pv 3) (pv 4) (fun _ _=>rfl)))
   (ah (bA (PW.pt (oe (aM iT (pv 6) ce (aL _)) (lI (aM eQ (pv 6) (pv 5) (aL _))))) (al (aF fP)) aQ)
   (al (aF (cZ C1 (iU (pv 0) T.cl mF GF h5 bF .nil aP (aa (pv 6) (aa (au aU (pv 1) (pv 4) (fun _ _=>rfl)) ag))) (iU (pv 0) T.cl mF GF h5 bF .nil aP (aa (pv 5) (aa (au aU (pv 1) (pv 4) (fun _ _=>rfl)) ag))) (aL _))))))),?_⟩
  have kG:fu (SV s) (i:Int)=some (jq (s.getD i none)):=dw (by lia);have wW:fu (SV l) (i:Int)=some (jq (l.getD i none)):=dw (by rw[Hd.len];lia);refine⟨_,rfl,_,rfl,S,_,_,_,rfl,rfl,cx.of hS,kG,?_⟩;refine⟨_,rfl,_,rfl,G,_,_,_,rfl,rfl,cx.of hG,wW,?_⟩;refine⟨_,rfl,rfl,_,rfl,?_⟩;cases es:s.getD i none with
  |none=>
   rw[Hd.bJ i es];refine bN (fun _=>?_) (fun e=>absurd (bK rfl) e);have e2:gN n g hs s l i=false:=by unfold gN;rw[es]
   rw[e2] at q;exact kY q
  |some h=>
   obtain⟨o,eo,mo⟩:=Hd.tie i h es;rw[eo];have hn:=NJ i h es;obtain⟨on,one⟩:=Gd.lt h hn o mo;obtain⟨k,hk,ek,Cu⟩:=mO hm hi;refine bN (fun e=>absurd (bV e) (by intro z;cases z)) (fun _=>?_);refine⟨_,rfl,_,rfl,rfl,_,rfl,?_⟩;refine bN (fun e=>absurd (dS (V.int.inj (bV e))) one) (fun _=>?_);obtain⟨dx,tl,ol,ds,hp,_⟩:=N.ob;have NR:fu (HV hs) (i:Int)=some (.int (k:Int)):=by rw[hW hi,ek]
   refine⟨_,rfl,p,dx,_,rfl,hp,B3 _ _ _ _,_,rfl,_,rfl,_,rfl,a,_,_,_,rfl,rfl,cx.of ha,NR,Lp,p,n,bb n g,o,k,rfl,N,on,hk,?_⟩;refine⟨_,rfl,p,dx,_,rfl,hp,B3 _ _ _ _,_,rfl,_,rfl,_,rfl,a,_,_,_,rfl,rfl,cx.of ha,NR,Lp,p,n,bb n g,h,k,rfl,N,hn,hk,?_⟩;refine⟨_,_,rfl,rfl,?_⟩;rw[jY es eo] at q;unfold dH at q;rw[Cu] at q;have e3:decide (((far (bb n g) h k:Nat):Int)<=((far (bb n g) o k:Nat):Int))=decide (far (bb n g) h k<=far (bb n g) o k):=mX.mpr (by lia);show Q (V.bl (decide (((far (bb n g) h k:Nat):Int)<=((far (bb n g) o k:Nat):Int)))) H;rw[e3];exact q
theorem Qu:aG ["net","homes","stand","handing","letter","house"] ["net","homes","stand","handing","letter"] (am Wf):=⟨rfl,rfl,rfl,by decide +kernel,rfl,by decide +kernel,by decide +kernel⟩
noncomputable def Fj(n:Nat)(g:Nat->List Nat)(hs:List Int)(ss ls:Nat->List (Option Nat))(b i:Nat):V:=if gN n g hs (ss b) (ls b) i=true then .int ((jX n g hs ss ls b i:Nat):Int) else .bJ
def Im(C:Addr):Sp:=fun vs H Q _=>∃ (Lp:Addr->Prop) (p a S G:Addr) (n L:Nat) (g:Nat->List Nat) (hs ns:List Int) (ss ls:Nat->List (Option Nat)) (b i:Nat),vs=[.ref p,.ref a,.ref S,.ref G,.int i]/\cS C H Lp p n (bb n g)/\sr n g/\gf n g/\H a=some (.tup (HV hs))/\H S=some (.tup (SV (ss b)))/\H G=some (.tup (SV (ls b)))/\gx n g hs L ss ls ns/\b<L/\i<hs.length/\hs.length<=16/\∀H',aE H H'->Q (Fj n g hs ss ls b i) H'
theorem Qv{f C:Addr}{fd:FuncData}(F:fR K "good_tie_taker" "good_tie_taker" Wf f fd)(T:NT K mg C)(IL:b_ P w K mg base a9 6 "is_led" ["net","homes","stand","handing","letter"] (Fh C))(TA:b_ P w K mg base a9 1 "taker" ["stand","handing","house","goes"] Fg)(MG:mH P w K mg base a9 6 C "good" ["self","house","home"] (pq C)):bv P w K mg base a9 7 f fd ["net","homes","stand","handing","letter"] (Im C):=by
 obtain⟨fG,fdG,mG,bG,GG⟩:=MG.ex;refine F.ok Qu (fun vs H Q E h=>?_) (fun dM A outer s0 H vs Q E hr h=>?_)
 .obtain⟨Lp,p,a,S,G,n,L,g,hs,ns,ss,ls,b,i,rfl,_⟩:=h;rfl
 .obtain⟨Lp,p,a,S,G,n,L,g,hs,ns,ss,ls,b,i,rfl,N,Rn,Gd,ha,hS,hG,LN,hb,hi,Cf,q⟩:=h;have h1:bW 1 _:=hr.mono (by decide);have h6:bW 6 _:=hr;refine⟨_,(ah (bA (dW (dB (aD IL h6 aP (aa (pv 0) (aa (pv 1) (aa (pv 2) (aa (pv 3) (aa (pv 4) ag)))))))) (al (aF ce)) aQ)
   (ah (aO (i:=5) Qu.nd rfl (Or.inl rfl) (au aU (pv 2) (pv 4) (fun _ _=>rfl)))
   (al (aF (aD TA h1 aP (aa (pv 2) (aa (pv 3) (aa (pv 5) (aa (au az (iU (pv 0) T.cl mG GG h6 bG .nil aP (aa (pv 5) (aa (au aU (pv 1) (pv 4) (fun _ _=>rfl)) ag))) aq (fun _ _=>rfl)) ag))))))))),?_⟩
  have Hd:=LN.r.tie b hb;have sl:=LN.sl b (dI hb);refine⟨_,rfl,_,rfl,_,rfl,_,rfl,_,rfl,Lp,p,a,S,G,n,g,hs,ss b,ls b,i,rfl,N,ha,hS,hG,sl,Hd,Gd,LN.r.lt b (dI hb),LN.hm,hi,_,rfl,?_⟩;unfold Fj at q;refine bN (fun e=>?_) (fun e=>?_)
  .have e':gN n g hs (ss b) (ls b) i=false:=by simpa using e
   rw[ap (by rw[e'];decide)] at q;exact q H (aE.refl _)
  have led:gN n g hs (ss b) (ls b) i=true:=by simpa using e
  rw[ao led] at q;obtain⟨h,o',o,l,j,f1,f2,f3,f4,f5,f6,f7,f8,f9,_⟩:=LN.taker N.i9 hb led;obtain⟨k,hk,ek,Cu⟩:=mO LN.hm hi;have kG:fu (SV (ss b)) (i:Int)=some (.int (h:Int)):=by rw[dw (by lia),f1];rfl
  have NR:fu (HV hs) (i:Int)=some (.int (k:Int)):=by rw[hW hi,ek]
  obtain⟨dx,tl,ol,ds,hp,_⟩:=N.ob;refine⟨_,rfl,_,rfl,S,_,_,_,rfl,rfl,cx.of hS,kG,?_⟩;refine⟨_,rfl,_,rfl,_,rfl,_,rfl,p,dx,_,rfl,hp,JT _ _ _ _,_,rfl,_,rfl,_,rfl,a,_,_,_,rfl,rfl,cx.of ha,NR,Lp,p,n,bb n g,h,k,rfl,N,f4,hk,fun D H1 s1 hD K8=>?_⟩;have ge:AU n (bb n g) h k=o::l:=by
   unfold AU;rw[Rn h f4,<-f5];unfold dz dH;rw[Cu]
  rw[ge] at K8;refine⟨D,_,_,_,rfl,rfl,aT.of K8,bg (j:=0) rfl,S,G,g,ss b,ls b,h,o,j,rfl,s1 _ _ hS,s1 _ _ hG,by lia,Hd,f7,f8,?_⟩;rw[f6] at q;exact q H1 s1
end
open dE (cS NT mH cy)
theorem _root_.L2.jM.not{lp:Pos}{q:Str}{Pt:Addr}{H:Hp}(t:jM lp q Pt H){b:Addr}{o:HO}(h:H b=some o)(n:∀ps,o≠.m9 ps):b≠Pt:=by
 rintro rfl;rcases t with z|⟨c,z,_⟩ <;> · rw[h] at z;exact n _ (aY z)
theorem _root_.L2.jM.keep{lp:Pos}{q:Str}{Pt:Addr}{H H':Hp}(t:jM lp q Pt H)(e:∀b o,H b=some o->(b=Pt\/∃p,o=.ext p)->H' b=some o):jM lp q Pt H':=by
 rcases t with z|⟨c,z,y⟩
 .exact .inl (e _ _ z (.inl rfl))
 .exact .inr ⟨c,e _ _ z (.inl rfl),e _ _ y (.inr ⟨_,rfl⟩)⟩
theorem tm{S:Addr->Prop}{h0:Heap}{H1 H:Hp}(n:∀a,S a->H1 a=none)(s:aE (iG S h0 H1) H):aE H1 (AQ S H):=fun b o e=>by
 have c:¬ S b:=fun z=>by rw[n b z] at e;cases e
 rw[eE c];exact s b o (by rw[bH c];exact e)
theorem Fk{S:Addr->Prop}{h0:Heap}{H H':Hp}(n:∀a,S a->H a=some (jm h0 a))(s:aE (AQ S H) H'):aE H (iG S h0 H'):=fun b o e=>by
 by_cases c:S b
 .rw[mQ c,<-e,n b c]
 .rw[bH c];exact s b o (by rw[eE c];exact e)
theorem Io{S:Addr->Prop}{h0:Heap}{H:Hp}{b:Addr}{o:HO}(n:∀a,S a->H a=some (jm h0 a))(e:H b=some o)(x:∀p,o≠.ext p):AQ S H b=some o:=by
 rw[eE fun z=>by rw[n b z] at e;exact x _ (aY e).symm];exact e
def S6:Expr:=match (bT S5).getD 0 (.Pass ⟨0,0,0,0⟩) with
 |.Return (some (.Call _ (_::_::_::_::_::k::_) _ _)) _=>k
 |_=>.Name "x" ⟨0,0,0,0⟩
def zF:Arguments:=match S6 with
 |.Lambda a _ _ _=>a
 |_=>{ posonlyargs:=[],args:=[],vararg:=none,kwonlyargs:=[],kw_defaults:=[],kwarg:=none,defaults:=[] }
def zG:Expr:=match S6 with
 |.Lambda _ b _ _=>b
 |e=>e
def ME:Scope:=match S6 with
 |.Lambda _ _ s _=>s
 |_=>{ kind:=.function,names:=[],isGenerator:=false,isCoroutine:=false }
def Qw:Pos:=match S6 with
 |.Lambda _ _ _ p=>p
 |_=>⟨0,0,0,0⟩
def Qx:Str:=("blame":Str)++".<locals>."++"<lambda>"
abbrev jZ(Pb:Addr)(H:Hp):Prop:=jM Qw Qx Pb H
abbrev Y2:List Str:=["one","at","net","homes","stands","log"]
theorem JV:AS Y2 2 ME Qx zF zG:=by
 refine⟨rfl,by decide +kernel,fun dt pm c uP us hl=>?_,by decide +kernel,fun i x hi hx=>?_,by decide +kernel,rfl,rfl⟩
 .match us,hl with
  |[_,_],_=>rfl
 .match i,hi,hx with
  |2,_,hx=>cases hx;rfl
  |3,_,hx=>cases hx;rfl
  |4,_,hx=>cases hx;rfl
  |5,_,hx=>cases hx;rfl
theorem cS.q0{C p Pb:Addr}{H H':Hp}{L:Addr->Prop}{n:Nat}{ts:Ts}{lp:Pos}{qq:Str}(h:cS C H L p n ts)(nL:¬ L Pb)(t:jM lp qq Pb H)(s:cy Pb H H'):cS C H' L p n ts:=by
 obtain⟨dx',tl,ol,ds,e,_⟩:=h.ob;exact h.keep (fun b o lb e=>s _ _ e (by rintro rfl;exact nL lb)) (fun o e'=>s _ _ e' (t.not e (by intro ps z;cases z)))
theorem cI.q0{Pb SA LA:Addr}{H H':Hp}{bx bz:List Addr}{m L:Nat}{ss ls:Nat->List (Option Nat)}{lp:Pos}{qq:Str}(h:cI H SA LA bx bz m L ss ls)(t:jM lp qq Pb H)(s:cy Pb H H'):cI H' SA LA bx bz m L ss ls:=by
 obtain⟨g1,g2,g3,g4,g5,g6⟩:=h;exact⟨s _ _ g1 (t.not g1 (by intro ps z;cases z)),s _ _ g2 (t.not g2 (by intro ps z;cases z)),g3.mono fun j _ e=>s _ _ e (t.not e (by intro ps z;cases z)),g4.mono fun j _ e=>s _ _ e (t.not e (by intro ps z;cases z)),g5,g6⟩
structure Ca(C:Addr)(H1:Hp)(Lp:Addr->Prop)(p a SA LA f c:Addr)(bx bz:List Addr)(n L:Nat)(g:Nat->List Nat)(hs ns:List Int)(ss ls:Nat->List (Option Nat))(cells:List (Str×Addr))(h0:Heap):Prop where
 nS:∀x,cz cells x->H1 x=none
 le:xi cells h0 (iG (cz cells) h0 H1)
 cn:qZ cells h0 "net" (.ref p)
 ch:qZ cells h0 "homes" (.ref a)
 cs:qZ cells h0 "stands" (.ref SA)
 cl:qZ cells h0 "log" (.ref LA)
 net:cS C H1 Lp p n (bb n g)
 rn:sr n g
 gd:gf n g
 hH:H1 a=some (.tup (HV hs))
 lg:cI H1 SA LA bx bz hs.length L ss ls
 ln:gx n g hs L ss ls ns
 Cf:hs.length<=16
 zC:L<=60
 hf:H1 f=some (qo f Qx zF zG ME cells c)
 hc:H1 c=some (oz c Qx)
abbrev Wi(K:PySem.W.Frag)(C:Addr):TE:=r_ (Im C) [] E0 (cH (be 2) (cH (be 3) (cH (mf (Bj K) (be 4) (be 1)) (cH (mf (Bj K) (be 5) (be 1)) (cH (be 0) lJ)))))
theorem Ca.call{K:PySem.W.Frag}{C:Addr}{H1:Hp}{Lp:Addr->Prop}{p a SA LA f c:Addr}{bx bz:List Addr}{n L:Nat}{g:Nat->List Nat}{hs ns:List Int}{ss ls:Nat->List (Option Nat)}{cells:List (Str×Addr)}{h0:Heap}(X:Ca C H1 Lp p a SA LA f c bx bz n L g hs ns ss ls cells h0){Hc:Hp}{Q:VK}{one b:Nat}(s:aE (iG (cz cells) h0 H1) Hc)(ho:one<hs.length)(hb:b<L)(q:∀H',aE Hc H'->Q (Fj n g hs ss ls b one) H'):Fb 2 ME Qx zF zG Y2 (Wi K C) f [.int one,.int b] Hc Q:=by
 have inj:aE H1 (iG (cz cells) h0 H1):=fun b o e=>by rw[bH fun z=>by rw[X.nS b z] at e;cases e];exact e
 have nk:∀a,cz cells a->Hc a=some (jm h0 a):=fun a z=>s _ _ (mQ z);have su:=tm X.nS s;obtain⟨g1,g2,g3,g4,g5,g6⟩:=X.lg;refine⟨cells,c,h0,[.ref p,.ref a,.ref SA,.ref LA],s _ _ (inj _ _ X.hf),s _ _ (inj _ _ X.hc),rfl,rfl,X.le.mono (fun a _ e=>s _ _ e),fun i x v h1 h2=>?_,?_⟩
 .match i,h1,h2 with
  |0,h1,h2=>cases h1;cases h2;exact X.cn
  |1,h1,h2=>cases h1;cases h2;exact X.ch
  |2,h1,h2=>cases h1;cases h2;exact X.cs
  |3,h1,h2=>cases h1;cases h2;exact X.cl
 .exact⟨_,rfl,_,rfl,_,rfl,_,rfl,SA,_,_,_,rfl,rfl,aT.of (su _ _ g1),eK (by rw[g3.1];lia),_,rfl,_,rfl,LA,_,_,_,rfl,rfl,aT.of (su _ _ g2),eK (by rw[g4.1];exact hb),_,rfl,Lp,p,a,bx.getD b 0,bz.getD b 0,n,L,g,hs,ns,ss,ls,b,one,rfl,X.net.same su,X.rn,X.gd,su _ _ X.hH,su _ _ (g3.2 b (by lia)),su _ _ (g4.2 b hb),X.ln,hb,ho,X.Cf,fun H4 s4 n4=>q _ (Fk nk s4)⟩
section
variable {P:Program} {w:World} {K:PySem.W.Frag} {mg:Str->Option Value} {base:Heap}
theorem Cg:aG ["homes","stands","log","letter","beat","instead_of","going","chain","other"] ["homes","stands","log","letter","beat","instead_of"] (am Wg):=⟨rfl,rfl,rfl,by decide +kernel,rfl,by decide +kernel,by decide +kernel⟩
def MH(C:Addr):Sp:=fun vs H Q _=>∃ (H1:Hp) (Lp:Addr->Prop) (p a SA LA f c:Addr) (bx bz:List Addr) (n L:Nat) (g:Nat->List Nat) (hs ns:List Int) (ss ls:Nat->List (Option Nat)) (cells:List (Str×Addr)) (h0:Heap) (i b:Nat),vs=[.ref a,.ref SA,.ref LA,.int i,.int b,.ref f]/\H=iG (cz cells) h0 H1/\
 Ca C H1 Lp p a SA LA f c bx bz n L g hs ns ss ls cells h0/\i<hs.length/\∀v H',aE H H'->E9 H H' v (AK n g hs L ss ls b i)->Q v H'
theorem Qy{f C:Addr}{fd:FuncData}(F:fR K "chain_along" "chain_along" Wg f fd)(B:Bl mg)(HO:b_ P w K mg base a9 3 "is_handed_on" ["stands","log","letter","beat"] jV)(GT:b_ P w K mg base a9 7 "good_tie_taker" ["net","homes","stand","handing","letter"] (Im C)):
  bv P w K mg base a9 9 f fd ["homes","stands","log","letter","beat","instead_of"] (MH C):=by
 refine F.ok Cg (fun vs H Q E h=>?_) (fun dM A outer s H vs Q E hr h=>?_)
 .obtain⟨H1,Lp,p,a,SA,LA,f',c,bx,bz,n,L,g,hs,ns,ss,ls,cells,h0,i,b,rfl,_⟩:=h;rfl
 .obtain⟨H1,Lp,p,a,SA,LA,f',c,bx,bz,n,L,g,hs,ns,ss,ls,cells,h0,i,b,rfl,rfl,X,hi,q⟩:=h;have h3:bW 3 _:=hr.mono (by decide);have inj:aE H1 (iG (cz cells) h0 H1):=fun b o e=>by rw[bH fun z=>by rw[X.nS b z] at e;cases e];exact e
  refine⟨_,(ah (bA (dW (dB (aD HO h3 aP (aa (pv 1) (aa (pv 2) (aa (pv 3) (aa (pv 4) ag))))))) (al (aF ce)) aQ)
   (ah (aO (i:=6) Cg.nd rfl (Or.inl rfl) (AT (te:=Wi K C) (i:=5) hr rfl JV (pv 5) (aa (pv 3) (aa (pv 4) ag)) (fun f dt c s H=>aD GT (hr.deeper _) aP (aa (pv 2) (aa (pv 3) (aa (au az (pv 4) (pv 1) (fun _ _=>rfl)) (aa (au az (pv 5) (pv 1) (fun _ _=>rfl)) (aa (pv 0) ag))))))))
   (ah (bA (aM iT (pv 6) ce (aL _)) (al (aF ce)) aQ)
   (ah (aO (i:=7) Cg.nd rfl (Or.inl rfl) (dY (aa (pv 6) ag)))
   (ah (qb eN (aM rY (au aU (au az (pv 2) (pv 4) (fun _ _=>rfl)) (pv 6) (fun _ _=>rfl)) (au aU (pv 0) (pv 6) (fun _ _=>rfl)) (aL _)) (ah (CQ (i:=4) Cg.nd rfl (Or.inl rfl) aq CS)
    (ah (bA (aM eQ (pv 4) (aA aH (by rfl) B.len cG (aa (pv 2) ag)) (aL _)) (al (aF ce)) aQ)
    (ah (aO (i:=8) Cg.nd rfl (Or.inl rfl) (AT (te:=Wi K C) (i:=5) hr rfl JV (pv 5) (aa (pv 6) (aa (pv 4) ag)) (fun f dt c s H=>aD GT (hr.deeper _) aP (aa (pv 2) (aa (pv 3) (aa (au az (pv 4) (pv 1) (fun _ _=>rfl)) (aa (au az (pv 5) (pv 1) (fun _ _=>rfl)) (aa (pv 0) ag))))))))
    (ah (aO (i:=6) Cg.nd rfl (Or.inl rfl) (vJ (aM iT (pv 8) ce (aL _)) (pv 6) (pv 8)))
    (al (cP (iA im kM kK dj (pv 7) (aa (pv 6) ag)))))))))
   (al (aF (pv 7)))))))),?_⟩
  have Y3:=X.lg.same inj;have LN:=X.ln;have zC:=X.zC;refine⟨_,rfl,_,rfl,_,rfl,_,rfl,SA,LA,bx,bz,hs.length,L,ss,ls,i,b,rfl,Y3,_,rfl,?_⟩;refine bN (fun e=>?_) (fun e=>?_)
  .have e':dU hs.length L ss i b=false:=by simpa using e
   have n0:AK n g hs L ss ls b i=none:=by
    unfold AK;refine ap ?_;rintro⟨hb,led⟩;obtain⟨h,o,f1,f2⟩:=sZ led;rw[iw hi hb f1] at e';cases e'
   exact q .bJ _ (aE.refl _) (by rw[n0];rfl)
  have e':dU hs.length L ss i b=true:=by simpa using e
  obtain⟨i',b',h,ei,eb,_,hb,_⟩:=gK e';obtain rfl:b=b':=dS eb;refine⟨f',rfl,⟨cells,c,inj _ _ X.hf⟩,_,rfl,_,rfl,X.call (aE.refl _) hi hb fun H2 s2=>?_⟩;unfold AK at q;unfold Fj;by_cases led:gN n g hs (ss b) (ls b) i=true
  rotate_left
  .rw[ap led];rw[ap (fun z=>led z.2)] at q;exact⟨_,rfl,rfl,_,rfl,kY (q .bJ H2 s2 rfl)⟩
  rw[ao led];rw[ao ⟨hb,led⟩] at q;obtain⟨_,_,_,_,j,_,_,_,_,_,f6,f7,_⟩:=LN.taker X.net.i9 hb led;have jl:j<hs.length:=by have:=(aR f7).1;rw[LN.sl b (dI hb)] at this;exact this
  rw[f6] at q |-;refine⟨_,rfl,rfl,_,rfl,sU ?_⟩;refine⟨_,rfl,by show 1<=sizeLine;decide,fun Z hZ=>?_⟩;have Wj:(iG (cz cells) h0 H1) Z=none:=s2.free hZ;refine⟨fun m σ Hc=>∃ (k one:Nat) (zs:List Nat),m=L-(b+k)/\(∃v8,σ=[some (.ref a),some (.ref SA),some (.ref LA),some (.int i),some (.int ((b+k:Nat):Int)),some (.ref f'),some (.int one),some (.ref Z),v8])/\aE (iG (cz cells) h0 H1) Hc/\Hc Z=some (.lst (NV (zs++[one])))/\zs.length=k/\one<hs.length/\b+k<L/\
    w6 hs ls (jX n g hs ss ls) (L-b) b j=(w6 hs ls (jX n g hs ss ls) (L-(b+k)) (b+k) one).map (zs++·),⟨_,0,j,[],rfl,⟨_,rfl⟩,s2.trans (aj hZ),af,rfl,jl,hb,?_⟩,?_⟩
  .show _=(w6 hs ls (jX n g hs ss ls) (L-b) b j).map ([]++·);cases w6 hs ls (jX n g hs ss ls) (L-b) b j <;> rfl
  rintro m σ Hc ⟨k,one,zs,rfl,⟨v8,rfl⟩,sc,Y4,zl,ol,FS,ch⟩;have Wb:=Y3.same sc;obtain⟨c1,c2,c3,c4,c5,c6⟩:=Wb;have Hd:=LN.r.tie _ FS;have YG:(ls (b+k)).length=hs.length:=by rw[Hd.len];exact LN.sl _ (dI FS)
  refine⟨_,rfl,_,rfl,LA,_,_,_,rfl,rfl,aT.of c2,eK (by rw[c4.1];exact FS),_,rfl,bz.getD (b+k) 0,_,_,_,rfl,rfl,cx.of (c4.2 (b+k) FS),dw (by lia),_,rfl,_,rfl,a,_,_,_,rfl,rfl,cx.of (sc _ _ (inj _ _ X.hH)),hW ol,ky,_,rfl,?_⟩;rw[xg];rw[show L-(b+k)=(L-(b+(k+1)))+1 by lia] at ch;cases hm:k9 hs (ls (b+k)) one with
  |true=>
   rw[xb hm] at ch;rw[ch] at q;exact sU ⟨_,rfl,q _ Hc sc ⟨Z,rfl,Wj,Y4⟩⟩
  |false=>
   rw[xc (by rw[hm];decide),xf] at ch;refine kY ⟨_,fun σ' H' z=>z,?_⟩;refine⟨_,rfl,_,_,rfl,rfl,?_⟩;have SZ:(((b+k:Nat):Int)+1)=((b+(k+1):Nat):Int):=by lia
   change bD 4 (V.int (((b+k:Nat):Int)+1)) _ _ _;rw[SZ];refine⟨_,rfl,_,rfl,LA,_,rfl,.inl (aT.of c2),rfl,_,rfl,?_⟩;rw[aN,c4.1];refine bN (fun e2=>?_) (fun e2=>?_)
   .have e3:b+(k+1)=L:=by have:=V.int.inj (bV e2);lia
    rw[show L-(b+(k+1))=0 by lia] at ch;have e0:w6 hs ls (jX n g hs ss ls) (L-b) b j=none:=ch;rw[e0] at q;exact q .bJ Hc sc rfl
   .have Lv:b+(k+1)<L:=by
     have:¬ (((b+(k+1):Nat):Int)=(L:Int)):=fun z=>e2 (bK (by show V.int _=V.int _;rw[z]));lia
    refine⟨f',rfl,⟨cells,c,sc _ _ (inj _ _ X.hf)⟩,_,rfl,_,rfl,X.call sc ol Lv fun H3 s3=>?_⟩;have S7:=s3 _ _ Y4;unfold Fj;by_cases Ip:gN n g hs (ss (b+(k+1))) (ls (b+(k+1))) one=true
    .obtain⟨_,_,_,_,j2,_,_,_,_,_,k6,k7,_⟩:=LN.taker X.net.i9 Lv Ip;have jl2:j2<hs.length:=by have:=(aR k7).1;rw[LN.sl _ (dI Lv)] at this;exact this
     rw[ao Ip,k6];rw[show jX n g hs ss ls (b+k+1) one=j2 from k6] at ch;refine⟨_,rfl,rfl,_,rfl,sU ⟨_,rfl,?_⟩⟩;refine⟨_,rfl,.inl ⟨rfl,_,aT.of S7⟩,_,rfl,Z,_,_,rfl,rfl,S7,by rw[aN,cr,zl];exact bU (show k+1<62 by lia) (by decide),?_⟩;exact⟨L-(b+(k+1)),by lia,k+1,j2,zs++[one],rfl,⟨_,rfl⟩,dE.bE (sc.trans s3) Wj,by rw[af];exact congrArg (fun z=>some (L2.HO.lst z)) gL.symm,by rw[cr,zl];rfl,jl2,Lv,ch⟩
    .have k6:jX n g hs ss ls (b+(k+1)) one=one:=by unfold jX;rw[ap Ip]
     rw[ap Ip];rw[show jX n g hs ss ls (b+k+1) one=one from k6] at ch;refine⟨_,rfl,rfl,_,rfl,kY ⟨_,rfl,?_⟩⟩;refine⟨_,rfl,.inl ⟨rfl,_,aT.of S7⟩,_,rfl,Z,_,_,rfl,rfl,S7,by rw[aN,cr,zl];exact bU (show k+1<62 by lia) (by decide),?_⟩;exact⟨L-(b+(k+1)),by lia,k+1,one,zs++[one],rfl,⟨_,rfl⟩,dE.bE (sc.trans s3) Wj,by rw[af];exact congrArg (fun z=>some (L2.HO.lst z)) gL.symm,by rw[cr,zl];rfl,ol,Lv,ch⟩
theorem Wk:aG ["net","homes","stands","log","letter","beat"] ["net","homes","stands","log","letter","beat"] (am S5):=⟨rfl,rfl,rfl,by decide +kernel,rfl,by decide +kernel,by decide +kernel⟩
def Iq(C Pb:Addr):Sp:=fun vs H Q _=>∃ (Lp:Addr->Prop) (p a SA LA:Addr) (bx bz:List Addr) (n L:Nat) (g:Nat->List Nat) (hs ns:List Int) (ss ls:Nat->List (Option Nat)) (i b:Nat),vs=[.ref p,.ref a,.ref SA,.ref LA,.int i,.int b]/\cS C H Lp p n (bb n g)/\¬ Lp Pb/\sr n g/\gf n g/\H a=some (.tup (HV hs))/\cI H SA LA bx bz hs.length L ss ls/\gx n g hs L ss ls ns/\hs.length<=16/\L<=60/\i<hs.length/\jZ Pb H/\
 ∀v H',jZ Pb H'->cy Pb H H'->E9 H H' v (AK n g hs L ss ls b i)->Q v H'
theorem Qz{f c C Pb:Addr}{fd:FuncData}(F:wr K "blame" "blame" S5 f fd c)(kb:K.In base)(hb:rG mg base)(hc:PySem.W.codeHdIn K c Pb=true)(CA:b_ P w K mg base a9 9 "chain_along" ["homes","stands","log","letter","beat","instead_of"] (MH C)):bv P w K mg base a9 10 f fd ["net","homes","stands","log","letter","beat"] (Iq C Pb):=by
 refine F.ok Wk (fun vs H Q E h=>?_) (fun A outer s H vs Q E hr h=>?_)
 .obtain⟨Lp,p,a,SA,LA,bx,bz,n,L,g,hs,ns,ss,ls,i,b,rfl,_⟩:=h;rfl
 .obtain⟨Lp,p,a,SA,LA,bx,bz,n,L,g,hs,ns,ss,ls,i,b,rfl,N,nL,Rn,G,ha,LG,LN,Cf,zC,hi,tb,q⟩:=h;refine⟨_,(al (aF (Ij CA hr rfl rfl (aa (pv 1) (aa (pv 2) (aa (pv 3) (aa (pv 4) (aa (pv 5) (aa (Dw (NB:=["one","at","net","homes","stands","log"]) (src:=[none,none,some 0,some 1,some 2,some 3]) (Ah kb hb hc) (cg (by kernel_rfl))) ag))))))))),?_⟩;refine⟨_,rfl,_,rfl,_,rfl,_,rfl,_,rfl,tb,fun f' c' H2 UZ old FX Bw nS h0 LE cv=>?_⟩;have t2:jZ Pb H2:=UZ;refine⟨H2,Lp,p,a,SA,LA,f',c',bx,bz,n,L,g,hs,ns,ss,ls,_,h0,i,b,rfl,rfl,⟨nS,LE,cv 0 "net" _ rfl rfl rfl,cv 1 "homes" _ rfl rfl rfl,cv 2 "stands" _ rfl rfl rfl,cv 3 "log" _ rfl rfl rfl,cS.q0 N nL tb old,Rn,G,old _ _ ha (tb.not ha (by intro ps z;cases z)),LG.q0 tb old,LN,Cf,zC,Bw,FX⟩,hi,fun v H' s' tl=>?_⟩;have nk:∀a,cz _ a->H' a=some (jm h0 a):=fun a z=>s' _ _ (mQ z);have su:=tm nS s';refine⟨nk,q v _ (t2.keep fun b o e _=>su _ _ e) (fun b o e n=>su _ _ (old b o e n)) ?_⟩;cases hz:AK n g hs L ss ls b i with
  |none=>rw[hz] at tl;exact tl
  |some zs=>
   rw[hz] at tl;obtain⟨D,rfl,nD,hD⟩:=tl;have Wl:H2 D=none:=by
    cases z:H2 D with
    |none=>rfl
    |some o=>
     have:¬ cz _ D:=fun y=>by rw[nS D y] at z;cases z
     rw[bH this,z] at nD;cases nD
   refine⟨D,rfl,?_,Io nk hD (by intro p z;cases z)⟩;cases z:H D with
   |none=>rfl
   |some o=>
    by_cases hP:D=Pb
    .rcases t2 with y|⟨_,y,_⟩ <;> · rw[<-hP,Wl] at y;cases y
    .rw[old D o z hP] at Wl;cases Wl
end
abbrev Wm:Stmt:=gy 55
structure Ev(C Pb:Addr)(Lp:Addr->Prop)(p O r a SA LA:Addr)(as ds bx bz:List Addr)(n L:Nat)(g:Nat->List Nat)(hs ns:List Int)(ss ls:Nat->List (Option Nat))(H:Hp):Prop where
 net:cS C H Lp p n (bb n g)
 nL:¬ Lp Pb
 rn:sr n g
 gd:gf n g
 rg:∃P,Rg n g P
 of:fq H O as n g
 fr:eW H r ds n g
 ha:H a=some (.tup (HV hs))
 lg:cI H SA LA bx bz hs.length L ss ls
 ln:gx n g hs L ss ls ns
 Cf:hs.length<=16
 zC:L<=60
 tb:jZ Pb H
theorem Ev.keep{C Pb:Addr}{Lp:Addr->Prop}{p O r a SA LA:Addr}{as ds bx bz:List Addr}{n L:Nat}{g:Nat->List Nat}{hs ns:List Int}{ss ls:Nat->List (Option Nat)}{H H':Hp}(E:Ev C Pb Lp p O r a SA LA as ds bx bz n L g hs ns ss ls H)(s:cy Pb H H')(t:jZ Pb H'):Ev C Pb Lp p O r a SA LA as ds bx bz n L g hs ns ss ls H':=by
 have up:∀ {b o},H b=some o->(∀ps,o≠.m9 ps)->H' b=some o:=fun e n=>s _ _ e (E.tb.not e n);refine⟨cS.q0 E.net E.nL E.tb s,E.nL,E.rn,E.gd,E.rg,⟨?_,E.of.rows.mono fun j _ e=>up e (by intro ps z;cases z),E.of.inj⟩,⟨?_,fun j hj=>?_⟩,up E.ha (by intro ps z;cases z),E.lg.q0 E.tb s,E.ln,E.Cf,E.zC,t⟩
 .obtain⟨o,ks,x,y⟩:=E.of.dict;exact⟨o,ks,x,up y (by intro ps z;cases z)⟩
 .obtain⟨ks,x,y⟩:=E.fr.dict;exact⟨ks,x,up y (by intro ps z;cases z)⟩
 .obtain⟨R,x,y⟩:=E.fr.rows j hj;exact⟨R,up x (by intro ps z;cases z),y⟩
theorem pr{Pb:Addr}{H H':Hp}(t:jZ Pb H)(s:aE H H'):jZ Pb H':=t.keep fun b o e _=>s b o e
theorem Ev.same{C Pb:Addr}{Lp:Addr->Prop}{p O r a SA LA:Addr}{as ds bx bz:List Addr}{n L:Nat}{g:Nat->List Nat}{hs ns:List Int}{ss ls:Nat->List (Option Nat)}{H H':Hp}(E:Ev C Pb Lp p O r a SA LA as ds bx bz n L g hs ns ss ls H)(s:aE H H'):Ev C Pb Lp p O r a SA LA as ds bx bz n L g hs ns ss ls H':=E.keep (cy.of s) (pr E.tb s)
theorem AW{zs:List Nat}(h:zs≠[]):fu (NV zs) (-1)=some (.int ((zs.getD (zs.length-1) 0:Nat):Int)):=by
 have:=vi (zs:=IN zs) (by intro z;exact h (List.map_eq_nil_iff.mp z));rw[zo,aN,kA] at this;exact this
section
variable {P:Program} {w:World} {K:PySem.W.Frag} {mg:Str->Option Value} {base:Heap}
theorem MJ:aG ["_law_net","_law_outs","_law_fars_here","_law_homes","_law_stands","_law_log_here","_law_i","_law_beat","_law_due","_law_told"] ["_law_net","_law_outs","_law_fars_here","_law_homes","_law_stands","_law_log_here","_law_i","_law_beat"] (am Wm):=⟨rfl,rfl,rfl,by decide +kernel,rfl,by decide +kernel,by decide +kernel⟩
def ML(C Pb:Addr):Sp:=fun vs H Q _=>∃ (Lp:Addr->Prop) (p O r a SA LA:Addr) (as ds bx bz:List Addr) (n L:Nat) (g:Nat->List Nat) (hs ns:List Int) (ss ls:Nat->List (Option Nat)) (i b:Nat),vs=[.ref p,.ref O,.ref r,.ref a,.ref SA,.ref LA,.int i,.int b]/\Ev C Pb Lp p O r a SA LA as ds bx bz n L g hs ns ss ls H/\i<hs.length/\b<L/\
 ∀H',jZ Pb H'->cy Pb H H'->Q (.bl true) H'
theorem QA{f C Pb:Addr}{fd:FuncData}(F:fR K "_law_told_right" "_law_told_right" Wm f fd)(B:Bl mg)(LB:b_ P w K mg base a9 2 "_law_blame" ["_law_outs","_law_fars_here","_law_homes","_law_stands","_law_log_here","_law_i","_law_beat"] Ih)(BL:b_ P w K mg base a9 10 "blame" ["net","homes","stands","log","letter","beat"] (Iq C Pb))(IS:b_ P w K mg base a9 1 "_law_is_list" ["_law_found","_law_due"] Ms)(CH:b_ P w K mg base a9 5 "is_chain" ["homes","stands","log","letter","beat","thing"] pi)(ST:b_ P w K mg base a9 6 "is_straight" ["net","homes","stands","log","letter","beat","chain"] (EY C)):
  bv P w K mg base a9 11 f fd ["_law_net","_law_outs","_law_fars_here","_law_homes","_law_stands","_law_log_here","_law_i","_law_beat"] (ML C Pb):=by
 refine F.ok MJ (fun vs H Q E h=>?_) (fun dM A outer s0 H vs Q E hr h=>?_)
 .obtain⟨Lp,p,O,r,a,SA,LA,as,ds,bx,bz,n,L,g,hs,ns,ss,ls,i,b,rfl,_⟩:=h;rfl
 .obtain⟨Lp,p,O,r,a,SA,LA,as,ds,bx,bz,n,L,g,hs,ns,ss,ls,i,b,rfl,X,hi,hb,q⟩:=h;have h1:bW 1 _:=hr.mono (by decide);have h2:bW 2 _:=hr.mono (by decide);have h5:bW 5 _:=hr.mono (by decide);have h6:bW 6 _:=hr.mono (by decide);have mS:=hr.u (n:=1);refine⟨_,(ah (aO (i:=8) MJ.nd rfl (Or.inl rfl) (aD LB h2 aP (aa (pv 1) (aa (pv 2) (aa (pv 3) (aa (pv 4) (aa (pv 5) (aa (pv 6) (aa (pv 7) ag)))))))))
   (ah (aO (i:=9) MJ.nd rfl (Or.inl rfl) (aD BL hr aP (aa (pv 0) (aa (pv 3) (aa (pv 4) (aa (pv 5) (aa (pv 6) (aa (pv 7) ag))))))))
   (ah (bA (aM iT (pv 8) ce (aL _)) (al (aF (cZ iT (pv 9) ce (aL _)))) aQ)
   (ah (bA (PW.pt (oe (dW (dB (aD IS h1 aP (aa (pv 9) (aa (pv 8) ag))))) (lI (aM qe (bY mS (bY mS (pv 2) (au aU (pv 3) (au az (pv 8) (oh jJ aq) (fun _ _=>rfl)) (fun _ _=>rfl)) (fun _ _=>rfl)) (au aU (au az (pv 5) (pv 7) (fun _ _=>rfl)) (pv 6) (fun _ _=>rfl)) (fun _ _=>rfl)) (aA aH (by rfl) B.len cG (aa (pv 8) ag)) (aL _))))) (al (aF fP)) aQ)
   (ah (bA (aM zT (aA aH (by rfl) B.len cG (aa (pv 9) ag)) (bY mS (bY mS (pv 2) (au aU (pv 3) (au az (pv 8) aq (fun _ _=>rfl)) (fun _ _=>rfl)) (fun _ _=>rfl)) (au aU (au az (pv 4) (pv 7) (fun _ _=>rfl)) (pv 6) (fun _ _=>rfl)) (fun _ _=>rfl)) (aL _)) (al (aF fP)) aQ)
   (ah (bA (aM sY (aD CH h5 aP (aa (pv 3) (aa (pv 4) (aa (pv 5) (aa (pv 6) (aa (pv 7) (aa (pv 8) ag))))))) fP (aL _)) (al (aF fP)) aQ)
   (ah (bA (aM sY (aD ST h6 aP (aa (pv 0) (aa (pv 3) (aa (pv 4) (aa (pv 5) (aa (pv 6) (aa (pv 7) (aa (pv 8) ag)))))))) fP (aL _)) (al (aF fP)) aQ)
   (ah (cP (iA im kM kK dj (pv 9) (aa (pv 6) ag)))
   (al (aF (cZ (Ig (d:=0) hr.u) (aD BL hr aP (aa (pv 0) (aa (pv 3) (aa (pv 4) (aa (pv 5) (aa (pv 6) (aa (pv 7) ag))))))) (pv 8) (aL _)))))))))))),?_⟩
  refine⟨_,rfl,_,rfl,_,rfl,_,rfl,_,rfl,_,rfl,_,rfl,O,r,a,SA,LA,as,ds,bx,bz,n,L,g,hs,ns,ss,ls,i,b,rfl,X.of,X.fr,X.gd,X.net.i9,X.ha,X.Cf,X.lg,X.ln,X.zC,hi,hb,fun v H1 s1 tl=>?_⟩;have X1:=X.same s1;refine⟨_,rfl,_,rfl,_,rfl,_,rfl,_,rfl,_,rfl,Lp,p,a,SA,LA,bx,bz,n,L,g,hs,ns,ss,ls,i,b,rfl,X1.net,X1.nL,X1.rn,X1.gd,X1.ha,X1.lg,X1.ln,X1.Cf,X1.zC,hi,X1.tb,fun v2 H2 xv s2 S8=>?_⟩;have X2:=X1.keep s2 xv;have QB:cy Pb H H2:=(cy.of s1).trans s2;cases hz:AK n g hs L ss ls b i with
  |none=>
   rw[hz] at tl S8;obtain rfl:v=.bJ:=tl;obtain rfl:v2=.bJ:=S8;refine⟨_,rfl,rfl,_,rfl,?_⟩;refine bN (fun _=>?_) (fun e=>absurd (bK rfl) e);exact⟨_,rfl,rfl,q H2 xv QB⟩
  |some zs=>
   rw[hz] at tl S8;obtain⟨Du,rfl,nDu,QC⟩:=tl;obtain⟨To,rfl,Y5,Y6⟩:=S8;obtain⟨Pp,R⟩:=X.rg;obtain⟨h,o',e,d,qq,c,_,_,f1,f2,hn,on,en,S9,ed,dl,he,Ir,ec,cl,hq,qn,aad,AF⟩:=AL X.ln X.net.i9 R hz;have QD:H2 Du=some (.lst (NV zs)):=s2 _ _ QC (X1.tb.not QC (by intro ps z;cases z));have zl:zs.length<=60:=by
    have:=Ir;rw[gO R X.net.i9 on en] at this;have hl:=R.lt e en;have ho:=R.lt o' on;have n2:=X.net.i9.n2;unfold rd vC.fd at this;split at this <;> split at this <;> lia
   refine⟨_,rfl,rfl,_,rfl,?_⟩;refine bN (fun e=>absurd (bV e) (by intro z;cases z)) (fun _=>?_);refine⟨_,rfl,_,rfl,To,Du,zs,rfl,Y6,QD,by lia,fun H3 s3=>⟨_,rfl,?_⟩⟩;refine bN (fun e=>absurd e (by decide)) (fun _=>?_);have X3:=X2.same s3;have Fl:=s3 _ _ QD;have QE:=s3 _ _ Y6;obtain⟨g1,g2,g3,g4,g5,g6⟩:=X3.lg;have Hd:=X.ln.r.tie b hb;have sl:=X.ln.sl b (dI hb);have ats:fu (SV (ss b)) (i:Int)=some (.int (h:Int)):=by rw[dw (by lia),f1];rfl
   have atl:fu (SV (ls b)) (i:Int)=some (.int (o':Int)):=by rw[dw (by rw[Hd.len];lia),f2];rfl
   have NR:fu (HV hs) ((zs.getD (zs.length-1) 0:Nat):Int)=some (.int (e:Int)):=by rw[ed,hW dl,he]
   have Wn:fu (HV hs) ((zs.getD 0 0:Nat):Int)=some (.int (qq:Int)):=by rw[ec,hW cl,hq]
   have LX:fu (NV zs) 0=some (.int ((zs.getD 0 0:Nat):Int)):=wO (k:=0) (pN.mpr AF);have rS:fu (bx.map V.ref) (b:Int)=some (.ref (bx.getD b 0)):=eK (by rw[g3.1];lia);have rL:fu (bz.map V.ref) (b:Int)=some (.ref (bz.getD b 0)):=eK (by rw[g4.1];exact hb);refine⟨_,rfl,_,rfl,_,rfl,_,rfl,Du,_,_,_,rfl,rfl,aT.of Fl,AW AF,a,_,_,_,rfl,rfl,cx.of X3.ha,NR,r,_,rfl,X3.fr.get en,_,rfl,_,rfl,LA,_,_,_,rfl,rfl,aT.of g2,rL,_,rfl,bz.getD b 0,_,_,_,rfl,rfl,cx.of (g4.2 b hb),atl,_,_,rfl,(X3.fr.rows e en).get on,_,rfl,Du,_,rfl,.inl (aT.of Fl),_,_,rfl,rfl,_,rfl,?_⟩;refine bN (fun z=>absurd (bV z) (by rw[aN];lia)) (fun _=>?_);refine⟨_,rfl,To,_,rfl,.inl (aT.of QE),_,rfl,_,rfl,_,rfl,Du,_,_,_,rfl,rfl,aT.of Fl,LX,a,_,_,_,rfl,rfl,cx.of X3.ha,Wn,r,_,rfl,X3.fr.get qn,_,rfl,_,rfl,SA,_,_,_,rfl,rfl,aT.of g1,rS,_,rfl,bx.getD b 0,_,_,_,rfl,rfl,cx.of (g3.2 b (by lia)),ats,_,_,rfl,(X3.fr.rows qq qn).get hn,_,_,rfl,rfl,_,rfl,?_⟩;refine bN (fun z=>absurd (bV z) (by rw[aN];lia)) (fun _=>?_);have QF:H3 Du=some (.lst (HV (IN zs))):=by rw[zo];exact Fl
   refine⟨_,rfl,_,rfl,_,rfl,_,rfl,_,rfl,_,rfl,a,SA,LA,Du,bx,bz,hs.length,L,ss,ls,hs,IN zs,i,b,rfl,X3.ha,rfl,X3.lg,QF,fun H4 s4=>?_⟩;rw[S9];refine⟨true,true,rfl,rfl,_,rfl,?_⟩;refine bN (fun z=>absurd z (by decide)) (fun _=>?_);have X4:=X3.same s4;refine⟨_,rfl,_,rfl,_,rfl,_,rfl,_,rfl,_,rfl,_,rfl,p,a,SA,LA,Du,bx,bz,hs.length,L,ss,ls,hs,IN zs,ns,i,b,n,g,Lp,rfl,X4.ha,rfl,X4.lg,X.ln.r,s4 _ _ QF,hi,X4.net,S9,fun bt H5 s5 hbt=>?_⟩;have ebt:bt=true:=by
    rw[hbt d o' e (by rw[aN,kA,ed]) f2 he,aN];exact bK Ir
   subst ebt;refine⟨true,true,rfl,rfl,_,rfl,?_⟩;refine bN (fun z=>absurd z (by decide)) (fun _=>?_);have S_:=s4.trans s5;have X5:=X3.same S_;have Iu:=S_ _ _ QE;have Wo:=S_ _ _ Fl;have nTD:Du≠To:=fun z=>by rw[z] at QC;rw[Y5] at QC;cases QC
   have Wp:H To=none:=s1.free Y5;refine⟨_,rfl,.inl ⟨rfl,_,aT.of Iu⟩,_,rfl,To,_,_,rfl,rfl,Iu,by rw[aN];exact bU (show zs.length<61 by lia) (by decide),?_⟩;have s6:cy Pb H (upd H5 To (.lst (NV zs++[.int (i:Int)]))):=fun x o ex nx=>by
    rw[ak (ai ex Wp)];exact S_ _ _ (s3 _ _ (QB _ _ ex nx))
   have Y7:jZ Pb (upd H5 To (.lst (NV zs++[.int (i:Int)]))):=by
    have t5:=X5.tb;refine t5.keep fun x o ex cs=>?_;have:x≠To:=by
     rintro rfl;rw[Iu] at ex;rcases cs with cs|⟨_,cs⟩
     .exact(t5.not Iu (by intro ps z;cases z)) cs
     .rw[cs] at ex;cases ex
    rw[ak this];exact ex
   have QG:(upd H5 To (.lst (NV zs++[.int (i:Int)]))) Du=some (.lst (NV zs)):=by rw[ak nTD];exact Wo
   generalize upd H5 To (.lst (NV zs++[.int (i:Int)]))=H6 at *;have X6:=X.keep s6 Y7;refine⟨_,rfl,_,rfl,_,rfl,_,rfl,_,rfl,_,rfl,Lp,p,a,SA,LA,bx,bz,n,L,g,hs,ns,ss,ls,i,b,rfl,X6.net,X6.nL,X6.rn,X6.gd,X6.ha,X6.lg,X6.ln,X6.Cf,X6.zC,hi,X6.tb,fun v3 H7 tb7 s7 Y8=>?_⟩;rw[hz] at Y8;obtain⟨D3,rfl,nD3,kF⟩:=Y8;have Wq:=s7 _ _ QG (Y7.not QG (by intro ps z;cases z));exact⟨_,rfl,D3,Du,_,_,rfl,rfl,aT.of kF,aT.of Wq,rfl,E8,q H7 tb7 (s6.trans s7)⟩
end
end vC
namespace L2
open PySem PySem.Spec PyProof.Rows
theorem Ci{X:Cx}(hc:X.calm=true):eO X (.type "set") (fun xs H Q=>∃ (l:Addr) (ns:List Int),xs=[.ref l]/\aT X.K H l (ns.map V.int)/\ns.length<=100/\∀D S,H D=none->Q (.ref D) (upd H D (.set S (firstMet (fun i=>ns.getD i 0) ns.length).length))):=by
 intro ae s σ H xs us Q I r h;obtain⟨l,ns,rfl,hl,UD,q⟩:=h;obtain⟨u1,rfl,r1⟩:=r.one;obtain rfl:u1=Value.ref l:=r1;obtain⟨its,rv,pl,_⟩:=I.list hl;have ia:=yF rv;have il:its.length=ns.length:=ia.length;refine call_set_list (I.ok.hd hc) pl.isList (by simpa using ia) (by rw[cu,il];exact gh (show ns.length+1<=101 by lia) (by decide)) fun h' tk S' k=>?_;have e2:its.toArray.size=ns.length:=by rw[cu,il]
 rw[e2] at S';exact⟨.ref s.heap.objs.size,_,I.wa (t':=tk) (o:=.set _ _) (fun b u e=>k b u (aX e) e) (lf (aZ _)) S',rfl,q _ _ I.fresh⟩
theorem Cj{X:Cx}:eO X (.builtin "len") (fun xs H Q=>∃D S n,xs=[.ref D]/\H D=some (.set S n)/\n<=4000/\Q (.int n) H):=by
 intro ae s σ H xs us Q I r h;obtain⟨D,S,n,rfl,e,hn,q⟩:=h;obtain⟨u1,rfl,r1⟩:=r.one;obtain rfl:u1=Value.ref D:=r1;obtain⟨o,es,ep,t,q1,Y1,hd,_,_,_,hf,hz⟩:=(show s.heap.SetOf (intKind X.prog X.w) D S n from I.bC D _ e)
 exact call_len_set q1 Y1 hd hf (by rw[hz];lia) ⟨.int n,H,I.tok _,⟨_,by rw[hz]⟩,q⟩
theorem AX{val:Nat->Int}:∀ {m:Nat},((List.range m).map val).Nodup->(firstMet val m).length=m
 |0,_=>rfl
 |m+1,h=>by
  rw[jz,cD] at h;obtain⟨n1,n2,n3⟩:=ju.mp h;rw[firstMet_succ];unfold step_dedup;by_cases c:(firstMet val m).any (·==val m)=true
  .rw[firstMet_any] at c;obtain⟨x,hx,e⟩:=List.any_eq_true.mp c;exact absurd (eq_of_beq e) (n3 x hx (val m) (by simp))
  .rw[ap c,cr,pK,AX n1]
end L2
namespace vC
open PySem L2 rJ
open dE (cS NT mH cy)
abbrev Wr:Stmt:=gy 56
theorem Fm{es:List Nat}(nd:es.Nodup):(PyProof.Rows.firstMet (fun i=>(IN es).getD i 0) (IN es).length).length=es.length:=by
 rw[L2.AX,aN];have e:(List.range (IN es).length).map (fun i=>(IN es).getD i 0)=IN es:=by
  refine List.ext_getElem (by rw[aN,fL]) fun i h1 h2=>?_;rw[yd,List.getElem_range,bP,cm h2];rfl
 rw[e];exact ir.mpr (nd.imp fun {a b} h z=>h (dS z))
section
variable {P:Program} {w:World} {K:PySem.W.Frag} {mg:Str->Option Value} {base:Heap}
theorem Iv:aG ["_law_net","_law_outs","_law_fars_here","_law_homes","_law_stands","_law_log_here","_law_i","_law_ends","_law_beat","_law_chain"] ["_law_net","_law_outs","_law_fars_here","_law_homes","_law_stands","_law_log_here","_law_i"] (am Wr):=⟨rfl,rfl,rfl,by decide +kernel,rfl,by decide +kernel,by decide +kernel⟩
def MM(C Pb:Addr):Sp:=fun vs H Q _=>∃ (Lp:Addr->Prop) (p O r a SA LA:Addr) (as ds bx bz:List Addr) (n L:Nat) (g:Nat->List Nat) (hs ns:List Int) (ss ls:Nat->List (Option Nat)) (i:Nat),vs=[.ref p,.ref O,.ref r,.ref a,.ref SA,.ref LA,.int i]/\Ev C Pb Lp p O r a SA LA as ds bx bz n L g hs ns ss ls H/\i<hs.length/\
 ∀H',jZ Pb H'->cy Pb H H'->Q (.bl true) H'
theorem QH{f C Pb:Addr}{fd:FuncData}(F:fR K "_law_letter_right" "_law_letter_right" Wr f fd)(B:Bl mg)(Gu:mg "set"=none)(TD:b_ P w K mg base a9 11 "_law_told_right" ["_law_net","_law_outs","_law_fars_here","_law_homes","_law_stands","_law_log_here","_law_i","_law_beat"] (ML C Pb))(LB:b_ P w K mg base a9 2 "_law_blame" ["_law_outs","_law_fars_here","_law_homes","_law_stands","_law_log_here","_law_i","_law_beat"] Ih)(BL:b_ P w K mg base a9 10 "blame" ["net","homes","stands","log","letter","beat"] (Iq C Pb)):
  bv P w K mg base a9 12 f fd ["_law_net","_law_outs","_law_fars_here","_law_homes","_law_stands","_law_log_here","_law_i"] (MM C Pb):=by
 refine F.ok Iv (fun vs H Q E h=>?_) (fun dM A outer s0 H vs Q E hr h=>?_)
 .obtain⟨Lp,p,O,r,a,SA,LA,as,ds,bx,bz,n,L,g,hs,ns,ss,ls,i,rfl,_⟩:=h;rfl
 .obtain⟨Lp,p,O,r,a,SA,LA,as,ds,bx,bz,n,L,g,hs,ns,ss,ls,i,rfl,X,hi,q⟩:=h;have h2:bW 2 _:=hr.mono (by decide);have h10:bW 10 _:=hr.mono (by decide);refine⟨_,(ah (aO (i:=7) Iv.nd rfl (Or.inl rfl) (dY ag))
   (ah (dO eN rfl (et rfl B.range (aa (aA aH (by rfl) B.len cG (aa (pv 5) ag)) ag)) (aB (i:=8) Iv.nd rfl (Or.inl rfl))
    (ah (bA (dW (dB (aD TD hr aP (aa (pv 0) (aa (pv 1) (aa (pv 2) (aa (pv 3) (aa (pv 4) (aa (pv 5) (aa (pv 6) (aa (pv 8) ag))))))))))) (al (aF fP)) aQ)
    (ah (aO (i:=9) Iv.nd rfl (Or.inl rfl) (aD LB h2 aP (aa (pv 1) (aa (pv 2) (aa (pv 3) (aa (pv 4) (aa (pv 5) (aa (pv 6) (aa (pv 8) ag)))))))))
    (al (bA (aM uw (pv 9) ce (aL _)) (al (cP (iA im kM kK dj (pv 7) (aa (au az (pv 9) (oh jJ aq) (fun _ _=>rfl)) ag)))) aQ)))))
   (al (aF (ff (cZ eQ (aA Cj (by rfl) B.len cG (aa (dh (Ci rfl) (by rfl) Gu PyProof.Rows.boot_set (aa (pv 7) ag)) ag)) (aA aH (by rfl) B.len cG (aa (pv 7) ag)) (aL _)) (ff (cZ uE (pv 6) (pv 7) rfl) (fY (cZ iT (aD BL h10 aP (aa (pv 0) (aa (pv 3) (aa (pv 4) (aa (pv 5) (aa (pv 6) (aa (aA aH (by rfl) B.len cG (aa (pv 5) ag)) ag))))))) ce (aL _))))))))),?_⟩
  refine⟨by show 0<=sizeLine;decide,fun En Y9=>?_⟩;have Ws:=aj (o:=.lst []) Y9;obtain⟨g1,g2,g3,g4,g5,g6⟩:=X.lg;have LV:(((bz.map V.ref).length:Nat):Int)=(L:Int):=by rw[aN,g4.1]
  have zC:=X.zC;have LN:=X.ln;have Fi:=X.net.i9;have nEP:∀ {Hc:Hp} {xs:List V},jZ Pb Hc->Hc En=some (.lst xs)->En≠Pb:=fun t e=>t.not e (by intro ps z;cases z);refine⟨_,rfl,LA,_,rfl,.inl (aT.of (Ws _ _ g2)),L,by rw[LV],by lia,by lia,?_⟩;refine eX (n:=L) (lo:=0) (fun b σ Hc=>(∃v8 v9,σ=[some (.ref p),some (.ref O),some (.ref r),some (.ref a),some (.ref SA),some (.ref LA),some (.int i),some (.ref En),v8,v9])/\cy Pb H Hc/\jZ Pb Hc/\∃es:List Nat,Hc En=some (.lst (NV es))/\es.length<=b/\es.Nodup/\∀d∈es,d≠i/\∃c M o h0,c<b/\NG n g hs hs.length L ss ls i c M d o h0/\∀e:Nat,hs.getD d 0=(e:Int)->M<=far (bb n g) o e)
   ⟨⟨_,_,rfl⟩,cy.of Ws,pr X.tb Ws,[],af,aZ _,ji,fun d hd=>nomatch hd⟩ ?_ ?_
  .rintro b σ Hc hb ⟨⟨v8,v9,rfl⟩,sc,tb,es,hE,esl,nd,Ta⟩;rw[lB];have Xc:=X.keep sc tb;refine⟨_,rfl,_,rfl,_,rfl,_,rfl,_,rfl,_,rfl,_,rfl,_,rfl,Lp,p,O,r,a,SA,LA,as,ds,bx,bz,n,L,g,hs,ns,ss,ls,i,b,rfl,Xc,hi,hb,fun H1 Ho s1=>⟨_,rfl,lL ?_⟩⟩;have X1:=Xc.keep s1 Ho;have Ib:=s1 _ _ hE (nEP tb hE);refine⟨_,rfl,_,rfl,_,rfl,_,rfl,_,rfl,_,rfl,_,rfl,O,r,a,SA,LA,as,ds,bx,bz,n,L,g,hs,ns,ss,ls,i,b,rfl,X1.of,X1.fr,X1.gd,Fi,X1.ha,X1.Cf,X1.lg,LN,zC,hi,hb,fun v H2 s2 tl=>?_⟩;have QB:cy Pb H H2:=(sc.trans s1).trans (cy.of s2);have xv:=pr Ho s2;have QI:=s2 _ _ Ib;have old:∀d∈es,d≠i/\∃c M o h0,c<b+1/\NG n g hs hs.length L ss ls i c M d o h0/\∀e:Nat,hs.getD d 0=(e:Int)->M<=far (bb n g) o e:=fun d hd=>
    let ⟨x,c,M,o,h0,y,z⟩:=Ta d hd
    ⟨x,c,M,o,h0,by lia,z⟩
   refine⟨_,rfl,rfl,_,rfl,?_⟩;cases hz:AK n g hs L ss ls b i with
   |none=>
    rw[hz] at tl;obtain rfl:v=.bJ:=tl;refine bN (fun e=>absurd e (by rw[bK rfl];decide)) (fun _=>?_);exact⟨⟨_,_,rfl⟩,QB,xv,es,QI,by lia,nd,old⟩
   |some zs=>
    rw[hz] at tl;obtain⟨Dz,rfl,nDz,hDz⟩:=tl;obtain⟨Pp,R⟩:=X.rg;obtain⟨h,o',e,d,qq,c,_,_,f1,f2,hn,on,en,S9,ed,dl,he,Ir,_,_,_,_,_,AF⟩:=AL LN Fi R hz;obtain⟨d',o,h0,zd,aae,Ch⟩:=zw LN.r S9;rw[aN] at Ch;obtain rfl:d=d':=by rw[aN,kA,ed] at zd;exact dS zd
    obtain rfl:o'=o:=by have:=Ch.o0;rw[f2] at this;exact aY this
    have di:d≠i:=fun z=>by
     subst z;obtain⟨e',w1,w2,w3⟩:=ER LN.r Fi Ch;obtain rfl:e=e':=by rw[he] at w1;exact(dS w1).symm
     lia
    have de:d∉es:=fun z=>by
     obtain⟨_,c',M',o2,h02,w0,C',str⟩:=Ta d z;obtain⟨e',w1,w2,w3⟩:=HL LN.r Fi C' Ch w0;have:=str e' w1.symm;lia
    refine bN (fun _=>?_) (fun e=>absurd (by rw[cE (by intro z;cases z)];rfl) e);refine⟨_,rfl,.inl ⟨rfl,_,aT.of QI⟩,_,rfl,_,rfl,Dz,_,_,_,rfl,rfl,aT.of hDz,AW AF,En,_,_,rfl,rfl,QI,by rw[aN];exact bU (show es.length<61 by lia) (by decide),?_⟩;rw[ed];refine⟨⟨_,_,rfl⟩,fun x o ex nx=>?_,?_,es++[d],by rw[af];exact congrArg (fun z=>some (HO.lst z)) gL.symm,by rw[cr,pK];lia,ju.mpr ⟨nd,dR.mpr ⟨(fun z=>nomatch z),ji⟩,fun u hu v hv z=>de (by rw[bS] at hv;rw[<-hv,<-z];exact hu)⟩,fun x hx=>?_⟩
    .rw[ak (ai ex Y9)];exact QB _ _ ex nx
    .refine xv.keep fun x o ex cs=>?_;have:x≠En:=by
      rintro rfl;rw[QI] at ex;rcases cs with cs|⟨_,cs⟩
      .exact(xv.not QI (by intro ps z;cases z)) cs
      .rw[cs] at ex;cases ex
     rw[ak this];exact ex
    .rcases bq.mp hx with m|m
     .exact old x m
     .rw[bS.mp m];refine⟨di,b,zs.length,o',h0,by lia,Ch,fun e' Y_=>?_⟩;obtain rfl:e=e':=by rw[he] at Y_;exact dS Y_
      exact Ir
  .rintro σ Hc ⟨⟨v8,v9,rfl⟩,sc,tb,es,hE,esl,nd,Ta⟩;have hEI:Hc En=some (.lst ((IN es).map V.int)):=by
    have e:=zo (js:=es);unfold HV at e;rw[e];exact hE
   refine⟨_,rfl,En,IN es,rfl,aT.of hEI,by rw[aN];lia,fun D S hD=>⟨D,_,_,rfl,af,?_,?_⟩⟩
   .rw[Fm nd];lia
   rw[Fm nd];have sD:=aj (o:=.set S es.length) hD;have Ib:=sD _ _ hE;have Ho:=pr tb sD;have X1:=X.keep (sc.trans (cy.of sD)) Ho;generalize upd Hc D (.set S es.length)=H1 at *;refine⟨_,rfl,En,_,rfl,.inl (aT.of Ib),rfl,_,rfl,?_⟩;refine bN (fun _=>?_) (fun e=>absurd (bK (by rw[aN])) e);have nin:Da (.int (i:Int)) (NV es)=false:=by
    rw[pf];exact cE fun z=>(Ta i z).1 rfl
   refine⟨_,rfl,_,rfl,En,NV es,rfl,.inl (aT.of Ib),rfl,qR,_,rfl,?_⟩;rw[ao rfl,nin];refine bN (fun _=>?_) (fun e=>absurd rfl e);obtain⟨c1,c2,_⟩:=X1.lg;refine⟨_,rfl,_,rfl,_,rfl,_,rfl,_,rfl,_,rfl,LA,_,rfl,.inl (aT.of c2),Lp,p,a,SA,LA,bx,bz,n,L,g,hs,ns,ss,ls,i,L,by rw[LV];rfl,X1.net,X1.nL,X1.rn,X1.gd,X1.ha,X1.lg,LN,X1.Cf,zC,hi,Ho,fun v H2 xv s2 tl=>?_⟩;have e0:AK n g hs L ss ls L i=none:=by unfold AK;exact ap fun z=>absurd z.1 (jj _)
   rw[e0] at tl;obtain rfl:v=.bJ:=tl;exact⟨rfl,q H2 xv ((sc.trans (cy.of sD)).trans s2)⟩
end
open dE (cS NT pe va fm zr zp PO Zs cy kW)
abbrev zH:Stmt:=gy 57
section
variable {P:Program} {w:World} {K:PySem.W.Frag} {mg:Str->Option Value} {base:Heap}
def JW(K:PySem.W.Frag)(H:Hp)(a:Addr)(xs:List V):Prop:=(∃o,H a=some (.iI o (.lst xs)))\/(∀H':Hp,aT K H' a xs)
theorem JW.seq{H:Hp}{a:Addr}{xs:List V}(h:JW K H a xs):aT K H a xs:=by
 rcases h with ⟨o,h⟩|h
 .exact .inl (.inr ⟨o,h⟩)
 .exact h H
theorem JW.mono{H H':Hp}{a:Addr}{xs:List V}(h:JW K H a xs)(e:∀o u,H a=some (.iI o (.lst u))->H' a=some (.iI o (.lst u))):JW K H' a xs:=by
 rcases h with ⟨o,h⟩|h
 .exact .inl ⟨o,e _ _ h⟩
 .exact .inr h
def LD(H:Hp)(q:Addr):Prop:=(∃xs,H q=some (.lst xs))\/∃k,H q=some (.dK k)
theorem LD.ne{H:Hp}{q b:Addr}{o:HO}(h:LD H q)(e:H b=some o)(h1:∀xs,o≠.lst xs)(h2:∀k,o≠.dK k):b≠q:=by
 rintro rfl;rcases h with ⟨xs,z⟩|⟨k,z⟩
 .rw[e] at z;exact h1 _ (aY z)
 .rw[e] at z;exact h2 _ (aY z)
structure Kp(K:PySem.W.Frag)(Pt Pb a:Addr)(xs:List V)(H:Hp):Prop where
 s:JW K H a xs
 t:pe Pt H
 b:jZ Pb H
theorem Kp.of{Pt Pb a:Addr}{xs:List V}{H H':Hp}(k:Kp K Pt Pb a xs H)(f:∀o u,H a=some (.iI o (.lst u))->H' a=some (.iI o (.lst u)))(up:∀b o,H b=some o->(b=Pt\/b=Pb\/∃p,o=.ext p)->H' b=some o):Kp K Pt Pb a xs H':=
 ⟨k.s.mono f,k.t.keep fun b o e z=>up b o e (z.elim .inl fun y=>.inr (.inr y)),k.b.keep fun b o e z=>up b o e (z.elim (fun y=>.inr (.inl y)) fun y=>.inr (.inr y))⟩
theorem Kp.m9{Pt Pb a:Addr}{xs:List V}{H:Hp}(k:Kp K Pt Pb a xs H){b:Addr}{o:HO}(e:H b=some o)(z:b=Pt\/b=Pb\/∃p,o=.ext p):(∀xs,o≠.lst xs)/\∀k,o≠.dK k:=by
 rcases z with rfl|rfl|⟨p,rfl⟩
 .rcases k.t with y|⟨c,y,_⟩ <;> (rw[e] at y;cases y;exact⟨fun _ z=>(by cases z),fun _ z=>(by cases z)⟩)
 .rcases k.b with y|⟨c,y,_⟩ <;> (rw[e] at y;cases y;exact⟨fun _ z=>(by cases z),fun _ z=>(by cases z)⟩)
 .exact⟨fun _ z=>(by cases z),fun _ z=>(by cases z)⟩
theorem Kp.gp{Pt Pb a q:Addr}{xs:List V}{H H':Hp}(k:Kp K Pt Pb a xs H)(s:ba q H H')(hq:LD H q):Kp K Pt Pb a xs H':=
 k.of (fun o u z=>s _ _ z (hq.ne z (by intro x y;cases y) (by intro x y;cases y))) fun b o e z=>s _ _ e (hq.ne e (k.m9 e z).1 (k.m9 e z).2)
theorem Kp.same{Pt Pb a:Addr}{xs:List V}{H H':Hp}(k:Kp K Pt Pb a xs H)(s:aE H H'):Kp K Pt Pb a xs H':=k.of (fun o u z=>s _ _ z) fun b o e _=>s _ _ e
theorem Kp.q0{Pt Pb a:Addr}{xs:List V}{H H':Hp}(k:Kp K Pt Pb a xs H)(NS:Pt≠Pb)(s:cy Pb H H')(t:jZ Pb H'):Kp K Pt Pb a xs H':=by
 refine⟨k.s.mono fun o u z=>s _ _ z (k.b.not z (by intro ps z;cases z)),k.t.keep fun b o e z=>s _ _ e ?_,t⟩;rcases z with rfl|⟨p,rfl⟩
 .exact NS
 .exact k.b.not e (by intro ps z;cases z)
theorem bn.ld{H:Hp}{p:Addr}(h:bn H p):LD H p:=let ⟨a,b,e,_⟩:=h;.inl ⟨_,e⟩
theorem iH:aG ["_law_script","_law_k","_law_pot_here","_law_outs","_law_fars_here","_law_homes","_law_stand","_law_stands","_law_log_here","_law_net","_law_i"] ["_law_script"] (am zH):=⟨rfl,rfl,rfl,by decide +kernel,rfl,by decide +kernel,by decide +kernel⟩
def AY(K:PySem.W.Frag)(Pt Pb:Addr):Sp:=fun vs H Q _=>∃ (a:Addr) (ns:List Int),vs=[.ref a]/\JW K H a (ns.map V.int)/\ns.length<=63/\pe Pt H/\jZ Pb H/\∀H',Q (.bl true) H'
theorem MN{f C Pt Pb fI:Addr}{fd Za:FuncData}(F:fR K "law" "law" zH f fd)(NS:Pt≠Pb)(B:Bl mg)(T:NT K mg C)(PO':b_ P w K mg base a9 1 "_law_pot" ["_law_script","_law_k"] (Ek K))(TK:b_ P w K mg base a9 1 "_law_take" ["_law_pot_here","_law_many"] lV)(RG:b_ P w K mg base a9 3 "_law_ring" ["_law_pot_here","_law_many"] Mf)(GR:b_ P w K mg base a9 1 "_law_going_round" ["_law_outs"] LJ)(FA:b_ P w K mg base a9 2 "_law_fars" ["_law_outs"] zx)(LE:b_ P w K mg base a9 2 "_law_letters" ["_law_pot_here","_law_outs","_law_most"] Ew)(LO:b_ P w K mg base a9 3 "_law_log" ["_law_outs","_law_fars_here","_law_homes","_law_stand"] zD)(CU:b_ P w K mg base a9 2 "_law_cut" ["_law_pot_here","_law_stands","_law_log_here"] Mr)(TI:b_ P w K mg base a9 1 "_law_ties" ["_law_outs"] vm)(M:Mk K C fI)(bI:jK K Za ["self","many","ties"] [])(GI:bv P w K mg base a9 7 fI Za ["self","many","ties"] (va C Pt))(LR:b_ P w K mg base a9 12 "_law_letter_right" ["_law_net","_law_outs","_law_fars_here","_law_homes","_law_stands","_law_log_here","_law_i"] (MM C Pb)):
  bv P w K mg base a9 13 f fd ["_law_script"] (AY K Pt Pb):=by
 refine F.ok iH (fun vs H Q E h=>?_) (fun dM A outer s0 H vs Q E hr h=>?_)
 .obtain⟨a,ns,rfl,_⟩:=h;rfl
 .obtain⟨a,ns,rfl,hS,KY,tb,tbb,q⟩:=h;have h1:bW 1 _:=hr.mono (by decide);have h2:bW 2 _:=hr.mono (by decide);have h3:bW 3 _:=hr.mono (by decide);have h8:bW 8 _:=hr.mono (by decide);refine⟨_,ah (dO eN rfl (et rfl B.range (aa (aA (rZ rfl) (by rfl) B.max PyProof.Rows.boot_max (aa aq (aa (aA (Bc rfl) (by rfl) B.min PyProof.Rows.boot_min (aa (aA aH (by rfl) B.len cG (aa (pv 0) ag)) (aa aq ag))) ag))) ag)) (aB (i:=1) iH.nd rfl (Or.inl rfl))
    (ah (aO (i:=2) iH.nd rfl (Or.inl rfl) (aD PO' h1 aP (aa (pv 0) (aa (pv 1) ag))))
    (ah (aO (i:=3) iH.nd rfl (Or.inl rfl) (aD GR h1 aP (aa (aD RG h3 aP (aa (pv 2) (aa (bp dC aq (aD TK h1 aP (aa (pv 2) (aa aq ag)))) ag))) ag)))
    (ah (aO (i:=4) iH.nd rfl (Or.inl rfl) (aD FA h2 aP (aa (pv 3) ag)))
    (ah (iR (aD LE h2 aP (aa (pv 2) (aa (pv 3) (aa aq ag)))) (fD (n:=2) rfl (a_ (aB (i:=5) iH.nd rfl (Or.inl rfl)) (a_ (aB (i:=6) iH.nd rfl (Or.inl rfl)) d_))))
    (ah (iR (aD LO h3 aP (aa (pv 3) (aa (pv 4) (aa (pv 5) (aa (pv 6) ag))))) (fD (n:=2) rfl (a_ (aB (i:=7) iH.nd rfl (Or.inl rfl)) (a_ (aB (i:=8) iH.nd rfl (Or.inl rfl)) d_))))
    (ah (iR (aD CU h2 aP (aa (pv 2) (aa (pv 7) (aa (pv 8) ag)))) (fD (n:=2) rfl (a_ (aB (i:=7) iH.nd rfl (Or.inl rfl)) (a_ (aB (i:=8) iH.nd rfl (Or.inl rfl)) d_))))
    (ah (aO (i:=9) iH.nd rfl (Or.inl rfl) (F9 M GI h8 rfl T.mgC bI .nil aP (aa (aA sT (by rfl) B.len cG (aa (pv 3) ag)) (aa (aD TI h1 aP (aa (pv 3) ag)) ag))))
    (al (dO eN rfl (et rfl B.range (aa (aA aH (by rfl) B.len cG (aa (pv 5) ag)) ag)) (aB (i:=10) iH.nd rfl (Or.inl rfl))
     (al (bA (dW (dB (aD LR hr aP (aa (pv 9) (aa (pv 3) (aa (pv 4) (aa (pv 5) (aa (pv 7) (aa (pv 8) (aa (pv 10) ag)))))))))) dL aQ))))))))))))
   (al (aF fP)),?_⟩
  refine⟨_,rfl,a,_,rfl,.inl hS.seq,_,_,rfl,_,_,rfl,_,rfl,?_,?_,?_⟩
  .split <;> split <;> lia
  .split <;> split <;> lia
  have Wt:(if (if (3:Int)<(((ns.map V.int).length:Nat):Int) then 3 else (((ns.map V.int).length:Nat):Int)) > 1 then (if (3:Int)<(((ns.map V.int).length:Nat):Int) then 3 else (((ns.map V.int).length:Nat):Int)) else 1).toNat<=3:=by split <;> split <;> lia
  refine eX (lo:=0) (fun k σ Hc=>(∃v1 v2 v3 v4 v5 v6 v7 v8 v9 FM,σ=[some (.ref a),v1,v2,v3,v4,v5,v6,v7,v8,v9,FM])/\Kp K Pt Pb a (ns.map V.int) Hc) ⟨⟨_,_,_,_,_,_,_,_,_,_,rfl⟩,hS,tb,tbb⟩ ?_ ?_
  .rintro k σ Hc hk ⟨⟨v1,v2,v3,v4,v5,v6,v7,v8,v9,FM,rfl⟩,kp⟩;have k3:k<3:=bU hk Wt;rw[lB];refine⟨_,rfl,_,rfl,a,ns,k,rfl,kp.s.seq,by lia,fun p H1 sm1 Ye NQ=>?_⟩;have kp1:=kp.same sm1;refine⟨_,rfl,_,rfl,p,30,rfl,by decide,by decide,NQ,fun d ya yb d0 d1 a0 b0 b1=>⟨_,_,rfl,rfl,?_⟩⟩;have MO:bn (upd H1 p (.lst [.int ya,.int yb])) p:=bn.upd a0 b0 b1;have Wu:Kp K Pt Pb a (ns.map V.int) (upd H1 p (.lst [.int ya,.int yb])):=kp1.gp ba.upd NQ.ld;generalize upd H1 p (.lst [.int ya,.int yb])=H1' at *;obtain⟨n,hn⟩:∃n:Nat,(n:Int)=3+d:=⟨(3+d).toNat,by lia⟩
   refine⟨p,n,by rw[hn];rfl,MO,by lia,by lia,fun O as g H2 NN rg0 Ez wS=>?_⟩;have kp2:=Wu.gp Ez MO.ld;obtain⟨G,n2,FK,hO,hO1,aaf,gC⟩:=NN;refine⟨O,as,n,g,rfl,G,gC,n2,FK,hO,fun O' mT g' H3 NN3 eg SF LY=>?_⟩;obtain⟨ks0,_,hd0⟩:=hO.dict;have kp3:=kp2.gp SF (.inr ⟨_,hd0⟩);obtain⟨G',_,_,Zb,aag,Wv,gC'⟩:=NN3;have npO:p≠O:=by rintro rfl;exact MO.some hO1
   have JE:bn H3 p:=by obtain⟨u,v,e,z⟩:=wS;exact⟨u,v,SF _ _ e npO,z⟩
   have Ey:Vi mT n p:=fun h hh z=>by
    have:=Wv h hh;rw[<-z] at this;exact wS.some this
   have Fi:=HG G' gC' n2 FK;have Rn:sr n g':=by rw[eg];exact My G
   have RGx:∃P,Rg n g' P:=by obtain⟨P0,R0⟩:=rg0;rw[eg];exact⟨P0,R0.gr G⟩
   refine⟨_,rfl,O',mT,n,g',rfl,Zb,Fi,fun r ds H4 FR4 Zc NK Sn=>?_⟩;obtain⟨ks1,_,PL⟩:=Zb.dict;have kp4:=kp3.gp NK (.inr ⟨_,PL⟩);have Ww:p≠O':=by rintro rfl;obtain⟨u,v,e,_⟩:=JE;rw[e] at PL;cases PL
   have FO:bn H4 p:=by obtain⟨u,v,e,z⟩:=JE;exact⟨u,v,NK _ _ e Ww,z⟩
   refine⟨_,rfl,_,rfl,p,O',mT,n,g',rfl,FO,Zc,Ey,n2,FK,fun t a4 b4 hs s H5 ht ha hb hl LU R BH Qb Tb=>?_⟩;have kp5:=kp4.gp Qb FO.ld;have Zd:=Zc.gp Qb FO Ey;have FP:=FR4.gp Qb FO;refine⟨t,_,rfl,cx.of ht,rfl,_,_,rfl,_,_,rfl,rfl,?_⟩;refine⟨_,rfl,_,rfl,_,rfl,_,rfl,O',r,a4,b4,mT,ds,n,g',hs,s,rfl,Zd,FP,G',ha,hb,hl.symm,LU,R,BH,fun t5 Ze Zf Wx Wy L0 ss ls H6 VN LG0 LN0 L60 s6 Wz WA=>?_⟩;have kp6:=kp5.same s6;have OF6:=Zd.same s6;have FR6:=FP.same s6;have Tc:=Tb.same s6;have nS0:Ze≠p:=by rintro rfl;exact Tb.some Wz
   have nL0:Zf≠p:=by rintro rfl;exact Tb.some WA
   refine⟨t5,_,rfl,cx.of VN,rfl,_,_,rfl,_,_,rfl,rfl,?_⟩;refine⟨_,rfl,_,rfl,_,rfl,p,Ze,Zf,Wx,Wy,s.length,L0,ss,ls,rfl,Tc,LG0,nS0,nL0,L60,fun t6 SA LA bx bz L Td SX LG hLL SS SU Iw aah=>?_⟩;have LN:=LN0.cut hLL;have Fn:=kp6.gp Iw Tc.ld;have Ix:=OF6.gp Iw Tc Ey;have QJ:=FR6.gp Iw Tc;have WB:a4≠p:=by rintro rfl;obtain⟨u,v,e,_⟩:=Tb;rw[e] at ha;cases ha
   have ha6:=Iw _ _ (s6 _ _ ha) WB;refine⟨t6,_,rfl,cx.of SX,rfl,_,_,rfl,_,_,rfl,rfl,?_⟩;obtain⟨oo,ks,OK,Zg⟩:=Ix.dict;refine⟨_,rfl,O',_,rfl,⟨oo,Zg⟩,_,rfl,O',mT,n,g',rfl,Ix,G',FK,fun l zs H7 s7 hl7 hz7 po7 ez=>fun px dx nx ndx nex=>?_⟩;have kp7:=Fn.same s7;have sN:aE H7 (upd (upd H7 dx (.own px)) px (.ins C dx [])):=(aj (o:=.own px) ndx).trans (aj (D:=px) (o:=.ins C dx []) (by rw[ak nex.symm];exact nx));have gpx:(upd (upd H7 dx (.own px)) px (.ins C dx [])) px=some (.ins C dx []):=af;have pxN:Td px=none:=s7.free nx;generalize upd (upd H7 dx (.own px)) px (.ins C dx [])=HM at *;have Zh:=kp7.same sN;have sM:aE Td HM:=s7.trans sN;have FiZ:eJ n (zp zs):=dE.tj ez.symm Fi;have TM:fm HM l n zs:=⟨FiZ,sN _ _ hz7,fun z hz=>sN _ _ (po7 z hz)⟩
   refine⟨px,dx,n,l,zs,by rw[cp,OK.len];rfl,gpx,TM,Zh.t,fun H8 N8 t8 s8=>⟨rfl,?_⟩⟩;have N8':=N8.perm ez;have Zi:∀b o,Td b=some o->b≠Pt->H8 b=some o:=fun b o e z=>s8 _ _ (sM _ _ e) (ai e pxN) z;have FT:∀b o,Td b=some o->(∀ps,o≠.m9 ps)->H8 b=some o:=fun b o e z=>Zi b o e (Fn.t.not e z);have WC:jZ Pb H8:=Fn.b.keep fun b o e z=>Zi b o e (by
    rcases z with rfl|⟨p,rfl⟩
    .exact NS.symm
    .exact Fn.t.not e (by intro ps w;cases w))
   obtain⟨g1,g2,g3,g4,g5,g6⟩:=LG;have LG8:cI H8 SA LA bx bz hs.length L ss ls:=⟨FT _ _ g1 (by intro ps w;cases w),FT _ _ g2 (by intro ps w;cases w),g3.mono fun j _ e=>FT _ _ e (by intro ps w;cases w),g4.mono fun j _ e=>FT _ _ e (by intro ps w;cases w),fun b hb=>by rw[hl];exact g5 b hb,g6⟩
   have WD:¬ (HM Pb=none):=by
    have:=Zh.b;intro z;rcases this with y|⟨_,y,_⟩ <;> (rw[z] at y;cases y)
   have X8:Ev C Pb (fun b=>HM b=none) px O' r a4 SA LA mT ds bx bz n L g' hs [] ss ls H8:=by
    refine⟨N8',WD,Rn,G',RGx,⟨⟨oo,ks,OK,FT _ _ Zg (by intro ps w;cases w)⟩,Ix.rows.mono fun j _ e=>FT _ _ e (by intro ps w;cases w),Ix.inj⟩,⟨?_,fun j hj=>?_⟩,FT _ _ ha6 (by intro ps w;cases w),LG8,LN,by lia,by lia,WC⟩
    .obtain⟨ks2,x,y⟩:=QJ.dict;exact⟨ks2,x,FT _ _ y (by intro ps w;cases w)⟩
    .obtain⟨Rr,x,y⟩:=QJ.rows j hj;exact⟨Rr,FT _ _ x (by intro ps w;cases w),y⟩
   have kp8:Kp K Pt Pb a (ns.map V.int) H8:=⟨Fn.s.mono fun o u z=>FT _ _ z (by intro ps w;cases w),t8,WC⟩
   refine⟨_,rfl,a4,_,rfl,.inr (cx.of X8.ha),(hs.length:Nat),by rw[aN],by lia,by lia,?_⟩;refine eX (n:=hs.length) (lo:=0) (fun i σ H9=>(∃v,σ=[some (.ref a),some (.int k),some (.ref p),some (.ref O'),some (.ref r),some (.ref a4),some (.ref b4),some (.ref SA),some (.ref LA),some (.ref px),v])/\cy Pb H8 H9/\jZ Pb H9) ⟨⟨_,rfl⟩,cy.of (aE.refl _),WC⟩ ?_ ?_
   .rintro i σ H9 hi ⟨⟨v,rfl⟩,s9,WE⟩;rw[lB];exact⟨_,rfl,_,rfl,_,rfl,_,rfl,_,rfl,_,rfl,_,rfl,_,px,O',r,a4,SA,LA,mT,ds,bx,bz,n,L,g',hs,[],ss,ls,i,rfl,X8.keep s9 WE,hi,fun H10 WF s10=>⟨_,rfl,lL ⟨⟨_,rfl⟩,s9.trans s10,WF⟩⟩⟩
   .rintro σ H9 ⟨⟨v,rfl⟩,s9,WE⟩;exact⟨⟨_,_,_,_,_,_,_,_,_,_,rfl⟩,kp8.q0 NS s9 WE⟩
  .rintro σ Hc _;exact q Hc
end
open PySem L2
open dE (NT mH)
def FD(K:PySem.W.Frag)(n:Str)(st:Stmt):Prop:=∃ (f:Addr) (oc:Value) (od an:Option Addr) (sl:Array (Option Value)) (kV dc pm cd ct:Value),PySem.W.nsIn K mainGlobals n=some (some (.ref f))/\K.lookup f=some ⟨oc,od,.func (PySem.W.fnOf n n (cQ st) (bT st) (am st) .none kV dc pm an cd ct),sl⟩/\PySem.W.codeIn K cd n=true/\PySem.W.keepIn K (.ref f)=true
def FC(K:PySem.W.Frag)(n:Str)(st:Stmt)(c:Addr):Prop:=∃ (f:Addr) (oc:Value) (od an:Option Addr) (sl:Array (Option Value)) (kV dc pm ct:Value),PySem.W.nsIn K mainGlobals n=some (some (.ref f))/\K.lookup f=some ⟨oc,od,.func (PySem.W.fnOf n n (cQ st) (bT st) (am st) .none kV dc pm an (.ref c) ct),sl⟩/\PySem.W.codeIn K (.ref c) n=true/\PySem.W.keepIn K (.ref f)=true
def MD(K:PySem.W.Frag)(C:Addr)(n q:Str)(st:Stmt):Prop:=∃ (f:Addr) (oc:Value) (od an:Option Addr) (sl:Array (Option Value)) (kV dc pm cd ct:Value),PySem.W.findIn K (.ref C) n=some (some (.ref f))/\PySem.W.isFn K (.ref f)=true/\K.lookup f=some ⟨oc,od,.func (PySem.W.fnOf n q (cQ st) (bT st) (am st) .none kV dc pm an cd ct),sl⟩/\PySem.W.codeIn K cd q=true/\PySem.W.keepIn K (.ref f)=true
def MC(K:PySem.W.Frag)(C:Addr)(n q:Str)(st:Stmt)(c:Addr):Prop:=∃ (f:Addr) (oc:Value) (od an:Option Addr) (sl:Array (Option Value)) (kV dc pm ct:Value),PySem.W.findIn K (.ref C) n=some (some (.ref f))/\PySem.W.isFn K (.ref f)=true/\K.lookup f=some ⟨oc,od,.func (PySem.W.fnOf n q (cQ st) (bT st) (am st) .none kV dc pm an (.ref c) ct),sl⟩/\PySem.W.codeIn K (.ref c) q=true/\PySem.W.keepIn K (.ref f)=true
section
variable {P:Program} {w:World} {K:PySem.W.Frag} {mg:Str->Option Value} {base h:Heap} {n q:Str} {st:Stmt} {f c C:Addr} {oc kV dc pm cd ct:Value} {od an:Option Addr} {sl:Array (Option Value)} {CX:vP} {k:Nat} {ps:List Str} {sp:Sp}
theorem FD.mk(a:PySem.W.nsIn K mainGlobals n=some (some (.ref f)))(l:K.lookup f=some ⟨oc,od,.func (PySem.W.fnOf n n (cQ st) (bT st) (am st) .none kV dc pm an cd ct),sl⟩)(d:PySem.W.codeIn K cd n=true)(k:PySem.W.keepIn K (.ref f)=true):FD K n st:=⟨f,oc,od,an,sl,kV,dc,pm,cd,ct,a,l,d,k⟩
theorem FC.mk(a:PySem.W.nsIn K mainGlobals n=some (some (.ref f)))(l:K.lookup f=some ⟨oc,od,.func (PySem.W.fnOf n n (cQ st) (bT st) (am st) .none kV dc pm an (.ref c) ct),sl⟩)(d:PySem.W.codeIn K (.ref c) n=true)(k:PySem.W.keepIn K (.ref f)=true):FC K n st c:=⟨f,oc,od,an,sl,kV,dc,pm,ct,a,l,d,k⟩
theorem MD.mk(a:PySem.W.findIn K (.ref C) n=some (some (.ref f)))(i:PySem.W.isFn K (.ref f)=true)(l:K.lookup f=some ⟨oc,od,.func (PySem.W.fnOf n q (cQ st) (bT st) (am st) .none kV dc pm an cd ct),sl⟩)(d:PySem.W.codeIn K cd q=true)(k:PySem.W.keepIn K (.ref f)=true):MD K C n q st:=⟨f,oc,od,an,sl,kV,dc,pm,cd,ct,a,i,l,d,k⟩
theorem MC.mk(a:PySem.W.findIn K (.ref C) n=some (some (.ref f)))(i:PySem.W.isFn K (.ref f)=true)(l:K.lookup f=some ⟨oc,od,.func (PySem.W.fnOf n q (cQ st) (bT st) (am st) .none kV dc pm an (.ref c) ct),sl⟩)(d:PySem.W.codeIn K (.ref c) q=true)(k:PySem.W.keepIn K (.ref f)=true):MC K C n q st c:=⟨f,oc,od,an,sl,kV,dc,pm,ct,a,i,l,d,k⟩
def BD(n q:Str)(st:Stmt)(ps:List Str):Prop:=∀ (kV ml pm:Value) (an:Option Addr) (dM ct:Value) (us:List Value),us.length=ps.length->bindArgs (PySem.W.fnOf n q (cQ st) (bT st) (am st) .none kV ml pm an dM ct) ⟨us,[]⟩=pure (ps.zip us)
theorem FD.gT(X:K.In h)(G:h.Ns mainGlobals mg)(D:FD K n st)(b:BD n n st ps)(o:∀ {f fd},fR K n n st f fd->bv P w K mg base CX k f fd ps sp):b_ P w K mg base CX k n ps sp:=by
 obtain⟨f,_,_,_,_,_,_,_,_,_,a,l,d,kp⟩:=D;have F:=uG (x:=n) (qual:=n) (st:=st) l d kp;exact⟨⟨f,_,lv X G a,kp,F.binds b,o F⟩⟩
theorem FC.gT(X:K.In h)(G:h.Ns mainGlobals mg)(D:FC K n st c)(b:BD n n st ps)(o:∀ {f fd},wr K n n st f fd c->bv P w K mg base CX k f fd ps sp):b_ P w K mg base CX k n ps sp:=by
 obtain⟨f,_,_,_,_,_,_,_,_,a,l,d,kp⟩:=D;have F:=Gz (x:=n) (qual:=n) (st:=st) l d kp;exact⟨⟨f,_,lv X G a,kp,F.fun.binds b,o F⟩⟩
theorem MD.gT(D:MD K C n q st)(b:BD n q st ps)(o:∀ {f fd},fR K n q st f fd->bv P w K mg base CX k f fd ps sp):mH P w K mg base CX k C n ps sp:=by
 obtain⟨f,_,_,_,_,_,_,_,_,_,a,i,l,d,kp⟩:=D;have F:=uG (x:=n) (qual:=q) (st:=st) l d kp;exact⟨⟨f,_,⟨a,i,kp⟩,F.binds b,o F⟩⟩
end
theorem q9{α:Type}{P:List α->Prop}(h:∀a0,P [a0])(l:List α)(e:l.length=1):P l:=by
 cases l with
 |nil=>cases e
 |cons a t=>cases t with
  |nil=>exact h a
  |cons b t=>cases e
theorem h9{α:Type}{P:List α->Prop}(h:∀a0 a1,P [a0,a1])(l:List α)(e:l.length=2):P l:=by
 cases l with
 |nil=>cases e
 |cons a t=>exact q9 (P:=fun t=>P (a::t)) (h a) t (lx e)
theorem j5{α:Type}{P:List α->Prop}(h:∀a0 a1 a2,P [a0,a1,a2])(l:List α)(e:l.length=3):P l:=by
 cases l with
 |nil=>cases e
 |cons a t=>exact h9 (P:=fun t=>P (a::t)) (h a) t (lx e)
theorem q_{α:Type}{P:List α->Prop}(h:∀a0 a1 a2 a3,P [a0,a1,a2,a3])(l:List α)(e:l.length=4):P l:=by
 cases l with
 |nil=>cases e
 |cons a t=>exact j5 (P:=fun t=>P (a::t)) (h a) t (lx e)
theorem xk{α:Type}{P:List α->Prop}(h:∀a0 a1 a2 a3 a4,P [a0,a1,a2,a3,a4])(l:List α)(e:l.length=5):P l:=by
 cases l with
 |nil=>cases e
 |cons a t=>exact q_ (P:=fun t=>P (a::t)) (h a) t (lx e)
theorem AZ{α:Type}{P:List α->Prop}(h:∀a0 a1 a2 a3 a4 a5,P [a0,a1,a2,a3,a4,a5])(l:List α)(e:l.length=6):P l:=by
 cases l with
 |nil=>cases e
 |cons a t=>exact xk (P:=fun t=>P (a::t)) (h a) t (lx e)
theorem A0{α:Type}{P:List α->Prop}(h:∀a0 a1 a2 a3 a4 a5 a6,P [a0,a1,a2,a3,a4,a5,a6])(l:List α)(e:l.length=7):P l:=by
 cases l with
 |nil=>cases e
 |cons a t=>exact AZ (P:=fun t=>P (a::t)) (h a) t (lx e)
theorem QK{α:Type}{P:List α->Prop}(h:∀a0 a1 a2 a3 a4 a5 a6 a7,P [a0,a1,a2,a3,a4,a5,a6,a7])(l:List α)(e:l.length=8):P l:=by
 cases l with
 |nil=>cases e
 |cons a t=>exact A0 (P:=fun t=>P (a::t)) (h a) t (lx e)
theorem MP{l:PySem.W.OpenLaw}{w:World}{K:PySem.W.Frag}{h:Heap}{mg:Str->Option Value}{fa:Addr}(X:K.In h)(G:h.Ns mainGlobals mg)(hfa:mg "law"=some (.ref fa)){C cO Pt cB Pb:Addr}{oR rO oT:Tok}(aC:PySem.W.nsIn K mainGlobals "Net"=some (some (.ref C)))(A1:FD K "is_whole" dE.nQ)(xm:FD K "is_whole_within" dE.kh)(Iy:FD K "is_house" dE.y9)(QL:FD K "is_row" dE.Lj)(QM:FD K "are_unlike_houses" dE.Ln)(QN:FD K "is_tie" dE.Ll)(Iz:FD K "check_ties" dE.ze)(QO:FD K "check_balance" dE.Lm)(MQ:FC K "houses_out" dE.wN cO)(MR:FD K "distances_from" dE.Eb)(IA:FD K "check_reached" dE.zf)(Fp:FD K "is_handed_on" vg)(MS:FD K "is_sent_from" EJ)(IC:FD K "is_chain" vh)(QP:FD K "is_straight" L4)(QQ:FD K "taker" Mx)(QR:FD K "is_led" We)(WG:FD K "good_tie_taker" Wf)(WH:FD K "chain_along" Wg)(WI:FC K "blame" S5 cB)(QS:FD K "_law_pot" LF)(MT:FD K "_law_take" Ei)(MU:FD K "_law_shuffled" Ej)(WJ:FD K "_law_ring" VJ)(WK:FD K "_law_going_round" Ss)(ID:FD K "_law_ties" vj)(MV:FD K "_law_far" wM)(IE:FD K "_law_fars" ES)(QT:FD K "_law_letters" Hv)(QU:FD K "_law_behind" LP)(QV:FD K "_law_is_led" Mc)(WL:FD K "_law_goods" VF)(WM:FD K "_law_nearest" VO)(WN:FD K "_law_taker" VG)(WO:FD K "_law_blame" V_)(WP:FD K "_law_cut" VZ)(WQ:FD K "_law_is_list" V0)(QW:FD K "_law_log" Mp)(WR:FD K "_law_told_right" Wm)(WS:FD K "_law_letter_right" Wr)(QX:FD K "law" zH)(MW:MD K C "__init__" "Net.__init__" dE.Ay)(IF:MD K C "check_house" "Net.check_house" dE.zc)(QY:MD K C "far" "Net.far" dE.wM)(MX:MD K C "good" "Net.good" dE.DZ)(pg:PySem.W.plainGet K C Str.empty=true)(WT:PySem.W.hasDictIn K C=true)(po:PySem.W.plainOver K C=true)(sa:PySem.W.findIn K (.ref C) "__setattr__"=some (some (.builtin "object.__setattr__")))(mk:PySem.W.makesIn K C=true)(kc:PySem.W.keepIn K (.ref C)=true)(nH:PySem.W.findIn K (.ref C) "house_count"=some none)(nT:PySem.W.findIn K (.ref C) "tie_list"=some none)(nO:PySem.W.findIn K (.ref C) "out_lists"=some none)(nD:PySem.W.findIn K (.ref C) "distances"=some none)(mR:PySem.W.nsIn K mainGlobals "isinstance"=some none)(JX:PySem.W.nsIn K mainGlobals "int"=some none)(Fq:PySem.W.nsIn K mainGlobals "bool"=some none)(Fs:PySem.W.nsIn K mainGlobals "list"=some none)(A2:PySem.W.nsIn K mainGlobals "tuple"=some none)(MY:PySem.W.nsIn K mainGlobals "dict"=some none)(JY:PySem.W.nsIn K mainGlobals "len"=some none)(A3:PySem.W.nsIn K mainGlobals "range"=some none)(xo:PySem.W.nsIn K mainGlobals "enumerate"=some none)(JZ:PySem.W.nsIn K mainGlobals "all"=some none)(QZ:PySem.W.nsIn K mainGlobals "abs"=some none)(J1:PySem.W.nsIn K mainGlobals "max"=some none)(J2:PySem.W.nsIn K mainGlobals "min"=some none)(MZ:PySem.W.nsIn K mainGlobals "repr"=some none)(Q0:PySem.W.nsIn K mainGlobals "str"=some none)(Q3:PySem.W.nsIn K mainGlobals "set"=some none)(Ft:PySem.W.nsIn K mainGlobals "sorted"=some none)(Q4:PySem.W.nsIn K mainGlobals "any"=some none)(vw:PySem.W.nsIn K mainGlobals "ValueError"=some none)(oU:PySem.W.nsIn K mainGlobals "FEWEST_HOUSES"=some (some (.int 2 oR)))(rP:PySem.W.nsIn K mainGlobals "MOST_HOUSES"=some (some (.int 32 rO)))(oV:PySem.W.nsIn K mainGlobals "MOST_TIES_OUT"=some (some (.int 8 oT)))(NS:Pt≠Pb)(M0:PySem.W.codeHdIn K cO Pt=true)(WU:PySem.W.codeHdIn K cB Pb=true):
  ∃fd:FuncData,(∀ (s:Shared) (v:Value),BindsTo s fd ⟨[v],[]⟩ [("_law_script",v)])/\∀base:Heap,K.In base->base.Ns mainGlobals mg->rG mg base->bv l.prog w K mg base a9 13 fa fd ["_law_script"] (AY K Pt Pb):=by
 obtain⟨Zj,oc,od,an,sl,kV,dc,pm,cd,ct,Q5,Q6,Q7,Q8⟩:=QX;have e:=hfa.symm.trans (lv X G Q5);cases e;have Q9:=uG (x:="law") (qual:="law") (st:=zH) Q6 Q7 Q8;obtain⟨Zk,oci,odi,ani,YU,kVi,dci,pmi,cdi,cti,a_i,i_i,l_i,d_i,k_i⟩:=MW;have xp:=uG (x:="__init__") (qual:="Net.__init__") (st:=dE.Ay) l_i d_i k_i;have Fu:=xp.binds (ps:=["self","many","ties"]) fun _ _ _ _ _ _=>j5 fun _ _ _=>rfl;have MK:Mk K C Zk:=⟨mk,a_i,i_i,kc⟩
 have B:Bl mg:=⟨cL X G mR,cL X G JX,cL X G Fq,cL X G Fs,cL X G A2,cL X G MY,cL X G JY,cL X G A3,cL X G xo,cL X G JZ,cL X G QZ,cL X G J1,cL X G J2,cL X G MZ⟩
 have T:NT K mg C:=⟨⟨pg,WT,po,sa⟩,nH,nT,nO,nD,lv X G aC⟩
 have FU:dE.Bl mg:=⟨cL X G mR,cL X G JX,cL X G Fq,cL X G A2,cL X G Fs,cL X G Q0,cL X G Q3,cL X G JY,cL X G A3,cL X G Ft,cL X G Q4,cL X G J1,cL X G J2,cL X G vw,cL X G JZ⟩
 refine⟨PySem.W.fnOf "law" "law" (cQ zH) (bT zH) (am zH) .none kV dc pm an cd ct,fun s v=>.of_eq rfl,fun base kb nb hb=>?_⟩;have IG:b_ l.prog w K mg base a9 1 "is_whole" ["thing"] (dE.i7 K):=FD.gT X G A1 (fun _ _ _ _ _ _=>q9 fun _=>rfl) fun vx=>dE.qM vx FU;have xq:b_ l.prog w K mg base a9 2 "is_whole_within" ["thing","least","most"] (dE.fV K):=FD.gT X G xm (fun _ _ _ _ _ _=>j5 fun _ _ _=>rfl) fun rc=>dE.nR rc IG;have A4:b_ l.prog w K mg base a9 3 "is_house" ["many","thing"] (dE.pc K):=FD.gT X G Iy (fun _ _ _ _ _ _=>h9 fun _ _=>rfl) fun IH=>dE.DV IH xq;have Q_:b_ l.prog w K mg base a9 1 "is_row" ["thing","length"] (dE.DW K):=FD.gT X G QL (fun _ _ _ _ _ _=>h9 fun _ _=>rfl) fun Ra=>dE.Lk Ra FU;have Rb:b_ l.prog w K mg base a9 4 "are_unlike_houses" ["many","one","other"] dE.D4:=FD.gT X G QM (fun _ _ _ _ _ _=>j5 fun _ _ _=>rfl) fun Re=>dE.Lo Re A4;have Rf:b_ l.prog w K mg base a9 5 "is_tie" ["many","thing"] dE.D5:=FD.gT X G QN (fun _ _ _ _ _ _=>h9 fun _ _=>rfl) fun Rh=>dE.Lq Rh Q_ Rb;have II:b_ l.prog w K mg base a9 6 "check_ties" ["many","ties"] dE.km:=FD.gT X G Iz (fun _ _ _ _ _ _=>h9 fun _ _=>rfl) fun IJ=>dE.D9 IJ FU ⟨_,lv X G oU⟩ ⟨_,lv X G rP⟩ xq Rf;have Ri:b_ l.prog w K mg base a9 1 "check_balance" ["many","ties"] dE.km:=FD.gT X G QO (fun _ _ _ _ _ _=>h9 fun _ _=>rfl) fun Rj=>dE.Lr Rj FU ⟨_,lv X G oV⟩;have M3:b_ l.prog w K mg base a9 1 "houses_out" ["many","ties","house"] (dE.u8 Pt):=FC.gT X G MQ (fun _ _ _ _ _ _=>j5 fun _ _ _=>rfl) fun M4=>dE.Hj M4 FU kb hb M0;have M5:b_ l.prog w K mg base a9 1 "distances_from" ["out_lists","start"] dE.u9:=FD.gT X G MR (fun _ _ _ _ _ _=>h9 fun _ _=>rfl) fun M6=>dE.Hk M6 FU;have IK:b_ l.prog w K mg base a9 1 "check_reached" ["distances"] dE.u_:=FD.gT X G IA (fun _ _ _ _ _ _=>q9 fun _=>rfl) fun IM=>dE.Eg IM FU;have M7:bv l.prog w K mg base a9 7 Zk _ ["self","many","ties"] (dE.va C Pt):=dE.Hn xp T FU II Ri M3 M5 IK;have IP:mH l.prog w K mg base a9 4 C "check_house" ["self","thing"] (dE.qO C):=MD.gT IF (fun _ _ _ _ _ _=>h9 fun _ _=>rfl) fun Ck=>dE.B2 Ck T A4;have Fv:mH l.prog w K mg base a9 5 C "far" ["self","one","other"] (dE.nV C):=MD.gT QY (fun _ _ _ _ _ _=>j5 fun _ _ _=>rfl) fun IQ=>dE.He IQ T IP;have M8:mH l.prog w K mg base a9 6 C "good" ["self","house","home"] (dE.pq C):=MD.gT MX (fun _ _ _ _ _ _=>j5 fun _ _ _=>rfl) fun Fw=>dE.Fd Fw T Fv;have Fx:b_ l.prog w K mg base a9 1 "is_whole" ["thing"] i7:=FD.gT X G A1 (fun _ _ _ _ _ _=>q9 fun _=>rfl) fun vx=>qM vx B;have Cm:b_ l.prog w K mg base a9 2 "is_whole_within" ["thing","least","most"] fV:=FD.gT X G xm (fun _ _ _ _ _ _=>j5 fun _ _ _=>rfl) fun rc=>nR rc Fx;have re:b_ l.prog w K mg base a9 3 "is_handed_on" ["stands","log","letter","beat"] jV:=FD.gT X G Fp (fun _ _ _ _ _ _=>q_ fun _ _ _ _=>rfl) fun Fy=>B9 Fy B Cm;have M9:b_ l.prog w K mg base a9 4 "is_sent_from" ["stands","log","letter","beat","house"] zq:=FD.gT X G MS (fun _ _ _ _ _ _=>xk fun _ _ _ _ _=>rfl) fun M_=>HE M_ re;have A5:b_ l.prog w K mg base a9 5 "is_chain" ["homes","stands","log","letter","beat","thing"] pi:=FD.gT X G IC (fun _ _ _ _ _ _=>AZ fun _ _ _ _ _ _=>rfl) fun IR=>EM IR B re M9;have Rk:b_ l.prog w K mg base a9 6 "is_straight" ["net","homes","stands","log","letter","beat","chain"] (EY C):=FD.gT X G QP (fun _ _ _ _ _ _=>A0 fun _ _ _ _ _ _ _=>rfl) fun Rl=>L7 Rl B T A5 Fv;have Rm:b_ l.prog w K mg base a9 1 "taker" ["stand","handing","house","goes"] Fg:=FD.gT X G QQ (fun _ _ _ _ _ _=>q_ fun _ _ _ _=>rfl) fun Ro=>Mz Ro B;have Rp:b_ l.prog w K mg base a9 6 "is_led" ["net","homes","stand","handing","letter"] (Fh C):=FD.gT X G QR (fun _ _ _ _ _ _=>xk fun _ _ _ _ _=>rfl) fun Rq=>MB Rq T Fv;have WV:b_ l.prog w K mg base a9 7 "good_tie_taker" ["net","homes","stand","handing","letter"] (Im C):=FD.gT X G WG (fun _ _ _ _ _ _=>xk fun _ _ _ _ _=>rfl) fun WW=>Qv WW T Rp Rm M8;have WX:b_ l.prog w K mg base a9 9 "chain_along" ["homes","stands","log","letter","beat","instead_of"] (MH C):=FD.gT X G WH (fun _ _ _ _ _ _=>AZ fun _ _ _ _ _ _=>rfl) fun WY=>Qy WY B re WV;have Rt:b_ l.prog w K mg base a9 10 "blame" ["net","homes","stands","log","letter","beat"] (Iq C Pb):=FC.gT X G WI (fun _ _ _ _ _ _=>AZ fun _ _ _ _ _ _=>rfl) fun WZ=>Qz WZ kb hb WU WX;have Ru:b_ l.prog w K mg base a9 1 "_law_pot" ["_law_script","_law_k"] (Ek K):=FD.gT X G QS (fun _ _ _ _ _ _=>h9 fun _ _=>rfl) fun Rv=>LH Rv B;have rf:b_ l.prog w K mg base a9 1 "_law_take" ["_law_pot_here","_law_many"] lV:=FD.gT X G MT (fun _ _ _ _ _ _=>h9 fun _ _=>rfl) fun Na=>Hq Na;have Nb:b_ l.prog w K mg base a9 2 "_law_shuffled" ["_law_pot_here","_law_some"] (zj K):=FD.gT X G MU (fun _ _ _ _ _ _=>h9 fun _ _=>rfl) fun Nc=>Hr Nc B rf;have W0:b_ l.prog w K mg base a9 3 "_law_ring" ["_law_pot_here","_law_many"] Mf:=FD.gT X G WJ (fun _ _ _ _ _ _=>h9 fun _ _=>rfl) fun W1=>P_ W1 B rf Nb;have W2:b_ l.prog w K mg base a9 1 "_law_going_round" ["_law_outs"] LJ:=FD.gT X G WK (fun _ _ _ _ _ _=>q9 fun _=>rfl) fun W3=>PJ W3 B;have IT:b_ l.prog w K mg base a9 1 "_law_ties" ["_law_outs"] vm:=FD.gT X G ID (fun _ _ _ _ _ _=>q9 fun _=>rfl) fun IU=>EW IU;have Nd:b_ l.prog w K mg base a9 1 "_law_far" ["_law_outs","_law_home"] AJ:=FD.gT X G MV (fun _ _ _ _ _ _=>h9 fun _ _=>rfl) fun Nf=>LZ Nf B;have IW:b_ l.prog w K mg base a9 2 "_law_fars" ["_law_outs"] zx:=FD.gT X G IE (fun _ _ _ _ _ _=>q9 fun _=>rfl) fun IX=>HQ IX B Nd;have Rx:b_ l.prog w K mg base a9 2 "_law_letters" ["_law_pot_here","_law_outs","_law_most"] Ew:=FD.gT X G QT (fun _ _ _ _ _ _=>j5 fun _ _ _=>rfl) fun Ry=>LL Ry B rf;have Rz:b_ l.prog w K mg base a9 1 "_law_behind" ["_law_homes","_law_stand","_law_gone"] EC:=FD.gT X G QU (fun _ _ _ _ _ _=>j5 fun _ _ _=>rfl) fun RA=>LQ RA B;have RB:b_ l.prog w K mg base a9 1 "_law_is_led" ["_law_fars_here","_law_homes","_law_stand","_law_gone","_law_i"] E2:=FD.gT X G QV (fun _ _ _ _ _ _=>xk fun _ _ _ _ _=>rfl) fun RD=>Md RD;have RE:b_ l.prog w K mg base a9 1 "_law_goods" ["_law_outs","_law_fars_here","_law_home","_law_house"] HW:=FD.gT X G WL (fun _ _ _ _ _ _=>q_ fun _ _ _ _=>rfl) fun W4=>P8 W4;have W5:b_ l.prog w K mg base a9 2 "_law_nearest" ["_law_outs","_law_fars_here","_law_homes","_law_stand"] Mh:=FD.gT X G WM (fun _ _ _ _ _ _=>q_ fun _ _ _ _=>rfl) fun W6=>Qc W6 B FU.sorted RE;have W7:b_ l.prog w K mg base a9 1 "_law_taker" ["_law_stand","_law_gone","_law_i","_law_house"] Me:=FD.gT X G WN (fun _ _ _ _ _ _=>q_ fun _ _ _ _=>rfl) fun W8=>P9 W8 B;have RF:b_ l.prog w K mg base a9 2 "_law_blame" ["_law_outs","_law_fars_here","_law_homes","_law_stands","_law_log_here","_law_i","_law_beat"] Ih:=FD.gT X G WO (fun _ _ _ _ _ _=>A0 fun _ _ _ _ _ _ _=>rfl) fun W9=>Qp W9 B RB W7 RE;have W_:b_ l.prog w K mg base a9 2 "_law_cut" ["_law_pot_here","_law_stands","_law_log_here"] Mr:=FD.gT X G WP (fun _ _ _ _ _ _=>j5 fun _ _ _=>rfl) fun Xa=>Qk Xa B rf;have Xb:b_ l.prog w K mg base a9 1 "_law_is_list" ["_law_found","_law_due"] Ms:=FD.gT X G WQ (fun _ _ _ _ _ _=>h9 fun _ _=>rfl) fun Xd=>Ql Xd B;have RH:b_ l.prog w K mg base a9 3 "_law_log" ["_law_outs","_law_fars_here","_law_homes","_law_stand"] zD:=FD.gT X G QW (fun _ _ _ _ _ _=>q_ fun _ _ _ _=>rfl) fun RI=>Mt RI B W5 Rz;have Xe:b_ l.prog w K mg base a9 11 "_law_told_right" ["_law_net","_law_outs","_law_fars_here","_law_homes","_law_stands","_law_log_here","_law_i","_law_beat"] (ML C Pb):=FD.gT X G WR (fun _ _ _ _ _ _=>QK fun _ _ _ _ _ _ _ _=>rfl) fun Xf=>QA Xf B RF Rt Xb A5 Rk;have Xg:b_ l.prog w K mg base a9 12 "_law_letter_right" ["_law_net","_law_outs","_law_fars_here","_law_homes","_law_stands","_law_log_here","_law_i"] (MM C Pb):=FD.gT X G WS (fun _ _ _ _ _ _=>A0 fun _ _ _ _ _ _ _=>rfl) fun Xh=>QH Xh B FU.set Xe RF Rt;exact MN Q9 NS B T Ru rf W0 W2 IW Rx RH W_ IT MK Fu M7 Xg
theorem J9(h:((List.range 2000).any fun c=>PySem.W.codeHdIn K c P)=true):∃c,PySem.W.codeHdIn K c P=true:=
 let ⟨c,_,e⟩:=List.any_eq_true.mp h;⟨c,e⟩
theorem Ng(hO:Af ts H)(h:aT K H a xs):JW K H a xs:=by
 rcases h with h|h
 .rcases h with h|⟨o,h⟩
  .rcases hO.2 a with z|⟨_,z⟩|⟨o,ys,z⟩ <;> · rw[h] at z;cases z
  .exact .inl ⟨o,h⟩
 .exact .inr fun H'=>.inr h
theorem walk{l:PySem.W.OpenLaw}{q:Program}{sk:List Str}{XP:(Str->Option Value)->Heap->Prop}{YP:World->Heap->Prop}{d:DefRec}{K:Params->PySem.W.Frag}{Pb Pt:Addr}(hn:l.most=some 63)(Ow:d.params.defaults=[])(hY:∀ (w:World) (h:Heap),YP w h->(K w.params).In h)(hT:∀ (w:World) (h:Heap),YP w h->∀P∈[Pb,Pt],h.get? P=some (PySem.W.tabObj #[]))(Xi:∀ (w:World),((List.range 2000).any fun c=>PySem.W.codeHdIn (K w.params) c Pb)=true)(Xj:∀ (w:World),(K w.params).lookup Pb=none)(Xk:∀ (w:World),((List.range 2000).any fun c=>PySem.W.codeHdIn (K w.params) c Pt)=true)(Xl:∀ (w:World),(K w.params).lookup Pt=none)(F:∀ (w:World) (mg:Str->Option Value) (fa:Addr) (h:Heap),(K w.params).In h->h.Ns mainGlobals mg->mg d.name=some (.ref fa)->
   ∃fd:FuncData,(∀ (s:Shared) (u:Value),BindsTo s fd ⟨[u],[]⟩ [("_law_script",u)])/\∀base:Heap,(K w.params).In base->base.Ns mainGlobals mg->rG mg base->bv l.prog w (K w.params) mg base a9 13 fa fd ["_law_script"] (AY (K w.params) Pt Pb)):
  PySem.W.WalkO q sk XP YP l.row.toRowW d [] (fun f vs=>PySem.call f vs):=
 DA (n:=63) (k:=13) (x:="_law_script") (ts:=[Pb,Pt]) (K:=K) (CX:=fun _=>a9) (sp:=fun w=>(AY (K w.params) Pt Pb)) hn (by decide) Ow ⟨rfl,by decide,by decide,rfl⟩ hY hT
  (fun w P=>fun e=>(bL.mp e).elim (fun e=>by rw[e];exact J9 (Xi w)) (fun e=>by rw[bS.mp e];exact J9 (Xk w))) (fun w P=>fun e=>(bL.mp e).elim (fun e=>by rw[e];exact Xj w) (fun e=>by rw[bS.mp e];exact Xl w)) F
  (fun w H a ns hl hO hS=>⟨a,ns,rfl,Ng hO hS,hl,.inl (hO.1 _ (by simp)),.inl (hO.1 _ (by simp)),fun _=>rfl⟩) fun _ _ _ _ _ z=>z
end vC
open PySem PySem.W PyProof.Rows
namespace PySem.W.Fast
def tw15758709408992183152:=trivial
def tw535703454835635389:=trivial
def tw15576019780977293971:=trivial
def tw172156725164432300:=trivial
def tw11383821761694291363:=trivial
def tw16618379541093191241:=trivial
def tw14320114803784562191:=trivial
def tw2602467406966940406:=trivial
def tw1674081954252247292:=trivial
def tw5029131664516380712:=trivial
def tw3550658762580921752:=trivial
def tw6192169603889552705:=trivial
def tw12932271497759831158:=trivial
def tw16865409207511522843:=trivial
def tw2320403486555532638:=trivial
def tw15357791511425161789:=trivial
def tw5902503868015845500:=trivial
def tw5834952467461294839:=trivial
def tw11448933017010340198:=trivial
def tw12023792369374919721:=trivial
def tw10507863469270697994:=trivial
def tw338730258747743420:=trivial
def tw85578412703057086:=trivial
def tw14018536330669172898:=trivial
def tw5198951451564840657:=trivial
def tw1788428399317176038:=trivial
def tw3739984926414272841:=trivial
def tw7105903287310737159:=trivial
def tw9576929207447675386:=trivial
def tw14711620981832207731:=trivial
def tw14661678824852282544:=trivial
def tw6817082195776242393:=trivial
def tw15167188100214619715:=trivial
def tw1714547390091454237:=trivial
def tw4813044988186156741:=trivial
def tw3274553117000465527:=trivial
def tw17616666528399603778:=trivial
def tw17739788759469456383:=trivial
def tw2586284222716219874:=trivial
def tw1608940677284570516:=trivial
def tw5006283893264713572:=trivial
def tw257791448525074939:=trivial
def tw8282152897199627242:=trivial
def tw16427543839991564812:=trivial
def tw5014082186201155986:=trivial
def tw15630128893370393851:=trivial
def tw16877716556712156468:=trivial
def tw5124341874780340140:=trivial
def tw13508440921348867231:=trivial
def tw12041948925625604989:=trivial
def tw3988631872146431108:=trivial
def tw12439058069870819388:=trivial
def tw15176869033085107220:=trivial
def tw11210166834711479847:=trivial
def tw10640985383694919669:=trivial
def tw15815967662936147737:=trivial
def tw16810315216139536655:=trivial
def tw9343198338115402233:=trivial
def tw8239150119167118045:=trivial
def tw781502571896019345:=trivial
def tw10562943222884768755:=trivial
def tw13487991032089778116:=trivial
def tw8475040526427642955:=trivial
def tw10513646981381648586:=trivial
def tw12687710870631897016:=trivial
def tw2394451786875456896:=trivial
def tw2601767567601938690:=trivial
def tw4727150087637017107:=trivial
def tw6371650647418943747:=trivial
def tw17048826683253030436:=trivial
def tw3997369143482168369:=trivial
def tw6389066337241368370:=trivial
def tw8473548815326768690:=trivial
def tw15519726123385504204:=trivial
def tw15305707422530236276:=trivial
def tw3412994708862034488:=trivial
def tw35966509001566725:=trivial
def tw8010081285282447895:=trivial
def tw1964934464876213793:=trivial
def tw16455358766902264639:=trivial
def tw10797891236714593049:=trivial
def tw18279629327284307065:=trivial
def tw9998032194529511445:=trivial
def tw8399029983667591414:=trivial
def tw13421699340025157516:=trivial
def tw14506283205746098673:=trivial
def tw11213690904271044864:=trivial
def tw13881735337619009633:=trivial
def tw630974787764146689:=trivial
def tw267366299618207571:=trivial
def tw15503269446906209258:=trivial
def tw4620633002902893912:=trivial
def tw6625322084404535707:=trivial
def tw1585539040912891697:=trivial
def tw6198170672385382218:=trivial
def tw16651065174571675893:=trivial
def tw5670258431642707062:=trivial
def tw3061441506741907275:=trivial
def tw17316915467785924709:=trivial
def tw10740250872992654353:=trivial
def tw8380260346659666476:=trivial
def tw13333131658860060032:=trivial
def tw11228025557262135312:=trivial
def tw3733978881200090739:=trivial
def tw17579503614267071028:=trivial
def tw10407832913423536112:=trivial
def tw7738112173843367706:=trivial
def tw27134460763544163:=trivial
def tw6555302313709138403:=trivial
def tw5583589646736488764:=trivial
def tw8965462189920363677:=trivial
def tw9495616872432740239:=trivial
def tw11308916460563301602:=trivial
def tw7333836319134516640:=trivial
def tw6677414380131102251:=trivial
def tw11453688141842906638:=trivial
def tw1111536022296982600:=trivial
def tw3694390442000525786:=trivial
def tw17944175752687988365:=trivial
def tw8550257736488458560:=trivial
def tw12642660652563047133:=trivial
def tw6423592060212388263:=trivial
def tw6018177195570160624:=trivial
def tw10563269718785328133:=trivial
def tw13135108027762396586:=trivial
def tw13393442094846979494:=trivial
def tw8818147031453931128:=trivial
def tw12526339428107142583:=trivial
def tw2508549452176435435:=trivial
def tw15035242298196206294:=trivial
def tw6986176174122383493:=trivial
def tw215058606703536811:=trivial
def tw3559234205401742370:=trivial
def tw1991976072718138679:=trivial
def tw6966699036737595900:=trivial
def tw5985456907082529249:=trivial
def tw11693565991505736249:=trivial
def tw16522024815025532632:=trivial
def tw5084306729028544202:=trivial
def tw707497567305591497:=trivial
def tw8166558550699430506:=trivial
def tw5410488340645565056:=trivial
def tw12095965785253064749:=trivial
def tw13907819907007715171:=trivial
def tw17349553008581914742:=trivial
def tw8769433073333126803:=trivial
def tw12921667123374075509:=trivial
def tw14471054942207105147:=trivial
def tw13609228948303879767:=trivial
def tw8091676915623887329:=trivial
def tw9351331409940950552:=trivial
def tw3620329756344574992:=trivial
def tw9518989749207754175:=trivial
def tw3372254029536192020:=trivial
def tw16398042362714195744:=trivial
def tw6773738409075468526:=trivial
def tw4063264285678010934:=trivial
def tw5036612823709883653:=trivial
def tw9247571734567576945:=trivial
def tw5658803442334835811:=trivial
def tw17816792786390791466:=trivial
def tw2995424598314614843:=trivial
def tw12347457322648608866:=trivial
def tw7511455704202708605:=trivial
def tw14043910254595713889:=trivial
def tw9370239271506967517:=trivial
def tw15929656170232944552:=trivial
def tw17268162612542519310:=trivial
def tw2795363305287908578:=trivial
def tw17646759454965544733:=trivial
def tw2125041082181206204:=trivial
def tw12745055796545676459:=trivial
def tw4823416822273692003:=trivial
def tw12649306128169929663:=trivial
def tw853908513679468655:=trivial
def tw2179771261530033664:=trivial
def tw18288258149091586250:=trivial
def tw12411543002201719737:=trivial
def tw10701557203723091314:=trivial
def tw1900321727279966857:=trivial
def tw4655774641877281046:=trivial
def tw8629140612327230421:=trivial
def tw2861641324606851827:=trivial
def tw9533497904276112117:=trivial
def tw14158280613682225443:=trivial
def tw10503722463778898400:=trivial
def tw9856954669124076906:=trivial
def tw7241928102357228217:=trivial
def tw3812635334483745162:=trivial
def tw4170835606767103974:=trivial
def tw17541787183956039304:=trivial
def tw13514132882692088885:=trivial
def tw14974354160905071830:=trivial
def tw2441559243971325850:=trivial
def tw10714595366535256694:=trivial
def tw8166772676726337033:=trivial
def tw12786908587753171423:=trivial
def tw3060150574220980199:=trivial
def tw17582202412214590124:=trivial
def tw10922427731668255554:=trivial
def tw9400536899075994869:=trivial
def tw1435988917730538252:=trivial
def tw13011614257712316364:=trivial
def tw11459055950879509155:=trivial
def tw2953529222764292663:=trivial
def tw6753958527366215085:=trivial
def tw4851324888100437865:=trivial
def tw17712259047478978928:=trivial
def tw11826634679161751238:=trivial
def tw2485189597844078745:=trivial
def tw1866497729908673078:=trivial
def tw587794256730378055:=trivial
def tw8517162028412358911:=trivial
def tw15104306449164911931:=trivial
def tw17304808437833472711:=trivial
def tw15171484055994912712:=trivial
def tw16236524246775594166:=trivial
def tw300015826040338427:=trivial
def tw10769862536685220418:=trivial
def tw17978102598977645811:=trivial
def tw291977853971466351:=trivial
def tw12830640393509029922:=trivial
def tw7763966816690101122:=trivial
def tw14784987353911748642:=trivial
def tw15769875586927030158:=trivial
def tw341480682792540129:=trivial
def tw14055886544497382501:=trivial
def tw16615384290516569554:=trivial
def tw3912485323017958498:=trivial
def tw7306306874382633106:=trivial
def tw15461120120194366944:=trivial
def tw15931035389251702751:=trivial
def tw3308789952903891271:=trivial
def tw13633009759796610824:=trivial
def tw17679362639038490049:=trivial
def tw9434491795638889943:=trivial
def tw1536274565951076776:=trivial
def tw5872585018334844514:=trivial
def tw10273402096151144965:=trivial
def tw12908169683462868151:=trivial
def tw11670873193941975252:=trivial
def tw5781463966368114236:=trivial
def tw5227898470794492607:=trivial
def tw2804206442629427469:=trivial
def tw3507231760401826483:=trivial
def tw16816800621077646167:=trivial
def tw18297988696665829182:=trivial
def tw8819159828628785543:=trivial
def tw3862374502149322986:=trivial
def tw791062023834839904:=trivial
def tw3357605294429445391:=trivial
def tw1046467291465577221:=trivial
def tw8150185139282340884:=trivial
def tw11446311767287611928:=trivial
def tw2856037516925891944:=trivial
def tw15965748307674042483:=trivial
def tw11816014734233919042:=trivial
def tw9789732623919084970:=trivial
def tw1711560335567046526:=trivial
def tw11270927949023679602:=trivial
def tw3857259031925456702:=trivial
def tw13811852349809512674:=trivial
def tw6341411410860230358:=trivial
def tw9956309565054776039:=trivial
def tw10717577339979046437:=trivial
def tw14654693781904375595:=trivial
def tw12324324589072913311:=trivial
def tw4504138030970103397:=trivial
def tw12834347079729975371:=trivial
def tw11184588624703127977:=trivial
def tw677178728553806965:=trivial
def tw14116903554206374142:=trivial
def tw14728024684053660806:=trivial
def tw11211060305451984271:=trivial
def tw15166646883313010500:=trivial
def tw10863103253647188794:=trivial
def tw12531349885997850947:=trivial
def tw15394646625903233808:=trivial
def tw18058575896061914263:=trivial
def tw4001578591845381323:=trivial
def tw8656727597971320751:=trivial
def tw16831454573222337700:=trivial
def tw14443309600596928565:=trivial
def tw16234345736175574013:=trivial
def tw14132565233315541884:=trivial
def tw3003374845500024764:=trivial
def tw63949806469738450:=trivial
def tw17400761440987588342:=trivial
def tw13713815670841235707:=trivial
def tw1517231743296582682:=trivial
def tw4701852799401635713:=trivial
def tw4592784643970508824:=trivial
def tw3193502544218527004:=trivial
def tw13860568839899577788:=trivial
def tw295405497311342286:=trivial
def tw3374666132610690000:=trivial
def tw15310530543242599685:=trivial
def tw12878669639906751187:=trivial
def tw14783255723365687023:=trivial
def tw3500899296613642785:=trivial
def tw8656142965274281675:=trivial
def tw13624833801335337550:=trivial
def tw15294219093867365643:=trivial
def tw5653497580707338231:=trivial
def tw11169460012265500279:=trivial
def tw15316847083319729537:=trivial
def tw7084696078589744508:=trivial
def tw4484496547956079275:=trivial
def tw9866809092409670626:=trivial
def tw18199387667699074883:=trivial
def tw3719611263094734876:=trivial
def tw13914194627829324796:=trivial
def tw2628215629801071770:=trivial
def tw2210341840103836466:=trivial
def tw132565535410712446:=trivial
def tw15348005059034262945:=trivial
def tw16254866540452444256:=trivial
def tw16639796626616089154:=trivial
def tw10318656723536679667:=trivial
def tw2035915925125270250:=trivial
def tw6686548718370344327:=trivial
def tw10145210661605384378:=trivial
def tw16095737020766253384:=trivial
def tw2145549642825525130:=trivial
def tw18339676792431067804:=trivial
def tw12950566399058871042:=trivial
def tw2428448254060182019:=trivial
def tw9903133655579955294:=trivial
def tw5094847993261657255:=trivial
def tw6338292732058235323:=trivial
def tw5036236121467259029:=trivial
def tw2169316957649230751:=trivial
def tw2883057922631621715:=trivial
def tw4990242076863070023:=trivial
def tw14457932481926318004:=trivial
def tw16190372295041396569:=trivial
def tw3407178785398872597:=trivial
def tw12276246510350781915:=trivial
def tw4898946013476647636:=trivial
def tw11232310676465633602:=trivial
def tw14803844753405316748:=trivial
def tw5173085577385368310:=trivial
def tw17381171128843189813:=trivial
def tw1870733590955404652:=trivial
def tw11008931770638117400:=trivial
def tw14326168124309980207:=trivial
def tw5998885526429893521:=trivial
def tw10076439599798995969:=trivial
def tw9073451220851145102:=trivial
def tw5038596369813412559:=trivial
def tw9148240132574508025:=trivial
def tw9982254362308306347:=trivial
def tw10023688231591472485:=trivial
def tw594096412416193451:=trivial
def tw14150348144361318299:=trivial
def tw11238263317890162064:=trivial
def tw8144655677414816642:=trivial
def tw9266373857012388834:=trivial
def tw11252241125182565086:=trivial
def tw5621149651918359917:=trivial
end PySem.W.Fast
set_option maxRecDepth 100000 in
set_option maxHeartbeats 0 in
theorem PySem.Challenge.cw_neverwait_k64_whole_rings_by_nearest_fir_holds : PySem.Challenge.rw_neverwait_k64_whole_rings_by_nearest_fir.Holds := by
 w_on; o_law; k_head; (case hw=>w_witness2)
 k_fill
 refine vC.walk (l:=PySem.Challenge.rw_neverwait_k64_whole_rings_by_nearest_fir) (Pb:=_) (Pt:=_) rfl rfl (fun w h Y=>PySem.W.km_in_of Y) (fun w h Y=>PySem.W.km_tabs_of Y) ?cd0 ?kt0 ?cd1 ?kt1 ?F;case F =>
  intro w mg fa h KX G Ox;refine' vC.MP (Pb:=_) (Pt:=_) KX G Ox ?_ ?_ ?_ ?_ ?_ ?_ ?_ ?_ ?_ ?_ ?_ ?_ ?_ ?_ ?_ ?_ ?_ ?_ ?_ ?_ ?_ ?_ ?_ ?_ ?_ ?_ ?_ ?_ ?_ ?_ ?_ ?_ ?_ ?_ ?_ ?_ ?_ ?_ ?_ ?_ ?_ ?_ ?_ ?_ ?_ ?_ ?_ ?_ ?_ ?_ ?_ ?_ ?_ ?_ ?_ ?_ ?_ ?_ ?_ ?_ ?_ ?_ ?_ ?_ ?_ ?_ ?_ ?_ ?_ ?_ ?_ ?_ ?_ ?_ ?_ ?_ ?_ ?_ ?_ ?_ ?_;all_goals first
   | (refine' vC.FD.mk ?a ?l ?d ?k; (case a=>k_is); (case l=>k_is); (case d=>k_is); (case k=>k_is))
   | (refine' vC.FC.mk ?a ?l ?d ?k; (case a=>k_is); (case l=>k_is); (case d=>k_is); (case k=>k_is))
   | (refine' vC.MD.mk ?a ?i ?l ?d ?k; (case a=>k_is); (case i=>k_is); (case l=>k_is); (case d=>k_is); (case k=>k_is))
   | (refine' vC.MC.mk ?a ?i ?l ?d ?k; (case a=>k_is); (case i=>k_is); (case l=>k_is); (case d=>k_is); (case k=>k_is))
   | k_is
   | kernel_rfl
   | decide
   | exact ⟨by kernel_rfl,by k_is,by k_is,by k_is,by k_is,by k_is,by k_is,by kernel_rfl⟩
   | skip
 case kt0=>intro w; kernel_rfl
 case cd0=>intro w; kernel_rfl
 case kt1=>intro w; kernel_rfl
 case cd1=>intro w; kernel_rfl
