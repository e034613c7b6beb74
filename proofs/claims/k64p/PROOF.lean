import PyProof.Rows.All
import Wide.All
import OpenK.AllK
import Wide.FinOn
import Lean
import PyProof.EqAt
import PyProof.EqKinds
import PyProof.TupleCall
import PySem.Challenge.RW_neverwait_k64_whole_rings_by_nearest_fir
set_option Elab.async false
set_option linter.all false
set_option maxRecDepth 100000
set_option maxHeartbeats 8000000
def aO:=@List.length_map
def bO:=@List.getD_eq_getElem?_getD
def cm:=@List.getElem?_eq_getElem
def aI:=@PySem.wpAny_bind
def cq:=@PySem.Heap.get?_push_of_some
def bS:=@List.mem_singleton
def bV:=@Nat.lt_of_lt_of_le
def ao:=@if_pos
def ap:=@if_neg
def bR:=@Option.some.inj
def aL:=@Nat.le_refl
def bn:=@List.getElem?_map
def cK:=@List.getElem?_eq_some_iff
def av:=@PyProof.Rows.wpS_bind
def aX:=@Nat.ne_of_lt
def bp:=@List.mem_append
def aY:=@PySem.Heap.lt_size
def cC:=@List.mem_cons_of_mem
def b9:=@List.mem_cons_self
def bU:=@of_decide_eq_true
def cj:=@Bool.false_ne_true
def cr:=@List.length_append
def aJ:=@PyProof.Rows.wpS_pure
def bJ:=@decide_eq_true
def cV:=@PySem.Heap.get?_push_size
def cu:=@List.size_toArray
def cL:=@PySem.W.mg_none_of
def bN:=@List.mem_range
def bX:=@List.mem_filter
def cw:=@List.length_cons
def cM:=@Int.toNat_natCast
def bK:=@List.mem_cons
def dP:=@List.mem_of_getElem?
def bB:=@Nat.le_trans
def cD:=@List.map_append
def cE:=@decide_eq_false
def bP:=@List.mem_map
def cG:=@PySem.boot_len
def dQ:=@List.nodup_cons
def cW:=@List.map_cons
def eZ:=@decide_eq_true_iff
def eK:=@Bool.and_eq_true
def e_:=@Nat.lt_succ_of_lt
def c_:=@getElem?_pos
def eM:=@PySem.PassesOwn.never
def i8:=@List.getElem?_append_left
def dR:=@Int.ofNat.inj
def ij:=@PySem.F.plainAttrs_list
def gU:=@List.getElem?_eq_none
def gg:=@Nat.lt_of_le_of_lt
def dG:=@Nat.le_of_lt
def fK:=@List.length_range
def fu:=@List.lookup_cons
def kG:=@PyProof.Rows.boot_isinstance
def df:=@Nat.zero_le
def gW:=@List.mem_append_left
def ik:=@List.mem_append_right
def kH:=@Array.perm_iff_toList_perm
def im:=@Array.length_toList
def kI:=@PySem.F.type_list_append
def kJ:=@PySem.F.slot_list_append
def gy:=@List.take_length
def i9:=@List.map_congr_left
def io:=@List.take_add_one
def ip:=@List.pairwise_map
def kK:=@Array.getElem?_toList
def jp:=@PySem.mem_of_lookup
def nZ:=@List.getElem?_append_right
def i_:=@List.append_assoc
def ja:=@Array.toList_push
def fL:=@List.map_map
def jq:=@List.filter_append
def jb:=@PySem.Heap.get?_push_ne
def jc:=@List.length_take
def jd:=@List.getElem_mem
def kM:=@beq_eq_false_iff_ne
def jr:=@List.nodup_append
def fN:=@PyProof.Rows.wpS_forRange
def je:=@PySem.W.kia_one
def jt:=@List.filter_cons
def n5:=@List.length_filter_le
def jf:=@List.nodup_nil
def lZ:=@of_decide_eq_false
def l0:=@Int.emod_lt_of_pos
def l4:=@Bool.false_eq_true
def kN:=@List.nodup_range
def jg:=@Nat.lt_irrefl
def pj:=@Option.map_eq_some_iff
def kO:=@PySem.Heap.size_update
def n6:=@Array.toList_append
def rN:=@List.pairwise_iff_getElem
def pq:=@List.perm_append_comm
def pr:=@List.length_replicate
def n8:=@PySem.F.called_set
def pA:=@List.Pairwise.filter
def ju:=@PySem.wpAny_holding
def gX:=@beq_iff_eq
def l5:=@Int.emod_nonneg
def l6:=@Bool.eq_iff_iff
def pB:=@List.replicate_succ
def k9:=@List.getElem?_range
def k_:=@PySem.Heap.get?_none_of_le
def pC:=@PyProof.Rows.callWith_type1
def jv:=@Nat.mod_eq_of_lt
def jw:=@Nat.lt_succ_self
def iG:=@Array.size_map
def dz:=@PyProof.Rows.wpS_mono
def jx:=@List.range_succ
def lc:=@PySem.wpAny_Call_Name_kw
def hX:=@Nat.add_zero
def mR:=@List.mem_of_mem_take
def mS:=@List.mem_iff_getElem
def iH:=@PySem.Heap.size_push
def pD:=@Option.isSome_iff_exists
def pE:=@PyProof.Rows.boot_tuple
def fw:=@PyProof.Rows.wpS_modify
def mT:=@List.mem_filterMap
def pF:=@List.getElem?_set_self
def lf:=@List.length_set
def lj:=@List.find?_cons
def jy:=@List.any_cons
def jz:=@Bool.true_and
def pG:=@PyProof.Rows.boot_int
def pH:=@List.length_singleton
def pI:=@List.eq_nil_or_concat
def pJ:=@List.concat_eq_append
def tf:=@Array.getD_eq_getD_getElem?
def lm:=@PySem.wpAny_passesOwn
def fz:=@if_false
def lq:=@PySem.codeAny_builtin
def tj:=@List.nodup_iff_pairwise_ne
def mU:=@decide_eq_decide
def jA:=@Nat.ne_of_gt
def mV:=@List.countP_cons
def mW:=@List.all_eq_true
def mX:=@PySem.wpAny_truthy_bool
def tm:=@List.drop_eq_getElem_cons
def tq:=@Classical.byContradiction
def xr:=@PyProof.Rows.F.plain_set_update_loop
def pK:=@List.length_pos_iff
def h9:=@PySem.wpAny_mono
def iI:=@PySem.wpAny_field
def iJ:=@PySem.sizeLine_eq
def lr:=@PySem.W.mg_of
def lu:=@List.all_cons
def pL:=@PySem.Around.under_plainId
def mY:=@List.of_mem_zip
def mZ:=@List.append_nil
def jB:=@List.map_id
def pM:=@PySem.Heap.get?_update_ne
def pN:=@decide_eq_true_eq
def tu:=@PyProof.Rows.boot_list
def lv:=@Nat.succ.inj
def tw:=@List.range_succ_eq_map
def lw:=@List.map_nil
def tD:=@List.length_pos_of_mem
def pO:=@List.flatten_cons
def lx:=@Int.zero_add
def m3:=@Bool.false_and
def tE:=@Array.toList_filterMap
def iK:=@PySem.wpAny_rule
def tG:=@PySem.wpAny_callSpecial?_slot
def pP:=@Array.toList_map
def pQ:=@PySem.wpAny_pyIter_list
def pR:=@PySem.wpAny_newObj_type
def lA:=@PySem.codeAny_mono
def tH:=@List.pairwise_append
def tI:=@List.mem_of_mem_drop
def tJ:=@List.getElem?_set_ne
def lB:=@Int.le_refl
def tK:=@PySem.Heap.get?_update_other
def tL:=@Array.toList_reverse
def xt:=@List.filter_map
def xu:=@List.countP_eq_length_filter
def tO:=@PySem.Heap.get?_update_self
def pS:=@PySem.wpAny_call_entry
def tP:=@PySem.W.callWith_K
def xv:=@List.perm_ext_iff_of_nodup
def xw:=@Array.toList_setIfInBounds
def xx:=@Array.getElem?_eq_getElem
def tQ:=@List.take_sublist
def tR:=@Int.emod_eq_of_lt
def tS:=@Bool.eq_false_iff
def xy:=@PyProof.Rows.boot_sorted
def xz:=@List.length_erase_of_mem
def xA:=@List.getElem?_take_of_lt
def xB:=@List.Pairwise.imp_of_mem
def fW:=@PyProof.Rows.wpS_get
def lC:=@PySem.call_meets
def xC:=@List.getElem?_replicate
def iL:=@if_true
def xD:=@PyProof.Rows.boot_bool
def pT:=@Nat.zero_add
def pU:=@Nat.lt_trans
def xE:=@List.take_of_length_le
def xF:=@List.filter_eq_nil_iff
def tT:=@PySem.wpAny_setState_of
def tU:=@PySem.wpAny_pyIter_enum
def tV:=@List.length_nil
def tW:=@List.foldl_cons
def tX:=@List.Perm.of_eq
def pV:=@PySem.wpAny_standAt
def xG:=@List.take_append_drop
def pW:=@Sum.inl.inj
def xH:=@List.mem_erase_of_ne
def tY:=@Bool.and_false
def xI:=@Array.toList_extract
def xJ:=@Array.getElem_toList
def lD:=@PyProof.Rows.size_push'
def xK:=@PySem.wpAny_pyNext_list_item
def m4:=@PySem.wpAny_call
def m5:=@PySem.wpAny_Name
def xL:=@PySem.W.plainGet_of
def Cr:=@PyProof.Rows.F.entry_set_update_loop
def xM:=@List.length_take_le
def xN:=@List.getD_cons_succ
def xO:=@List.filterMap_cons
def tZ:=@PySem.wpAny_execs_nil
def t9:=@Nat.add_assoc
def t_:=@Bool.not_true
def xP:=@PySem.wpAny_pyNext_list_end
def xQ:=@Nat.pos_of_ne_zero
def ua:=@PySem.wpAny_seqItems
def xR:=@PySem.wpAny_loadName_local
def xS:=@PySem.codeAny_call_builtin
def ub:=@Nat.le_of_eq
def xT:=@List.filter_congr
def xU:=@List.ext_getElem?
def xV:=@List.any_eq_false
def Cs:=@Array.toList_eraseIdxIfInBounds
def xW:=@PySem.wpAny_loadName_free
def xX:=@List.length_drop
def xY:=@List.getElem_map
def xZ:=@Array.toList_zip
def uc:=@PySem.wpAny_attempt
def Ct:=@List.eq_nil_of_length_eq_zero
def Cu:=@Int.mul_le_mul_of_nonneg_left
def x0:=@PySem.wpAny_pyIter_tuple
def x_:=@PySem.tupleKind_room_in1
def yc:=@PySem.Obj.data_mapFields
def Cv:=@PySem.F.typeOf_object_class
def yd:=@PySem.wpAny_loadPart_at
def ud:=@Nat.mod_lt
def ye:=@List.drop_zero
def Cw:=@Int.fmod_eq_emod_of_nonneg
def yf:=@Bool.not_false
def Cy:=@Array.getElem?_eq_some_iff
def lE:=@PyProof.Rows.wpS_lift
def Cz:=@List.mem_take_iff_getElem
def yg:=@PySem.wpAny_eqBool_int
def CC:=@List.filterMap_cons_some
def yh:=@List.cons.inj
namespace L2
open PySem PySem.Spec PyProof.Rows
section
variable {M:Model} {A:Around} {E:Value->Shared->Prop} {s:Shared} {B:Heap} {l outer:List Env} {env:Env} {e L:Addr} {cls:Value}
end
theorem rl:plainId "proto.unchain"=true:=by decide +kernel
theorem rm:entryFor table "proto.unchain"=some Builtin.«proto.unchain»:=PySem.entryFor_of_fast (by kernel_rfl)
def zD(p:Addr)(h:Heap):Prop:=∃o vs,h.get? p=some o/\o.data=.fields vs/\vs[2]?=some .none
theorem CD{α:Type}{prog:Program}{w:World}{A:Around}{Q:α->Shared->Prop}{E:Value->Shared->Prop}{s:Shared}{a p:Addr}{o:Obj}{vs:Array Value}(hh:A.handled=some (.ref p))(hp:zD p s.heap)(ne:p≠a)(ha:s.heap.get? a=some o)(hd:o.data=.fields vs)(z2:2<vs.size)(q:E (.ref a) { s with heap:=s.heap.update a (Obj.mapFields (·.setIfInBounds 2 (.ref p))) }):wpAny (model prog w) A (raiseNew (.ref a):Sem α) Q E s:=by
 obtain⟨op,ws,h1,h2,h3⟩:=hp;unfold raiseNew;refine aI (wpAny_handled ?_);rw[hh];dsimp only;rw[ao (show (Value.ref p != Value.ref a)=true from by simp[ne])];refine aI (ju (wpAny_runValue (lq rm ?_)));rw[pL rl _];show wpAny _ _ (field (.ref p) 2 >>= _) _ _ s;refine aI (iI h1 h2 h3 ?_);rw[ao (by decide)];refine wpAny_pure ?_;show wpAny (model prog w) A (updateField a 2 (Value.ref p) >>= fun _=>throw (Value.ref a)) Q E s;unfold updateField;refine aI (aI (wpAny_load ha ?_));rw[hd];dsimp only;rw[ao z2];exact wpAny_update (by rw[ha]) (wpAny_throw q)
theorem yi{prog:Program}{w:World}{A:Around}{E:Value->Shared->Prop}{s:Shared}{it p:Addr}{x left step:Int}{Q:Option Value->Shared->Prop}(hh:A.handled=some (.ref p))(hp:zD p s.heap)(rc:IsRangeIter s.heap it x left step)(hl:left<=0)(hQ:∀h',(∀b o,s.heap.get? b=some o->h'.get? b=some o)->Q none { s with heap:=h' }):wpAny (model prog w) A (pyNext (.ref it)) Q E s:=by
 have hT:s.TypeIs (.ref it) "range_iterator":=⟨_,rc,rfl⟩
 unfold pyNext;refine aI (uc (tG (name:=Str.ofString "__next__") hT F.slot_range_iterator_next
  (pS F.slot_range_iterator_next hT F.entry_range_iterator_next ?_ (F.args_range_iterator_next_1 _))))
 show wpAny _ _ (field (.ref it) 0 >>= _) _ _ s;refine aI (iI rc rfl (x:=rawInt x) rfl ?_);refine aI (iI rc rfl (x:=rawInt left) rfl ?_);refine aI (iI rc rfl (x:=rawInt step) rfl ?_);dsimp only[rawInt];rw[ao hl];refine aI (iK ?_);refine aI ?_;show wpAny _ _ (newExc (.type "StopIteration") [] >>= _) _ _ _;refine aI ?_;simp only[newExc,newTuple];refine aI (pR ?_ (by size_fits));refine aI (m:=firstArgMember _ _) (wpAny_of_eq (a:=Value.none) (by first|rfl|(simp only[firstArgMember];rfl)) ?_);refine pR ?_ (by size_fits);generalize hTu:({ cls:=.type "tuple",data:=.seq ([]:List Value).toArray }:Obj)=Tu;generalize S4:({ cls:=.type "StopIteration",data:=.fields (#[Value.ref s.heap.objs.size,Value.none,Value.none,Value.none,Value.bool false,Value.none]++ownMembersOf (Value.type "StopIteration") []) }:Obj)=Ex;have Xa:Ex.data=.fields (#[Value.ref s.heap.objs.size,Value.none,Value.none,Value.none,Value.bool false,Value.none]++ownMembersOf (Value.type "StopIteration") []):=by rw[<-S4]
 have Za:Ex.cls=.type "StopIteration":=by rw[<-S4]
 have k1:∀b o,s.heap.get? b=some o->((s.heap.push Tu).push Ex).get? b=some o:=fun b o e=>cq _ (cq _ e);have gE:((s.heap.push Tu).push Ex).get? (s.heap.push Tu).objs.size=some Ex:=cV _ (by rw[<-S4];rfl);have old:∀b o,s.heap.get? b=some o->b≠(s.heap.push Tu).objs.size:=fun b o e=>aX (aY (cq Tu e));obtain⟨op,ws,n1,n2,n3⟩:=id hp;refine CD (A:=A.in1) (p:=p) hh ⟨op,ws,k1 _ _ n1,n2,n3⟩ (old _ _ n1) gE Xa (by simp;lia) ?_;refine aI (wpAny_isInstance (T:="StopIteration") (b:=true) ⟨_,tO _ gE (Obj.isFreed_of_fields (yc Xa _)),(Obj.cls_mapFields _ _).trans Za⟩ isSubtype_stop ?_);exact wpAny_pure (hQ _ fun b o e=>(tK _ _ (Ne.symm (old b o e))).trans (k1 b o e))
abbrev dq:=Sum Int Str
def rO:dq->Value->Bool
 |.inl k,v=>Value.isInt k v
 |.inr x,v=>Value.isStrOf x v
def S5(w:World):dq->Int
 |.inl k=>hashInt k
 |.inr x=>hashStr w x
theorem cN:∀ {k:dq} {v:Value},rO k v=true->(∃i t,k=Sum.inl i/\v=Value.int i t)\/(∃x t,k=Sum.inr x/\v=Value.str x t)
 |.inl i,v,h=>by
  obtain⟨t,e⟩:=Value.isInt_shape (k:=i) (v:=v) h;exact .inl ⟨i,t,rfl,e⟩
 |.inr x,v,h=>by
  obtain⟨t,e⟩:=Value.isStrOf_shape (x:=x) (v:=v) h;exact .inr ⟨x,t,rfl,e⟩
theorem A1(i:Int)(t:Tok):rO (.inl i) (.int i t)=true:=by simp[rO,Value.isInt]
theorem A2(x:Str)(t:Tok):rO (.inr x) (.str x t)=true:=by simp[rO,Value.isStrOf]
theorem JW(a b:Int):decide ((Sum.inl a:dq)=Sum.inl b)=(a==b):=by
 by_cases e:a=b
 .subst e;simp
 .have h:¬ (Sum.inl a:dq)=Sum.inl b:=fun q=>e (pW q);rw[cE h];exact(kM.mpr e).symm
theorem JX(a b:Str):decide ((Sum.inr a:dq)=Sum.inr b)=decide (a=b):=by
 by_cases e:a=b
 .subst e;simp
 .have h:¬ (Sum.inr a:dq)=Sum.inr b:=fun q=>e (Sum.inr.inj q);rw[cE h,cE e]
theorem JY(a:Int)(b:Str):decide ((Sum.inl a:dq)=Sum.inr b)=false:=cE (fun q=>nomatch q)
theorem JZ(a:Str)(b:Int):decide ((Sum.inr a:dq)=Sum.inl b)=false:=cE (fun q=>nomatch q)
def bq(prog:Program)(w:World):PySem.KeyKind prog w dq where
 is:=rO
 hash:=S5 w
 inj:=fun v a b ha hb=>by
  rcases cN ha with ⟨i,t,rfl,rfl⟩|⟨x,t,rfl,rfl⟩
  .rcases cN hb with ⟨j,u,rfl,e⟩|⟨y,u,rfl,e⟩
   .injection e with e1 _;rw[e1]
   .exact nomatch e
  .rcases cN hb with ⟨j,u,rfl,e⟩|⟨y,u,rfl,e⟩
   .exact nomatch e
   .injection e with e1 _;rw[e1]
 byValue:=fun k v h=>by
  rcases cN h with ⟨i,t,rfl,rfl⟩|⟨x,t,rfl,rfl⟩ <;> rfl
 pyHash:=fun hv h=>by
  rcases cN hv with ⟨i,t,rfl,rfl⟩|⟨x,t,rfl,rfl⟩
  .exact wpAny_pyHash_int h
  .exact wpAny_pyHash_str h
 eqBool:=fun hu hv h=>by
  rcases cN hu with ⟨i,t,rfl,rfl⟩|⟨x,t,rfl,rfl⟩
  .rcases cN hv with ⟨j,u,rfl,rfl⟩|⟨y,u,rfl,rfl⟩
   .rw[JW] at h;exact yg h
   .rw[JY] at h;exact SeqAt.EqAt.int_str i t y u _ _ _ _ h
  .rcases cN hv with ⟨j,u,rfl,rfl⟩|⟨y,u,rfl,rfl⟩
   .rw[JZ] at h;exact SeqAt.EqAt.str_int x t j u _ _ _ _ h
   .rw[JX] at h;exact wpAny_eqBool_str h
 «strs»:=fun k x t v h=>by
  rcases cN h with ⟨i,u,rfl,e⟩|⟨y,u,rfl,e⟩
  .exact nomatch e
  .injection e with e1 _
   subst e1
   cases v <;> rfl
theorem vy(prog:Program)(w:World)(i:Int)(t:Tok):(bq prog w).is (.inl i) (.int i t)=true:=A1 i t
theorem vz(prog:Program)(w:World)(x:Str)(t:Tok):(bq prog w).is (.inr x) (.str x t)=true:=A2 x t
inductive V where
 |bH|bl (b:Bool)|int (i:Int)|str (x:Str)|A3 (b:Array UInt8)|IR (b:UInt64)|ref (a:Addr)|ty (n:String)
 deriving DecidableEq
def be:V->Value->Prop
 |.bH,u=>u=Value.none
 |.bl b,u=>u=Value.bool b
 |.int i,u=>∃t,u=Value.int i t
 |.str x,u=>∃t,u=Value.str x t
 |.A3 b,u=>∃t,u=Value.bytes b t
 |.IR b,u=>∃t,u=Value.float b t
 |.ref a,u=>u=Value.ref a
 |.ty n,u=>u=Value.type n
abbrev aW:List V->List Value->Prop:=Paired be
theorem aW.length(r:aW xs us):xs.length=us.length:=Paired.length r
theorem aW.get:∀ {xs:List V} {us:List Value} {i:Nat} {x:V},aW xs us->xs[i]?=some x->∃u,us[i]?=some u/\be x u
 |_,_,_,_,.nil,e=>by simp at e
 |_,_,0,_,.cons r _,e=>by simp at e;subst e;exact⟨_,rfl,r⟩
 |_,_,i+1,x,.cons _ t,e=>by
  obtain⟨u,h1,h2⟩:=aW.get (i:=i) (x:=x) t (by simpa using e);exact⟨u,by simpa using h1,h2⟩
theorem aW.set(r:be x u):∀ {xs:List V} {us:List Value} (i:Nat),aW xs us->aW (xs.set i x) (us.set i u)
 |_,_,_,.nil=>.nil
 |_,_,0,.cons _ t=>.cons r t
 |_,_,i+1,.cons q t=>.cons q (aW.set r i t)
theorem aW.append:∀ {xs ys:List V} {us ws:List Value},aW xs us->aW ys ws->aW (xs++ys) (us++ws)
 |_,_,_,_,.nil,s=>s
 |_,_,_,_,.cons r t,s=>.cons r (aW.append t s)
theorem aW.take:∀ {xs:List V} {us:List Value} (n:Nat),aW xs us->aW (xs.take n) (us.take n)
 |_,_,0,_=>.nil
 |_,_,_+1,.nil=>.nil
 |_,_,n+1,.cons r t=>.cons r (aW.take n t)
theorem aW.drop:∀ {xs:List V} {us:List Value} (n:Nat),aW xs us->aW (xs.drop n) (us.drop n)
 |_,_,0,r=>r
 |_,_,_+1,.nil=>.nil
 |_,_,n+1,.cons _ t=>aW.drop n t
def kA:Option V->Option Value->Prop
 |some v,some u=>be v u
 |none,none=>True
 |_,_=>False
def KV{κ:Type}:List (κ×V)->List (κ×Value)->Prop:=Paired fun (p:κ×V) (q:κ×Value)=>p.1=q.1/\be p.2 q.2
def kV:dq->V
 |.inl i=>.int i
 |.inr x=>.str x
inductive HO where
 |lst (xs:List V)
 |tup (xs:List V)
 |dK (kvs:List (dq×V))|dT (kvs:List (List dq×V))
 |set (S:Int->Bool) (n:Nat)
 |ins (C dx:Addr) (fs:List (Str×V))
 |own (x:Addr)
 |xd (fs:List (Str×V))
 |met (f x:Addr)
 |CF (lo hi:Int)
 |iF (o:Obj) (u:HO)
 |m6 (ps:Array Value)
 |ext (φ:Heap->Prop)
abbrev Hp:=Addr->Option HO
def upd(H:Hp)(a:Addr)(o:HO):Hp:=fun b=>if b=a then some o else H b
theorem af:upd H a o a=some o:=by unfold upd;rw[ao rfl]
theorem ak(h:b≠a):upd H a o b=H b:=by unfold upd;rw[ap h]
theorem gY:upd (upd H a o) a u=upd H a u:=by
 funext b;unfold upd;split <;> rfl
theorem cX{H:Hp}{a b:Addr}{o u:HO}(h:H a=some o)(h':H b=some u)(d:o≠u):a≠b:=by
 intro e;subst e;rw[h] at h';exact d (bR h')
theorem ai{H:Hp}{a b:Addr}{o:HO}(h:H a=some o)(h':H b=none):a≠b:=by
 intro e;subst e;rw[h] at h';cases h'
section
variable (P:Program) (w:World)
def m7(h:Heap)(a:Addr)(kP:Array Value):Prop:=∃o,h.get? a=some o/\o.cls=.type "tuple"/\∃n,o.data=.seq kP n/\o.dict=none
theorem m7.tup(p:m7 h a kP):IsTup h a kP:=let ⟨o,e,c,n,d,_⟩:=p;⟨o,e,c,n,d⟩
theorem m7.new(h:Heap)(kP:Array Value):m7 (h.push { cls:=.type "tuple",data:=.seq kP }) h.objs.size kP:=⟨_,cV _ rfl,rfl,_,rfl,rfl⟩
def bQ(H:Hp)(h:Heap)(a:Addr):HO->Prop
 |.lst xs=>xs.length<=sizeLine/\∃ (its:List Value) (n:Nat),aW xs its/\h.get? a=some { cls:=.type "list",data:=.seq its.toArray n }
 |.tup xs=>xs.length<=sizeLine/\∃its:List Value,aW xs its/\m7 h a its.toArray
 |.dK kvs=>kvs.length<=sizeLine/\(a==sysModules)=false/\∃vs,KV kvs vs/\h.DictOf (bq P w) a vs
 |.dT kvs=>kvs.length<=sizeLine/\(a==sysModules)=false/\∃xs:List (List dq×Addr×Value),
   Paired (fun (p:List dq×V) (q:List dq×Addr×Value)=>p.1=q.1/\H q.2.1=some (.tup (p.1.map kV))/\be p.2 q.2.2) kvs xs/\
   ∃o es ep,h.get? a=some o/\o.ExactDict/\o.data=.dict es ep/\es.toList=xs.map (entryOfKey (tupleKind (bq P w)))/\(xs.map (·.1)).Nodup
 |.set S n=>h.SetOf (intKind P w) a S n
 |.ins C dx fs=>H dx=some (.own a)/\fs.length<=1000/\dx≠a/\h.get? a=some (PySem.W.instObj C dx)/\
   ∃mA,h.Ns1 dx mA/\(∀f,kA (fs.lookup f) (mA f))/\PySem.Within mA (fs.map (·.1))
 |.own _=>∃o,h.get? a=some o
 |.xd fs=>∃mA,h.Ns1 a mA/\∀f,kA (fs.lookup f) (mA f)
 |.CF lo hi=>∃t u v,h.get? a=some { cls:=.type "range",data:=.fields #[.int lo t,.int hi u,.int 1 v] }
 |.iF o u=>h.get? a=some o/\bQ H h a u
 |.m6 ps=>h.get? a=some { cls:=.none,data:=.fields ps }
 |.met f x=>h.get? a=some (PySem.W.methodObj (.ref f) (.ref x))
 |.ext φ=>φ h/\(∃o,h.get? a=some o)/\∀h1 h2:Heap,φ h1->(∀o,h1.get? a=some o->h2.get? a=some o)->φ h2
def iM(H:Hp)(h:Heap):Prop:=∀a o,H a=some o->bQ P w H h a o
end
section
variable {P:Program} {w:World} {H H':Hp} {h h':Heap} {a:Addr} {o:HO}
theorem bQ.lt(x:bQ P w H h a o):a<h.objs.size:=by
 cases o with
 |lst xs=>obtain⟨_,_,_,_,e⟩:=x;exact aY e
 |tup xs=>obtain⟨_,_,_,p⟩:=x;exact p.tup.lt
 |dK kvs=>obtain⟨_,_,_,_,o,_,_,e,_⟩:=x;exact aY e
 |dT kvs=>obtain⟨_,_,_,_,o,_,_,e,_⟩:=x;exact aY e
 |set S n=>obtain⟨o,_,_,_,e,_⟩:=x;exact aY e
 |ins C dx fs=>obtain⟨_,_,_,e,_⟩:=x;exact aY e
 |own y=>obtain⟨_,e⟩:=x;exact aY e
 |xd fs=>obtain⟨_,⟨_,_,_,e,_⟩,_⟩:=x;exact aY e
 |CF lo hi=>obtain⟨_,_,_,e⟩:=x;exact aY e
 |iF ob u=>obtain⟨e,_⟩:=x;exact aY e
 |m6 ps=>exact aY (show h.get? a=some _ from x)
 |met f y=>exact aY (show h.get? a=some _ from x)
 |ext φ=>obtain⟨_,⟨_,e⟩,_⟩:=x;exact aY e
theorem Paired.J1:∀ {l₁:List α} {l₂:List β},Paired F l₁ l₂->(∀a b,F a b->G a b)->Paired G l₁ l₂
 |_,_,.nil,_=>.nil
 |_,_,.cons r t,f=>.cons (f _ _ r) (Paired.J1 t f)
theorem bQ.oC(x:bQ P w H h a o)(k:∀b u,(b=a\/H b=some (.own a))->h.get? b=some u->h'.get? b=some u)(ho:∀b,H b=some (.own a)->H' b=some (.own a))(ht:∀b xs,H b=some (.tup xs)->H' b=some (.tup xs)):bQ P w H' h' a o:=by
 induction o with
 |lst xs=>obtain⟨z,its,n,r,e⟩:=x;exact⟨z,its,n,r,k _ _ (.inl rfl) e⟩
 |tup xs=>obtain⟨z,its,r,ob,e,c⟩:=x;exact⟨z,its,r,ob,k _ _ (.inl rfl) e,c⟩
 |dK kvs=>obtain⟨z,y,vs,r,ob,es,ep,e,c⟩:=x;exact⟨z,y,vs,r,ob,es,ep,k _ _ (.inl rfl) e,c⟩
 |dT kvs=>
  obtain⟨z,y,xs,r,ob,es,ep,e,c⟩:=x;exact⟨z,y,xs,Paired.J1 r fun p q z=>⟨z.1,ht _ _ z.2.1,z.2.2⟩,ob,es,ep,k _ _ (.inl rfl) e,c⟩
 |set S n=>obtain⟨ob,es,ep,t,e,c⟩:=x;exact⟨ob,es,ep,t,k _ _ (.inl rfl) e,c⟩
 |ins C dx fs=>
  obtain⟨d,z,ne,e,mA,⟨od,es,ep,e2,c⟩,r⟩:=x;exact⟨ho _ d,z,ne,k _ _ (.inl rfl) e,mA,⟨od,es,ep,k _ _ (.inr d) e2,c⟩,r⟩
 |own y=>obtain⟨ob,e⟩:=x;exact⟨ob,k _ _ (.inl rfl) e⟩
 |xd fs=>obtain⟨mA,⟨od,es,ep,e,c⟩,r⟩:=x;exact⟨mA,⟨od,es,ep,k _ _ (.inl rfl) e,c⟩,r⟩
 |CF lo hi=>obtain⟨t,u,v,e⟩:=x;exact⟨t,u,v,k _ _ (.inl rfl) e⟩
 |iF ob u ih=>obtain⟨e,q⟩:=x;exact⟨k _ _ (.inl rfl) e,ih q⟩
 |m6 ps=>
  have e:h.get? a=some { cls:=.none,data:=.fields ps }:=x;show h'.get? a=some { cls:=.none,data:=.fields ps };exact k a _ (.inl rfl) e
 |met f y=>
  have e:h.get? a=some (PySem.W.methodObj (.ref f) (.ref y)):=x;show h'.get? a=some (PySem.W.methodObj (.ref f) (.ref y));exact k a _ (.inl rfl) e
 |ext φ=>obtain⟨p,⟨o,e⟩,st⟩:=x;exact⟨st _ _ p fun o q=>k _ _ (.inl rfl) q,⟨o,k _ _ (.inl rfl) e⟩,st⟩
theorem iM.lt(x:iM P w H h)(e:H a=some o):a<h.objs.size:=(x a o e).lt
theorem iM.fresh(x:iM P w H h)(e:h.objs.size<=a):H a=none:=by
 cases q:H a with
 |none=>rfl
 |some u=>exact absurd (bV (x.lt q) e) (jg _)
theorem iM.kept(x:iM P w H h)(k:∀b u,h.get? b=some u->h'.get? b=some u):iM P w H h':=fun a o e=>
 (x a o e).oC (fun b u _ q=>k b u q) (fun _ q=>q) fun _ _ q=>q
theorem iM.laid(x:iM P w H h)(k:∀b u,h.get? b=some u->h'.get? b=some u)(hp:h.objs.size<=a)(new:bQ P w (upd H a o) h' a o):iM P w (upd H a o) h':=fun b u e=>by
 have hn:=x.fresh hp;by_cases hb:b=a
 .subst hb;rw[af] at e;cases e;exact new
 .rw[ak hb] at e;exact(x b u e).oC (fun c v _ q=>k c v q) (fun c q=>by rw[ak (ai q hn)];exact q) fun c xs q=>by rw[ak (ai q hn)];exact q
end
def Rd(H:Hp)(a:Addr)(u:HO):Prop:=H a=some u\/∃o,H a=some (.iF o u)
theorem Rd.ok(r:Rd H a u)(x:iM P w H h):bQ P w H h a u:=by
 rcases r with r|⟨o,r⟩
 .exact x a u r
 .obtain⟨_,q⟩:=x a _ r;exact q
def NI:Option HO->Prop
 |some (.lst _)=>True
 |some (.dK _)=>True
 |some (.dT _)=>True
 |some (.set _ _)=>True
 |some (.ins _ _ _)=>True
 |some (.ext _)=>True
 |_=>False
section
variable {P:Program} {w:World} {H:Hp} {h h':Heap} {x e:Addr} {o':HO}
theorem iM.write(ok:iM P w H h)(mu:NI (H x))(he:e=x\/H e=some (.own x))(k:∀b u,b≠e->h.get? b=some u->h'.get? b=some u)(M7:∃u,h'.get? e=some u)(new:bQ P w (upd H x o') h' x o'):iM P w (upd H x o') h':=fun b u q=>by
 have NJ:∀c y,H c=some (.own y)->c≠x:=fun c y r z=>by subst z;rw[r] at mu;exact mu
 have S6:∀c xs,H c=some (.tup xs)->c≠x:=fun c xs r z=>by subst z;rw[r] at mu;exact mu
 by_cases hb:b=x
 .subst hb;rw[af] at q;cases q;exact new
 .rw[ak hb] at q;by_cases Fv:b=e
  .have q':H b=some (.own x):=by
    rcases he with z|z
    .exact absurd (Fv.trans z) hb
    .rw[Fv];exact z
   rw[q] at q';cases q';obtain⟨v,hv⟩:=M7;exact⟨v,by rw[Fv];exact hv⟩
  .refine(ok b u q).oC (fun c v hc r=>k c v ?_ r) (fun c r=>by rw[ak (NJ c b r)];exact r) fun c xs r=>by rw[ak (S6 c xs r)];exact r
   rcases hc with rfl|hc
   .exact Fv
   .rintro rfl;rcases he with z|z
    .exact NJ c b hc z
    .rw[hc] at z;cases z;exact hb rfl
end
structure Un(fs ex:List Addr)(H H':Hp)(h h':Heap):Prop where
 keep:∀b o,h.get? b=some o->H b=none->b∉fs->b∉ex->h'.get? b=some o
 slot:∀b o,h.get? b=some o->H b=none->b∈fs->b∉ex->∃sl,h'.get? b=some { o with slots:=sl }
 free:∀b o,h.get? b=some o->H b=none->b∉ex->H' b=none
 there:∀b o,h.get? b=some o->b∉ex->∃o',h'.get? b=some o'
 lF:∀b xs,H b=some (.tup xs)->H' b=some (.tup xs)
 m8:∀b o u,H b=some (.iF o u)->H' b=some (.iF o u)
 m9:∀b ps,H b=some (.m6 ps)->∃more,H' b=some (.m6 (ps++more))
section
variable {fs Zb ex ex':List Addr} {H H1 H2:Hp} {h h1 h2 h':Heap} {a x e:Addr} {o:HO}
theorem Un.any(u:Un fs ex H H1 h h1)(q:h.get? b=some ob)(n:H b=none)(hx:b∉ex):∃sl,h1.get? b=some { ob with slots:=sl }:=by
 by_cases hb:b∈fs
 .exact u.slot b ob q n hb hx
 .exact⟨ob.slots,u.keep b ob q n hb hx⟩
theorem Un.kept(k:∀b u,h.get? b=some u->h'.get? b=some u):Un fs ex H H h h':=
 ⟨fun b ob q _ _ _=>k b ob q,fun b ob q _ _ _=>⟨ob.slots,k b ob q⟩,fun _ _ _ n _=>n,fun b ob q _=>⟨ob,k b ob q⟩,fun _ _ q=>q,fun _ _ _ q=>q,fun _ ps q=>⟨#[],by rw[q];simp⟩⟩
theorem Un.refl:Un fs ex H H h h:=Un.kept fun _ _ q=>q
theorem Un.laid(k:∀b u,h.get? b=some u->h'.get? b=some u)(hp:h.objs.size<=a)(hn:H a=none):Un fs ex H (upd H a o) h h' where
 keep:=fun b u q _ _ _=>k b u q
 slot:=fun b u q _ _ _=>⟨u.slots,k b u q⟩
 free:=fun b u q n _=>by rw[ak (aX (bV (aY q) hp))];exact n
 there:=fun b u q _=>⟨u,k b u q⟩
 lF:=fun b xs q=>by rw[ak (ai q hn)];exact q
 m8:=fun b u xs q=>by rw[ak (ai q hn)];exact q
 m9:=fun b ps q=>⟨#[],by rw[ak (ai q hn),q];simp⟩
theorem Un.write(mu:NI (H x))(he:e=x\/H e=some (.own x))(k:∀b u,b≠e->h.get? b=some u->h'.get? b=some u)(M7:∃u,h'.get? e=some u):Un fs ex H (upd H x o) h h':=by
 have hx:∀b,H b=none->b≠x:=fun b n z=>by subst z;rw[n] at mu;exact mu
 have hb:∀b,H b=none->b≠e:=fun b n z=>by
  subst z;rcases he with r|r
  .exact hx b n r
  .rw[n] at r;cases r
 have hm:∀b u,H b=some u->¬ NI (some u)->b≠x:=fun b u q nm z=>by subst z;rw[q] at mu;exact nm mu
 refine⟨fun b u q n _ _=>k b u (hb b n) q,fun b u q n _ _=>⟨u.slots,k b u (hb b n) q⟩,fun b u q n _=>by rw[ak (hx b n)];exact n,fun b u q _=>?_,
  fun b xs q=>by rw[ak (hm b _ q fun z=>z)];exact q,fun b u xs q=>by rw[ak (hm b _ q fun z=>z)];exact q,fun b ps q=>⟨#[],by rw[ak (hm b _ q fun z=>z),q];simp⟩⟩
 by_cases Fv:b=e
 .subst Fv;exact M7
 .exact⟨u,k b u Fv q⟩
end
def Rv(h:Heap)(H:Hp):List Addr:=(List.range h.objs.size).filter fun a=>(H a).isSome
def rp(h:Heap)(H:Hp):Heap:=PySem.W.hideAll h (Rv h H)
theorem A4(h:Heap)(H:Hp):(rp h H).objs.size=h.objs.size:=PySem.W.hideAll_size _ _
theorem CG(e:h.get? b=some o)(n:H b=none):(rp h H).get? b=some o:=
 PySem.W.hideAll_get _ e fun hm=>by
  have q:(H b).isSome=true:=(bX.mp hm).2;rw[n] at q;simp at q
theorem FQ(e:(rp h H).get? b=some o):h.get? b=some o/\H b=none:=by
 have e':h.get? b=some o:=PySem.W.of_hideAll (Rv h H) e;refine⟨e',?_⟩;cases q:H b with
 |none=>rfl
 |some x=>
  have hm:b∈Rv h H:=bX.mpr ⟨bN.mpr (aY e'),by simp[q]⟩;have z:(rp h H).get? b=none:=PySem.W.hideAll_none (Rv h H) hm;rw[z] at e;cases e
def iN(g h:Heap)(L:Addr):List (Addr×Obj):=(List.range h.objs.size).filterMap fun a=>if a=L\/(g.get? a).isSome=true then none else (h.get? a).map fun o=>(a,o)
theorem jC(h1:a≠L)(h2:g.get? a=none)(h3:h.get? a=some o):(a,o)∈iN g h L:=
 mT.mpr ⟨a,bN.mpr (aY h3),by simp[h1,h2,h3]⟩
theorem pX(hp:p∈iN g h L):p.1≠L/\g.get? p.1=none/\h.get? p.1=some p.2:=by
 obtain⟨b,_,e⟩:=mT.mp hp;split at e
 .cases e
 .rename_i hn;cases q:h.get? b with
  |none=>rw[q] at e;simp at e
  |some u=>
   rw[q] at e;simp only[Option.map_some,Option.some.injEq] at e;subst e;refine⟨fun z=>hn (.inl z),?_,q⟩;show g.get? b=none;cases r:g.get? b with
   |none=>rfl
   |some v=>exact(hn (.inr (by simp[r]))).elim
theorem CI:News g L h (iN g h L):=fun p hp=>let ⟨a,b,c⟩:=pX hp;⟨c,a,b⟩
structure Mod(K:PySem.W.Frag)(mg:Str->Option Value)(base:Heap):Prop where
 M8:K.In base
 glob:base.Ns mainGlobals mg
 blt:∃mb,base.Ns builtinsNs mb/\∀x:Str,x≠"__name__"->mb x=bootBuiltins x
 nolimit:base.NoLimit
structure Cx where
 prog:Program
 w:World
 K:PySem.W.Frag
 mg:Str->Option Value
 base:Heap
 A:Around
 N:List Str
 s₀:Shared
 H₀:Hp
 env:Env
 outer:List Env
 stack:List Env
 ex:List Addr
 fn:Str->Bool
 calm:Bool
 pn:List (Addr×Obj)
 xe:Value->Shared->Prop
def A5(l:List Env):List Addr:=l.filterMap (·.frame)
abbrev Cx.fs(X:Cx):List Addr:=A5 X.outer
def NK(sc:Scope)(x:Str):Prop:=sc.names.lookup x=some .local\/sc.names.lookup x=some .cell\/sc.names.lookup x=some .free
def NL(sc:Scope)(x:Str):Prop:=sc.names.lookup x=some .local\/sc.names.lookup x=some .cell
def S7(env:Env)(h:Heap)(m:Str->Option Value)(x:Str)(u:Value):Prop:=
 (env.kindOf x=some .local/\m x=some u)\/((env.kindOf x=some .cell\/env.kindOf x=some .free)/\∃c,env.cells.lookup x=some c/\h.IsCell c (some u))
structure Cx.Ok(X:Cx):Prop where
 mod:Mod X.K X.mg X.base
 kind:X.env.scope.kind=.function
 glob:X.env.globals=mainGlobals
 blt:X.env.builtins=builtinsNs
 above:X.s₀.heap.objs.size<=X.env.locals
 inj:∀x y c,X.env.cells.lookup x=some c->X.env.cells.lookup y=some c->x=y
 has:∀x,(X.env.kindOf x=some .cell\/X.env.kindOf x=some .free)->∃c,X.env.cells.lookup x=some c
 M9:∀x c,X.fn x=true->X.env.cells.lookup x=some c->X.s₀.heap.objs.size<=c
 hd:X.calm=true->X.A.handled=none
 frames:X.A.frames=some X.stack
 M_:X.stack=X.outer\/(X.stack=X.env::X.outer/\X.env.frame=some X.env.locals)
 S8:∀b∈X.ex,b≠X.env.locals/\∀x c,X.env.cells.lookup x=some c->c≠b
 bs:∀b o,X.base.get? b=some o->X.s₀.heap.get? b=some o/\X.H₀ b=none
 Cg:X.base.objs.size<=X.s₀.heap.objs.size
 CJ:∀b o,X.base.get? b=some o->b∉X.ex
 FS:∀b∈X.ex,b∉X.fs
 m_:X.s₀.heap.FunFrames X.base X.outer
 J2:∀b∈X.fs,X.H₀ b=none
structure aK(X:Cx)(ae:List (Addr×Obj))(σ:List (Option V))(H:Hp)(s:Shared):Prop where
 ok:X.Ok
 os:s.os=X.s₀.os
 bare:AllBare s.gens
 base:Un X.fs X.ex X.H₀ H X.s₀.heap s.heap
 loc:∃m,s.heap.Ns X.env.locals m/\∀ (i:Nat) (x:Str) (v:V),X.N[i]?=some x->σ[i]?=some (some v)->NK X.env.scope x->∃u,be v u/\S7 X.env s.heap m x u
 cell:∀x c,X.env.cells.lookup x=some c->∃v,s.heap.IsCell c v
 free:H X.env.locals=none
 jD:∀x c,X.env.cells.lookup x=some c->H c=none
 pin:∀p∈X.pn++ae,s.heap.get? p.1=some p.2/\H p.1=none/\p.1≠X.env.locals/\p.1∉X.fs/\∀v,p.2.data≠.cell v
 bA:iM X.prog X.w H s.heap
 len:σ.length=X.N.length
section
variable {X:Cx} {ae:List (Addr×Obj)} {σ:List (Option V)} {H H':Hp} {s:Shared} {h':Heap}
theorem Cx.Ok.S9(ok:X.Ok)(e:X.base.get? b=some o):b∉X.fs:=fun hb=>by
 have:=(ok.m_.mem hb).1;rw[e] at this;cases this
theorem aK.bs(I:aK X ae σ H s):∀b o,X.base.get? b=some o->s.heap.get? b=some o/\H b=none:=fun b o e=>
 ⟨I.base.keep b o (I.ok.bs b o e).1 (I.ok.bs b o e).2 (I.ok.S9 e) (I.ok.CJ b o e),I.base.free b o (I.ok.bs b o e).1 (I.ok.bs b o e).2 (I.ok.CJ b o e)⟩
theorem aK.bk(I:aK X ae σ H s):∀b o,X.base.get? b=some o->s.heap.get? b=some o:=fun b o e=>(I.bs b o e).1
theorem aK.mod(I:aK X ae σ H s):Mod X.K X.mg X.base:=I.ok.mod
theorem aK.ng(I:aK X ae σ H s):X.K.In s.heap:=I.ok.mod.M8.keeps I.bk
theorem aK.nolimit(I:aK X ae σ H s):s.heap.NoLimit:=I.ok.mod.nolimit.keeps I.bk
theorem aK.fr(I:aK X ae σ H s):∃m,Fr X.base X.env.locals s.heap m:=
 let ⟨m,hn,_⟩:=I.loc
 ⟨m,hn,I.bk,bB I.ok.Cg I.ok.above⟩
theorem aK.lt(I:aK X ae σ H s):X.env.locals<s.heap.objs.size:=let ⟨_,hn,_⟩:=I.loc;hn.lt
theorem aK.sz(I:aK X ae σ H s):X.s₀.heap.objs.size<=s.heap.objs.size:=bB I.ok.above (dG I.lt)
theorem aK.S_(I:aK X ae σ H s)(h:s.heap.objs.size<=a):a∉X.fs:=fun hb=>by
 obtain⟨_,o,ho,_⟩:=I.ok.m_.mem hb;exact absurd (bV (aY ho) (bB I.sz h)) (jg _)
theorem aK.IT(I:aK X ae σ H s):∀x c,X.env.cells.lookup x=some c->c≠X.env.locals:=fun x c e z=>by
 obtain⟨v,o,ho,hd⟩:=I.cell x c e;obtain⟨m,⟨o',es,ep,CK,J9,_⟩,_⟩:=I.loc;rw[z,CK] at ho;cases ho;rw[J9] at hd;cases hd
theorem aK.m_(I:aK X ae σ H s):s.heap.FunFrames X.base X.outer:=by
 have all:∀ (l:List Env),(∀b∈A5 l,b∈X.fs)->X.s₀.heap.FunFrames X.base l->s.heap.FunFrames X.base l:=by
  intro l;induction l with
  |nil=>intro _ _;trivial
  |cons env r ih=>
   intro hs hl;obtain⟨hk,⟨L,o,hf,hn,ho,hd⟩,hr⟩:=hl;have hL:L∈X.fs:=hs L (by unfold A5;rw[xO,hf];exact b9);obtain⟨sl,e⟩:=I.base.slot L o ho (I.ok.J2 L hL) hL fun z=>I.ok.FS L z hL;exact⟨hk,⟨L,_,hf,hn,e,hd⟩,ih (fun b hb=>hs b (by unfold A5;rw[xO,hf];exact cC _ hb)) hr⟩
 exact all X.outer (fun _ hb=>hb) I.ok.m_
theorem aK.stack(I:aK X ae σ H s):s.heap.FunFrames X.base X.stack:=by
 rcases I.ok.M_ with e|⟨e,hf⟩
 .rw[e];exact I.m_
 .rw[e];obtain⟨m,hn,_⟩:=I.loc;refine .cons (by rw[I.ok.kind];decide) hf hn ?_ I.m_;exact k_ (bB I.ok.Cg I.ok.above)
theorem aK.pY(I:aK X ae σ H s):∀b∈A5 X.stack,b∈X.env.locals::X.fs:=fun b hb=>by
 rcases I.ok.M_ with e|⟨e,hf⟩
 .rw[e] at hb;exact cC _ hb
 .rw[e] at hb;unfold A5 at hb;rw[xO,hf] at hb;exact hb
theorem aK.oT(I:aK X ae σ H s):∀b∈A5 X.stack,H b=none:=fun b hb=>by
 rcases bK.mp (I.pY b hb) with e|hb
 .rw[e];exact I.free
 .obtain⟨_,o,ho,_⟩:=I.ok.m_.mem hb;exact I.base.free b o ho (I.ok.J2 b hb) fun z=>I.ok.FS b z hb
theorem aK.step{g':Array GenState}{t':Nat}{d':Drawn}{ch:List Addr}(I:aK X ae σ H s)(Fw:∀b∈ch,(b∈X.ex\/X.s₀.heap.objs.size<=b)/\b≠X.env.locals/\(∀x c,X.env.cells.lookup x=some c->c≠b)/\∀p∈X.pn++ae,p.1≠b)(keep:∀b o,b≠X.env.locals->b∉X.fs->b∉ch->s.heap.get? b=some o->H b=none->h'.get? b=some o)(slot:∀b o,b≠X.env.locals->b∈X.fs->b∉ch->s.heap.get? b=some o->H b=none->∃sl,h'.get? b=some { o with slots:=sl })(free:∀b o,b∉ch->s.heap.get? b=some o->H b=none->H' b=none)(there:∀b o,b∉ch->s.heap.get? b=some o->∃o',h'.get? b=some o')(lF:∀b xs,H b=some (.tup xs)->H' b=some (.tup xs))(m8:∀b o u,H b=some (.iF o u)->H' b=some (.iF o u))(m9:∀b ps,H b=some (.m6 ps)->∃more,H' b=some (.m6 (ps++more)))(ns:∀m,s.heap.Ns X.env.locals m->h'.Ns X.env.locals m)(bA:iM X.prog X.w H' h')(hg:AllBare g'):
  aK X ae σ H' { s with heap:=h',gens:=g',drawn:=d',toks:=t' }:=by
 have Xb:∀b o,X.s₀.heap.get? b=some o->b≠X.env.locals:=fun b o e=>aX (bV (aY e) I.ok.above);have Rx:∀b o,X.s₀.heap.get? b=some o->b∉X.ex->b∉ch:=fun b o e hx hb=>by
  rcases(Fw b hb).1 with z|z
  .exact hx z
  .exact absurd (bV (aY e) z) (jg _)
 have IU:∀x c,X.env.cells.lookup x=some c->∀v,s.heap.IsCell c v->h'.IsCell c v:=fun x c e v ⟨o,ho,hd⟩=>by
  have NM:c∉ch:=fun z=>(Fw c z).2.2.1 x c e rfl;by_cases hc:c∈X.fs
  .obtain⟨sl,q⟩:=slot c o (I.IT x c e) hc NM ho (I.jD x c e);exact⟨_,q,hd⟩
  .exact⟨o,keep c o (I.IT x c e) hc NM ho (I.jD x c e),hd⟩
 refine⟨I.ok,I.os,hg,⟨fun b o e n hb hx=>?_,fun b o e n hb hx=>?_,fun b o e n hx=>?_,fun b o e hx=>?_,fun b xs e=>lF b xs (I.base.lF b xs e),fun b o xs e=>m8 b o xs (I.base.m8 b o xs e),fun b ps e=>?_⟩,?_,fun x c e=>?_,?_,fun x c e=>?_,fun p hp=>?_,bA,I.len⟩
 .exact keep b o (Xb b o e) hb (Rx b o e hx) (I.base.keep b o e n hb hx) (I.base.free b o e n hx)
 .obtain⟨sl,e1⟩:=I.base.slot b o e n hb hx;obtain⟨Ta,e2⟩:=slot b _ (Xb b o e) hb (Rx b o e hx) e1 (I.base.free b o e n hx);exact⟨Ta,e2⟩
 .obtain⟨o',e1⟩:=I.base.there b o e hx;exact free b o' (Rx b o e hx) e1 (I.base.free b o e n hx)
 .obtain⟨o',e1⟩:=I.base.there b o e hx;exact there b o' (Rx b o e hx) e1
 .obtain⟨m1,e1⟩:=I.base.m9 b ps e;obtain⟨m2,e2⟩:=m9 b _ e1;exact⟨m1++m2,by rw[e2,Array.append_assoc]⟩
 .obtain⟨m,hn,hl⟩:=I.loc;refine⟨m,ns m hn,fun i x v e1 e2 e3=>?_⟩;obtain⟨u,r,l⟩:=hl i x v e1 e2 e3;refine⟨u,r,?_⟩;rcases l with l|⟨k,c,e,z⟩
  .exact .inl l
  .exact .inr ⟨k,c,e,IU x c e _ z⟩
 .obtain⟨v,z⟩:=I.cell x c e;exact⟨v,IU x c e v z⟩
 .obtain⟨m,⟨o,_,_,ho,_⟩,_⟩:=I.loc;exact free _ o (fun z=>(Fw _ z).2.1 rfl) ho I.free
 .obtain⟨v,o,ho,hd⟩:=I.cell x c e;exact free c o (fun z=>(Fw c z).2.2.1 x c e rfl) ho (I.jD x c e)
 .obtain⟨e,n,ne,nf,d⟩:=I.pin p hp;have NM:p.1∉ch:=fun z=>(Fw p.1 z).2.2.2 p hp rfl;exact⟨keep p.1 p.2 ne nf NM e n,free p.1 p.2 NM e n,ne,nf,d⟩
theorem aK.un{t':Nat}(I:aK X ae σ H s)(u:Un X.fs [] H H' s.heap h')(bA:iM X.prog X.w H' h'):aK X ae σ H' { s with heap:=h',toks:=t' }:=by
 obtain⟨m,⟨o,es,ep,ho,r⟩,_⟩:=id I.loc;obtain⟨sl,hL⟩:=u.any ho I.free (by simp);exact I.step (g':=s.gens) (d':=s.drawn) (ch:=[]) (fun _ z=>nomatch z) (fun b o _ hb _ e n=>u.keep b o e n hb (by simp)) (fun b o _ hb _ e n=>u.slot b o e n hb (by simp)) (fun b o _ e n=>u.free b o e n (by simp)) (fun b o _ e=>u.there b o e (by simp)) u.lF u.m8 u.m9 (fun m' hm=>by
  obtain⟨o',vq,J_,CK,r'⟩:=hm;rw[ho] at CK;cases CK;exact⟨_,vq,J_,hL,r'⟩) bA I.bare
theorem aK.call{g':Array GenState}{t':Nat}{d':Drawn}{ch:List Addr}(I:aK X ae σ H s)(u:Un (A5 X.stack) ch H H' s.heap h')(bA:iM X.prog X.w H' h')(hg:AllBare g')(Fw:∀b∈ch,(b∈X.ex\/X.s₀.heap.objs.size<=b)/\b≠X.env.locals/\(∀x c,X.env.cells.lookup x=some c->c≠b)/\∀p∈X.pn++ae,p.1≠b):
  aK X ae σ H' { s with heap:=h',gens:=g',drawn:=d',toks:=t' }:=by
 obtain⟨m,⟨o,es,ep,ho,r⟩,_⟩:=id I.loc;obtain⟨sl,hL⟩:=u.any ho I.free fun z=>(Fw _ z).2.1 rfl;exact I.step (ch:=ch) Fw (fun b o hL hb hc e n=>u.keep b o e n (fun z=>(bK.mp (I.pY b z)).elim hL hb) hc) (fun b o _ _ hc e n=>u.any e n hc) (fun b o hc e n=>u.free b o e n hc) (fun b o hc e=>u.there b o e hc) u.lF u.m8 u.m9 (fun m' hm=>by
  obtain⟨o',vq,J_,CK,r'⟩:=hm;rw[ho] at CK;cases CK;exact⟨_,vq,J_,hL,r'⟩) bA hg
theorem aK.turned{t':Nat}{it:Addr}(I:aK X ae σ H s)(k:∀b o,b≠it->s.heap.get? b=some o->h'.get? b=some o)(hn:H it=none)(hL:it≠X.env.locals)(h1:it∈X.ex\/X.s₀.heap.objs.size<=it)(h2:∀x c,X.env.cells.lookup x=some c->c≠it)(h3:∀p∈X.pn++ae,p.1≠it):aK X ae σ H { s with heap:=h',toks:=t' }:=by
 have Xd:∀b u,H b=some u->b≠it:=fun b u e z=>by rw[z,hn] at e;cases e
 refine I.step (g':=s.gens) (d':=s.drawn) (ch:=[it]) (fun b hb=>?_) (fun b o _ _ hc e _=>k b o (fun z=>hc (by simp[z])) e) (fun b o _ _ hc e _=>⟨o.slots,k b o (fun z=>hc (by simp[z])) e⟩) (fun _ _ _ _ n=>n)
  (fun b o hc e=>⟨o,k b o (fun z=>hc (by simp[z])) e⟩) (fun _ _ e=>e) (fun _ _ _ e=>e) (fun b ps e=>⟨#[],by rw[e];simp⟩) (fun m hm=>?_) (fun b u e=>?_) I.bare
 .have e:b=it:=by simpa using hb
  subst e;exact⟨h1,hL,h2,h3⟩
 .obtain⟨o,es,ep,ho,r⟩:=hm;exact⟨o,es,ep,k _ o (Ne.symm hL) ho,r⟩
 .refine(I.bA b u e).oC (fun c v hc q=>k c v ?_ q) (fun _ q=>q) fun _ _ q=>q;rcases hc with z|z
  .rw[z];exact Xd b u e
  .exact Xd c _ z
theorem aK.tok(I:aK X ae σ H s)(t:Nat):aK X ae σ H { s with toks:=t }:=I.un (h':=s.heap) (t':=t) Un.refl I.bA
theorem aK.kept(I:aK X ae σ H s)(k:∀b u,s.heap.get? b=some u->h'.get? b=some u):aK X ae σ H { s with heap:=h',toks:=t' }:=I.un (Un.kept k) (I.bA.kept k)
theorem aK.laid(I:aK X ae σ H s)(k:∀b u,s.heap.get? b=some u->h'.get? b=some u)(hp:s.heap.objs.size<=a)(new:bQ X.prog X.w (upd H a o) h' a o):
  aK X ae σ (upd H a o) { s with heap:=h',toks:=t' }:=I.un (Un.laid k hp (I.bA.fresh hp)) (I.bA.laid k hp new)
theorem aK.write(I:aK X ae σ H s)(mu:NI (H x))(he:e=x\/H e=some (.own x))(k:∀b u,b≠e->s.heap.get? b=some u->h'.get? b=some u)(M7:∃u,h'.get? e=some u)(new:bQ X.prog X.w (upd H x o) h' x o):aK X ae σ (upd H x o) { s with heap:=h',toks:=t' }:=I.un (Un.write mu he k M7) (I.bA.write mu he k M7 new)
theorem aK.zE(I:aK X ae σ H s)(h:∀p∈NO,s.heap.get? p.1=some p.2/\H p.1=none/\p.1≠X.env.locals/\p.1∉X.fs/\∀v,p.2.data≠.cell v):aK X NO σ H s:=
 ⟨I.ok,I.os,I.bare,I.base,I.loc,I.cell,I.free,I.jD,fun p hp=>(bp.mp hp).elim (fun z=>I.pin p (gW _ z)) (h p),I.bA,I.len⟩
theorem vA{N:List Str}(hN:N.Nodup){i j:Nat}{x:Str}(a:N[i]?=some x)(b:N[j]?=some x):i=j:=by
 obtain⟨h1,e1⟩:=cK.mp a;obtain⟨h2,e2⟩:=cK.mp b;exact(List.getElem_inj hN).mp (e1.trans e2.symm)
theorem rP{M:Model}{A:Around}{E:Value->Shared->Prop}{i:Nat}{x:Str}{v:V}{u:Value}{Q:Unit->Shared->Prop}(I:aK X ae σ H s)(hN:X.N.Nodup)(hi:X.N[i]?=some x)(hx:NL X.env.scope x)(r:be v u)(h:∀s',aK X ae (σ.set i (some v)) H s'->(∃a,Heap.SameBut a s.heap s'.heap/\(a=X.env.locals\/X.env.cells.lookup x=some a))->Q () s')(hf:X.fn x=true\/X.env.scope.names.lookup x=some .local:=by first|exact .inl rfl|exact .inr rfl|assumption):wpAny M A (storeName X.env x u) Q E s:=by
 obtain⟨m,hn,hl⟩:=id I.loc;have Tb:(X.env.scope.kind==.class||(X.env.scope.kind==.module&&X.env.locals != X.env.globals))=false:=by rw[I.ok.kind];rfl
 have hiσ:i<σ.length:=by rw[I.len];exact(cK.mp hi).1
 have IT:=I.IT;have zF:∀ {a:Addr} {h':Heap},(∃o,s.heap.get? a=some o/\H a=none)->Heap.SameBut a s.heap h'->iM X.prog X.w H h':=fun {a h'} ha hs b ob e=>by
  obtain⟨_,_,IW⟩:=ha;refine(I.bA b ob e).oC (fun c w' hc q=>(hs.2 c ?_).trans q) (fun _ q=>q) fun _ _ q=>q;rintro rfl;rcases hc with rfl|hc
  .rw[IW] at e;cases e
  .rw[IW] at hc;cases hc
 rcases hx with hk|hk
 .refine wpAny_storeName_local hk hn (fun h' Xe hs=>?_) Tb;obtain⟨oL,_,_,IX,_⟩:=id hn;refine h _ ⟨I.ok,I.os,I.bare,⟨fun b o e n hb hx=>?_,fun b o e n hb hx=>?_,I.base.free,fun b o e hx=>?_,I.base.lF,I.base.m8,I.base.m9⟩,⟨_,Xe,fun j y v' e1 e2 e3=>?_⟩,fun y c e=>?_,I.free,I.jD,fun p hp=>?_,zF ⟨oL,IX,I.free⟩ hs,by simpa using I.len⟩ ⟨_,hs,.inl rfl⟩
  .exact(hs.2 b (aX (bV (aY e) I.ok.above))).trans (I.base.keep b o e n hb hx)
  .obtain⟨sl,e1⟩:=I.base.slot b o e n hb hx;exact⟨sl,(hs.2 b (aX (bV (aY e) I.ok.above))).trans e1⟩
  .obtain⟨o',e1⟩:=I.base.there b o e hx;exact⟨o',(hs.2 b (aX (bV (aY e) I.ok.above))).trans e1⟩
  .by_cases hj:j=i
   .subst hj;rw[hi] at e1;cases e1;rw[pF hiσ] at e2;cases e2;exact⟨u,r,.inl ⟨hk,by simp⟩⟩
   .rw[tJ (Ne.symm hj)] at e2;obtain⟨u',r',q⟩:=hl j y v' e1 e2 e3;refine⟨u',r',?_⟩;rcases q with ⟨k,e⟩|⟨k,c,e,z⟩
    .refine .inl ⟨k,?_⟩;have:y≠x:=fun e=>hj (vA hN e1 (e ▸ hi));simp[this,e]
    .exact .inr ⟨k,c,e,z.sameBut hs (IT y c e)⟩
  .obtain⟨w',z⟩:=I.cell y c e;exact⟨w',z.sameBut hs (IT y c e)⟩
  .obtain⟨e,n,ne,nf,d⟩:=I.pin p hp;exact⟨(hs.2 p.1 ne).trans e,n,ne,nf,d⟩
 .have NP:X.fn x=true:=by
   rcases hf with z|z
   .exact z
   .rw[z] at hk;cases hk
  obtain⟨c,hc⟩:=I.ok.has x (.inl hk);obtain⟨w',z⟩:=I.cell x c hc;refine wpAny_storeName_cell I.ok.kind hk hc z (fun h' FT hs=>?_);obtain⟨oc,Ry,Tc⟩:=id z;refine h { s with heap:=h' } ⟨I.ok,I.os,I.bare,⟨fun b o e n hb hx=>?_,fun b o e n hb hx=>?_,I.base.free,fun b o e hx=>?_,I.base.lF,I.base.m8,I.base.m9⟩,⟨m,hn.sameBut hs (Ne.symm (IT x c hc)),fun j y v' e1 e2 e3=>?_⟩,fun y c' e=>?_,I.free,I.jD,fun p hp=>?_,zF ⟨oc,Ry,I.jD x c hc⟩ hs,by simpa using I.len⟩ ⟨c,hs,.inr hc⟩
  .exact(hs.2 b (aX (bV (aY e) (I.ok.M9 x c NP hc)))).trans (I.base.keep b o e n hb hx)
  .obtain⟨sl,e1⟩:=I.base.slot b o e n hb hx;exact⟨sl,(hs.2 b (aX (bV (aY e) (I.ok.M9 x c NP hc)))).trans e1⟩
  .obtain⟨o',e1⟩:=I.base.there b o e hx;exact⟨o',(hs.2 b (aX (bV (aY e) (I.ok.M9 x c NP hc)))).trans e1⟩
  .by_cases hj:j=i
   .subst hj;rw[hi] at e1;cases e1;rw[pF hiσ] at e2;cases e2;exact⟨u,r,.inr ⟨.inl hk,c,hc,FT⟩⟩
   .rw[tJ (Ne.symm hj)] at e2;obtain⟨u',r',q⟩:=hl j y v' e1 e2 e3;refine⟨u',r',?_⟩;rcases q with q|⟨k,c',e,z'⟩
    .exact .inl q
    .refine .inr ⟨k,c',e,z'.sameBut hs ?_⟩;rintro rfl;exact hj (vA hN e1 (I.ok.inj _ _ _ e hc ▸ hi))
  .by_cases Xf:c'=c
   .subst Xf;exact⟨_,FT⟩
   .obtain⟨w2,z2⟩:=I.cell y c' e;exact⟨w2,z2.sameBut hs Xf⟩
  .obtain⟨e,n,ne,nf,d⟩:=I.pin p hp;refine⟨(hs.2 p.1 ?_).trans e,n,ne,nf,d⟩;intro q;rw[q,Ry] at e;have q':oc=p.2:=bR e;exact d w' (by rw[<-q'];exact Tc)
theorem pZ(I:aK X ae σ H s)(hN:X.N.Nodup)(hi:X.N[i]?=some x)(hx:NL X.env.scope x)(r:be v u)(h:∀s',aK X ae (σ.set i (some v)) H s'->Q () s')(hf:X.fn x=true\/X.env.scope.names.lookup x=some .local:=by first|exact .inl rfl|exact .inr rfl|assumption):wpAny M A (storeName X.env x u) Q E s:=
 rP I hN hi hx r (fun s' I' _=>h s' I') hf
theorem aK.IY(I:aK X ae σ H s)(ho:s'.os=s.os)(u:Un (A5 X.stack) ch H H' s.heap s'.heap)(bA:iM X.prog X.w H' s'.heap)(hg:AllBare s'.gens)(Fw:∀b∈ch,(b∈X.ex\/X.s₀.heap.objs.size<=b)/\b≠X.env.locals/\(∀x c,X.env.cells.lookup x=some c->c≠b)/\∀p∈X.pn++ae,p.1≠b):aK X ae σ H' s':=by
 obtain⟨h',g',d',t',o'⟩:=s';have e:o'=s.os:=ho;subst e;exact I.call (g':=g') (t':=t') (d':=d') u bA hg Fw
end
abbrev XK:=Value->Option Addr->Hp->Prop
abbrev St:=List (Option V)
abbrev VK:=V->Hp->Prop
abbrev TE:=St->Hp->VK->Prop
abbrev TT:=St->Hp->(Bool->Hp->Prop)->Prop
abbrev TA:=St->Hp->(List V->Hp->Prop)->Prop
structure vB where
 nx:St->Hp->Prop
 rt:VK
 bk:St->Hp->Prop:=fun _ _=>False
 ct:St->Hp->Prop:=fun _ _=>False
abbrev TS:=vB->St->Hp->Prop
def EP(X:Cx)(ae:List (Addr×Obj))(σ:St)(Q:VK)(u:Value)(s':Shared):Prop:=∃v H',aK X ae σ H' s'/\be v u/\Q v H'
def TP(X:Cx)(ae:List (Addr×Obj))(σ:St)(Q:Bool->Hp->Prop)(b:Bool)(s':Shared):Prop:=∃H',aK X ae σ H' s'/\Q b H'
def AP(X:Cx)(ae:List (Addr×Obj))(σ:St)(Q:List V->Hp->Prop)(us:List Value)(s':Shared):Prop:=∃vs H',aK X ae σ H' s'/\aW vs us/\Q vs H'
def SP(X:Cx)(ae:List (Addr×Obj))(D:vB)(f:Flow)(s':Shared):Prop:=
 match f with
 |.next=>∃σ' H',aK X ae σ' H' s'/\D.nx σ' H'
 |.brk=>∃σ' H',aK X ae σ' H' s'/\D.bk σ' H'
 |.cont=>∃σ' H',aK X ae σ' H' s'/\D.ct σ' H'
 |.ret u=>∃v σ' H',aK X ae σ' H' s'/\be v u/\D.rt v H'
def PE(X:Cx)(e:Expr)(t:TE):Prop:=
 ∀ (ae:List (Addr×Obj)) (s:Shared) (σ:St) (H:Hp) (Q:VK),aK X ae σ H s->t σ H Q->wpAny (model X.prog X.w) X.A (eval e X.env) (EP X ae σ Q) X.xe s
def PT(X:Cx)(e:Expr)(t:TT):Prop:=
 ∀ (ae:List (Addr×Obj)) (s:Shared) (σ:St) (H:Hp) (Q:Bool->Hp->Prop),aK X ae σ H s->t σ H Q->wpAny (model X.prog X.w) X.A (isTrue e X.env (eval e X.env)) (TP X ae σ Q) X.xe s
def PW(X:Cx)(e:Expr)(t:TT):Prop:=
 ∀ (zG:Sem Value) (ae:List (Addr×Obj)) (s:Shared) (σ:St) (H:Hp) (Q:Bool->Hp->Prop),aK X ae σ H s->t σ H Q->wpAny (model X.prog X.w) X.A (isTrue e X.env zG) (TP X ae σ Q) X.xe s
theorem PW.pt(h:PW X e t):PT X e t:=h _
def PA(X:Cx)(es:List Expr)(t:TA):Prop:=
 ∀ (pos:Pos) (ae:List (Addr×Obj)) (s:Shared) (σ:St) (H:Hp) (Q:List V->Hp->Prop),aK X ae σ H s->t σ H Q->wpAny (model X.prog X.w) X.A (spliced (backTo pos (starEach es X.env))) (AP X ae σ Q) X.xe s
def PS(X:Cx)(st:Stmt)(t:TS):Prop:=
 ∀ (ae:List (Addr×Obj)) (s:Shared) (σ:St) (H:Hp) (D:vB),aK X ae σ H s->t D σ H->wpAny (model X.prog X.w) X.A (exec st X.env) (SP X ae D) X.xe s
def yj(X:Cx)(st:List Stmt)(t:TS):Prop:=
 ∀ (ae:List (Addr×Obj)) (s:Shared) (σ:St) (H:Hp) (D:vB),aK X ae σ H s->t D σ H->wpAny (model X.prog X.w) X.A (execs st X.env) (SP X ae D) X.xe s
theorem bZ(h:wpAny M A t Q E s)(hQ:∀a s,Q a s->Q' a s):wpAny M A t Q' E s:=h9 h hQ fun _ _ x=>x
section
variable {X:Cx}
def bb(i:Nat):TE:=fun σ H Q=>∃v,σ[i]?=some (some v)/\Q v H
def tC(v:V):TE:=fun _ H Q=>Q v H
theorem Ka(hN:X.N[i]?=some x)(hv:NK X.env.scope x)(hd:(x==("__debug__":Str))=false:=by decide)(rQ:(x==("__classdict__":Str))=false:=by decide):PE X (.Name x pos) (bb i):=by
 intro ae s σ H Q I h;obtain⟨v,e,h⟩:=h;obtain⟨m,hn,hl⟩:=I.loc;obtain⟨u,r,l⟩:=hl i x v hN e hv;have fin:EP X ae σ Q u s:=⟨v,H,I,r,h⟩
 rcases l with ⟨hk,hm⟩|⟨hk,c,hc,zH⟩
 .exact m5 (xR I.ok.kind hk hn hm fin) hd
 .rcases hk with hk|hk
  .exact m5 (wpAny_loadName_cell I.ok.kind hk hc zH fin) hd
  .exact m5 (xW I.ok.kind hk hc zH fin rQ) hd
theorem aq{i j pos}:PE X (.Constant (.int i) j pos) (tC (.int i)):=fun _ _ _ H _ I h=>wpAny_Constant_int ⟨.int i,H,I.tok _,⟨_,rfl⟩,h⟩
theorem fO{b j pos}:PE X (.Constant (.bool b) j pos) (tC (.bl b)):=fun _ _ _ H _ I h=>Constant_bool ⟨.bl b,H,I,rfl,h⟩
theorem ce{j pos}:PE X (.Constant .none j pos) (tC .bH):=fun _ _ _ H _ I h=>Constant_none ⟨.bH,H,I,rfl,h⟩
def Gl(X:Cx)(x:Str):Prop:=X.env.kindOf x=some .globalImplicit
theorem oU(I:aK X ae σ H s)(hg:Gl X x)(hm:X.mg x=some u)(h:Q u s)(hd:(x==("__debug__":Str))=false:=by decide):wpAny (model X.prog X.w) X.A (eval (.Name x pos) X.env) Q E s:=
 Calls.Name_function_global I.ok.kind hg (Calls.loadGlobal_global (by rw[I.ok.glob];exact I.mod.glob.keeps I.bk) hm h) hd
theorem jE(I:aK X ae σ H s)(hg:Gl X x)(hm:X.mg x=none)(hv:bootBuiltins x=some u)(h:Q u s)(hn:x≠"__name__":=by decide)(hd:(x==("__debug__":Str))=false:=by decide):wpAny (model X.prog X.w) X.A (eval (.Name x pos) X.env) Q E s:=by
 obtain⟨mb,h1,h2⟩:=I.mod.blt;exact Calls.Name_function_global I.ok.kind hg (Calls.loadGlobal_builtin (by rw[I.ok.glob];exact I.mod.glob.keeps I.bk) hm (by rw[I.ok.blt];exact h1.keeps I.bk) ((h2 x hn).trans hv) h) hd
theorem ue(hg:Gl X x)(hm:X.mg x=some u)(r:be v u)(hd:(x==("__debug__":Str))=false:=by decide):PE X (.Name x pos) (tC v):=
 fun _ _ _ H _ I h=>oU I hg hm ⟨v,H,I,r,h⟩ hd
theorem fE(hg:Gl X x)(hm:X.mg x=none)(hv:bootBuiltins x=some u)(r:be v u)(hn:x≠"__name__":=by decide)(hd:(x==("__debug__":Str))=false:=by decide):PE X (.Name x pos) (tC v):=
 fun _ _ _ H _ I h=>jE I hg hm hv ⟨v,H,I,r,h⟩ hn hd
variable {a b:Expr} {ta tb:TE} {pos:Pos}
def PC(X:Cx)(op:CmpOp)(a b:Expr)(t:TE):Prop:=
 ∀ (ae:List (Addr×Obj)) (s:Shared) (σ:St) (H:Hp) (Q:VK),aK X ae σ H s->t σ H Q->
  wpAny (model X.prog X.w) X.A (eval a X.env) (fun v s₁=>wpAny (model X.prog X.w) X.A (eval b X.env) (fun u s₂=>wpAny (model X.prog X.w) X.A (compareOp op v u) (EP X ae σ Q) X.xe s₂) X.xe s₁) X.xe s
theorem vC(b:Expr){op:CmpOp}(h:op≠.In)(h2:op≠.NotIn):behindInMarks op b=false:=by
 have e1:(op==CmpOp.In)=false:=by cases op <;> first|rfl|exact absurd rfl h
 have e2:(op==CmpOp.NotIn)=false:=by cases op <;> first|rfl|exact absurd rfl h2
 cases b <;> simp[behindInMarks,e1,e2]
def NQ(ta:TE):TE:=fun σ H Q=>ta σ H fun x H1=>Q (.bl (decide (x=.bH))) H1
def NR(ta:TE):TE:=fun σ H Q=>ta σ H fun x H1=>Q (.bl (!decide (x=.bH))) H1
theorem be.vD{x:V}{v:Value}(r:be x v):(v==Value.none)=decide (x=.bH):=by
 cases x with
 |bH=>cases r;rfl
 |bl _=>cases r;rfl
 |int _=>obtain⟨t,rfl⟩:=r;rfl
 |str _=>obtain⟨t,rfl⟩:=r;rfl
 |A3 _=>obtain⟨t,rfl⟩:=r;rfl
 |IR _=>obtain⟨t,rfl⟩:=r;rfl
 |ref _=>cases r;rfl
 |ty _=>cases r;rfl
theorem Kb{j oE}(ha:PE X a ta):PC X .Is a (.Constant .none j oE) (NQ ta):=by
 intro ae s σ H Q I h;refine bZ (ha ae s σ H _ I h) fun v s1 ⟨x,H1,I1,r1,q1⟩=>?_;exact Constant_none (is_none_gen ⟨.bl _,H1,I1,by rw[r1.vD];rfl,q1⟩)
theorem FU{j oE}(ha:PE X a ta):PC X .IsNot a (.Constant .none j oE) (NR ta):=by
 intro ae s σ H Q I h;refine bZ (ha ae s σ H _ I h) fun v s1 ⟨x,H1,I1,r1,q1⟩=>?_;exact Constant_none (isnot_none_gen ⟨.bl _,H1,I1,by rw[r1.vD];rfl,q1⟩)
def tB(t:TE):TT:=fun σ H Q=>t σ H fun x H1=>∃c,x=.bl c/\Q c H1
theorem Kc{op:CmpOp}{t:TE}(h:PC X op a b t)(h1:behindInMarks op b=false:=by first|exact vC _ (by decide) (by decide)|rfl):PE X (.Compare a [op] [b] pos) t:=fun ae s σ H Q I hw=>wpAny_Compare1 (h ae s σ H Q I hw) h1
theorem uf(h:PC X op a b t)(h1:behindInMarks op b=false:=by first|exact vC _ (by decide) (by decide)|rfl):PT X (.Compare a [op] [b] pos) (tB t):=by
 intro ae s σ H Q I hw;refine wpAny_isTrue_Compare1 (bZ (h ae s σ H _ I hw) fun v s1 h1=>bZ h1 fun u s2 h2=>bZ h2 fun c s3 ⟨x,H1,I1,r1,q1⟩=>?_) h1;obtain⟨d,rfl,q⟩:=q1;cases r1;exact mX ⟨H1,I1,q⟩
theorem dA(h:PE X e t)(he:∀zG,isTrue e X.env zG=(do let v <- zG;standAt e.pos;holding [v] (truthy v)):=by intro _;rfl):PT X e (tB t):=by
 intro ae s σ H Q I hw;refine isTrue_plain (bZ (h ae s σ H _ I hw) fun v s1 ⟨x,H1,I1,r1,q1⟩=>?_) (he _);obtain⟨d,rfl,q⟩:=q1;cases r1;exact mX ⟨H1,I1,q⟩
variable {tA Rz:TT} {oF:List Expr}
def NS(t u:TT):TT:=fun σ H Q=>t σ H fun c H1=>if c=true then u σ H1 Q else Q false H1
def Xg(t u:TT):TT:=fun σ H Q=>t σ H fun c H1=>if c=true then Q true H1 else u σ H1 Q
def Td(t:TT):TT:=fun σ H Q=>t σ H fun c H1=>Q (!c) H1
theorem ug(ha:PT X a tA):PW X (.BoolOp .And [a] pos) tA:=by
 intro wh ae s σ H Q I h;refine isTrue_and (bZ (ha ae s σ H Q I h) fun c s1 e=>?_);cases c with
 |true=>exact isTrue_and_nil e
 |false=>exact e
theorem lG(ha:PT X a tA):PW X (.BoolOp .Or [a] pos) tA:=by
 intro wh ae s σ H Q I h;refine isTrue_or (bZ (ha ae s σ H Q I h) fun c s1 e=>?_);cases c with
 |false=>exact isTrue_or_nil e
 |true=>exact e
theorem yk(ha:PT X a tA)(hb:PW X (.BoolOp .And (b::oF) pos) Rz):PW X (.BoolOp .And (a::b::oF) pos) (NS tA Rz):=by
 intro wh ae s σ H Q I h;refine isTrue_and (bZ (ha ae s σ H _ I h) fun c s1 ⟨H1,I1,q1⟩=>?_);cases c with
 |true=>exact hb wh ae s1 σ H1 Q I1 q1
 |false=>exact⟨H1,I1,q1⟩
theorem n9(ha:PT X a tA)(hb:PW X (.BoolOp .Or (b::oF) pos) Rz):PW X (.BoolOp .Or (a::b::oF) pos) (Xg tA Rz):=by
 intro wh ae s σ H Q I h;refine isTrue_or (bZ (ha ae s σ H _ I h) fun c s1 ⟨H1,I1,q1⟩=>?_);cases c with
 |true=>exact⟨H1,I1,q1⟩
 |false=>exact hb wh ae s1 σ H1 Q I1 q1
theorem dU(ha:PT X a tA):PT X (.UnaryOp .Not a pos) (Td tA):=by
 intro ae s σ H Q I h;exact isTrue_not (ha ae s σ H (fun c H1=>Q (!c) H1) I h)
def IZ(ta tb:TE):TE:=fun σ H Q=>ta σ H fun x H1=>∃c,x=.bl c/\if c=true then tb σ H1 Q else Q (.bl false) H1
def I0(ta:TE):TE:=fun σ H Q=>ta σ H fun x H1=>∃c,x=.bl c/\Q (.bl (!c)) H1
theorem fX{op}(h:PE X a t):PE X (.BoolOp op [a] pos) t:=fun ae s σ H Q I hw=>BoolOp_one (h ae s σ H Q I hw)
theorem fc(ha:PE X a ta)(hb:PE X (.BoolOp .And (b::oF) pos) tb):PE X (.BoolOp .And (a::b::oF) pos) (IZ ta tb):=by
 intro ae s σ H Q I h;refine BoolOp_and (bZ (ha ae s σ H _ I h) fun v s1 ⟨x,H1,I1,r1,q1⟩=>?_);obtain⟨c,rfl,q1⟩:=q1;cases r1;refine mX ?_;cases c with
 |true=>exact hb ae s1 σ H1 Q I1 q1
 |false=>exact⟨.bl false,H1,I1,rfl,q1⟩
theorem ym(ha:PE X a ta):PE X (.UnaryOp .Not a pos) (I0 ta):=by
 intro ae s σ H Q I h;refine UnaryOp_ (bZ (ha ae s σ H _ I h) fun v s1 ⟨x,H1,I1,r1,q1⟩=>?_);obtain⟨c,rfl,q1⟩:=q1;cases r1;exact not_of (mX ⟨.bl (!c),H1,I1,rfl,q1⟩)
def Xh(t:TT)(ta tb:TE):TE:=fun σ H Q=>t σ H fun c H1=>if c=true then ta σ H1 Q else tb σ H1 Q
theorem vE(hc:PT X c tA)(ha:PE X a ta)(hb:PE X b tb):PE X (.IfExp c a b pos) (Xh tA ta tb):=by
 intro ae s σ H Q I h;refine wpAny_IfExp (bZ (hc ae s σ H _ I h) fun d s1 ⟨H1,I1,q1⟩=>?_);cases d with
 |true=>exact ha ae s1 σ H1 Q I1 q1
 |false=>exact hb ae s1 σ H1 Q I1 q1
end
def aU(K:PySem.W.Frag)(H:Hp)(a:Addr)(xs:List V):Prop:=
 Rd H a (.lst xs)\/
  ∃ (o:Obj) (its:Array Value) (n:Nat),K.lookup a=some o/\o.cls=.type "list"/\o.dict=none/\o.data=.seq its n/\its.size<=sizeLine/\aW xs its.toList
def cx(K:PySem.W.Frag)(H:Hp)(a:Addr)(xs:List V):Prop:=
 Rd H a (.tup xs)\/
  ∃ (o:Obj) (its:Array Value) (n:Nat),K.lookup a=some o/\o.cls=.type "tuple"/\o.data=.seq its n/\its.size<=sizeLine/\aW xs its.toList
def Te:Value->Option V
 |.none=>some .bH
 |.bool b=>some (.bl b)
 |.int i _=>some (.int i)
 |.str x _=>some (.str x)
 |.bytes b _=>some (.A3 b)
 |.float b _=>some (.IR b)
 |.ref a=>some (.ref a)
 |.type n=>some (.ty n)
 |_=>none
theorem be.abs(r:be x u):Te u=some x:=by
 cases x with
 |bH=>cases r;rfl
 |bl _=>cases r;rfl
 |int _=>obtain⟨t,rfl⟩:=r;rfl
 |str _=>obtain⟨t,rfl⟩:=r;rfl
 |A3 _=>obtain⟨t,rfl⟩:=r;rfl
 |IR _=>obtain⟨t,rfl⟩:=r;rfl
 |ref _=>cases r;rfl
 |ty _=>cases r;rfl
theorem be.inj(r:be x u)(q:be y u):x=y:=bR (r.abs.symm.trans q.abs)
theorem aW.inj:∀ {xs ys:List V} {us:List Value},aW xs us->aW ys us->xs=ys
 |_,_,_,.nil,.nil=>rfl
 |_,_,_,.cons r t,.cons r' t'=>by rw[r.inj r',aW.inj t t']
section
variable {X:Cx} {ae:List (Addr×Obj)} {σ:St} {H:Hp} {s:Shared} {a:Addr} {xs ys:List V}
theorem aU.of{K:PySem.W.Frag}(h:H a=some (.lst xs)):aU K H a xs:=.inl (.inl h)
theorem cx.of{K:PySem.W.Frag}(h:H a=some (.tup xs)):cx K H a xs:=.inl (.inl h)
theorem aK.list(I:aK X ae σ H s)(h:aU X.K H a xs):∃its:List Value,aW xs its/\PlainL s.heap a its.toArray/\xs.length<=sizeLine:=by
 rcases h with h|⟨o,its,n,hk,hc,hd,hs,hz,r⟩
 .obtain⟨z,its,n,r,e⟩:=h.ok I.bA;exact⟨its,r,⟨_,n,e,rfl,rfl,rfl⟩,z⟩
 .refine⟨its.toList,r,⟨o,n,I.ng a o hk,hc,hd,by simpa using hs⟩,?_⟩;have e:=r.length;simp only[im] at e;lia
theorem aK.tuple(I:aK X ae σ H s)(h:cx X.K H a xs):∃its:List Value,aW xs its/\IsTup s.heap a its.toArray/\xs.length<=sizeLine:=by
 rcases h with h|⟨o,its,n,hk,hc,hs,hz,r⟩
 .obtain⟨z,its,r,p⟩:=h.ok I.bA;exact⟨its,r,p.tup,z⟩
 .refine⟨its.toList,r,⟨o,I.ng a o hk,hc,n,by simpa using hs⟩,?_⟩;have e:=r.length;simp only[im] at e;lia
theorem aK.vF(I:aK X ae σ H s)(h:aU X.K H a xs)(h':aU X.K H a ys):xs=ys:=by
 obtain⟨its,r,⟨o,n,e,_,_,d⟩,_⟩:=I.list h;obtain⟨its',r',⟨o',n',e',_,_,d'⟩,_⟩:=I.list h';rw[e] at e';cases e';rw[d] at d';injection d' with d1 _;have:its=its':=by simpa using congrArg Array.toList d1
 subst this;exact r.inj r'
theorem aK.rR(I:aK X ae σ H s)(h:cx X.K H a xs)(h':cx X.K H a ys):xs=ys:=by
 obtain⟨its,r,⟨o,e,_,n,d⟩,_⟩:=I.tuple h;obtain⟨its',r',⟨o',e',_,n',d'⟩,_⟩:=I.tuple h';rw[e] at e';cases e';rw[d] at d';injection d' with d1 _;have:its=its':=by simpa using congrArg Array.toList d1
 subst this;exact r.inj r'
end
abbrev Cx.rq(X:Cx)(E:Value->Shared->Prop):Cx:={ X with xe:=E }
abbrev Cx.I_(X:Cx):Cx:=X.rq fun _ _=>False
theorem Cx.Ok.rq{X:Cx}(ok:X.Ok)(E:Value->Shared->Prop):(X.rq E).Ok:=
 ⟨ok.mod,ok.kind,ok.glob,ok.blt,ok.above,ok.inj,ok.has,ok.M9,ok.hd,ok.frames,ok.M_,ok.S8,ok.bs,ok.Cg,ok.CJ,ok.FS,ok.m_,ok.J2⟩
theorem Cx.Ok.jF{X:Cx}{E:Value->Shared->Prop}(ok:(X.rq E).Ok):X.Ok:=
 ⟨ok.mod,ok.kind,ok.glob,ok.blt,ok.above,ok.inj,ok.has,ok.M9,ok.hd,ok.frames,ok.M_,ok.S8,ok.bs,ok.Cg,ok.CJ,ok.FS,ok.m_,ok.J2⟩
section
variable {X:Cx} {ae:List (Addr×Obj)} {σ:St} {H:Hp} {s:Shared} {E:Value->Shared->Prop}
theorem aK.rq(I:aK X ae σ H s)(E:Value->Shared->Prop):aK (X.rq E) ae σ H s:=⟨I.ok.rq E,I.os,I.bare,I.base,I.loc,I.cell,I.free,I.jD,I.pin,I.bA,I.len⟩
theorem aK.jF(I:aK (X.rq E) ae σ H s):aK X ae σ H s:=⟨I.ok.jF,I.os,I.bare,I.base,I.loc,I.cell,I.free,I.jD,I.pin,I.bA,I.len⟩
theorem SP.jF(h:SP (X.rq E) ae D f s'):SP X ae D f s':=by
 cases f with
 |next=>obtain⟨σ',H',I,q⟩:=h;exact⟨σ',H',I.jF,q⟩
 |brk=>obtain⟨σ',H',I,q⟩:=h;exact⟨σ',H',I.jF,q⟩
 |cont=>obtain⟨σ',H',I,q⟩:=h;exact⟨σ',H',I.jF,q⟩
 |ret u=>obtain⟨v,σ',H',I,r,q⟩:=h;exact⟨v,σ',H',I.jF,r,q⟩
theorem yj.I_{st:List Stmt}{t:TS}(h:yj X.I_ st t):yj X st t:=fun ae s σ H D I hw=>
 h9 (h ae s σ H D (I.rq _) hw) (fun _ _ q=>q.jF) fun _ _ z=>False.elim z
end
section
variable {X:Cx} {st:Stmt} {oF:List Stmt} {t u:TS} {e:Expr} {te:TE} {pos:Pos}
def NU:TS:=fun D σ H=>D.nx σ H
def Tf(t u:TS):TS:=fun D σ H=>t { D with nx:=u D } σ H
theorem aR:yj X [] NU:=fun _ _ σ H _ I h=>tZ ⟨σ,H,I,h⟩
theorem ah(h1:PS X st t)(h2:yj X oF u):yj X (st::oF) (Tf t u):=by
 intro ae s σ H D I h;refine wpAny_execs_cons (bZ (h1 ae s σ H { D with nx:=u D } I h) fun f s1 q=>?_);cases f with
 |next=>
  obtain⟨σ',H',I',q⟩:=q;exact h2 ae s1 σ' H' D I' q
 |ret v=>exact q
 |brk=>exact q
 |cont=>exact q
theorem al(h1:PS X st t):yj X [st] t:=by
 intro ae s σ H D I h;refine wpAny_execs_cons (bZ (h1 ae s σ H D I h) fun f s1 q=>?_);cases f with
 |next=>exact tZ q
 |ret v=>exact q
 |brk=>exact q
 |cont=>exact q
theorem aK.quiet(I:aK X ae σ H s):interactive X.env=false:=by simp[interactive,I.ok.kind]
def NW(te:TE):TS:=fun D σ H=>te σ H fun _ H1=>D.nx σ H1
theorem cP(he:PE X e te)(hs:swapsWith e none pos.line X.env=pure false:=by rfl):PS X (.Expr e pos) (NW te):=by
 intro ae s σ H D I h;exact wpAny_Expr_any (bZ (he ae s σ H _ I h) fun v s1 ⟨x,H1,I1,r1,q1⟩=>⟨σ,H1,I1,q1⟩) I.quiet hs
def Tg(te:TE):TS:=fun D σ H=>te σ H D.rt
theorem aF(he:PE X e te):PS X (.Return (some e) pos) (Tg te):=by
 intro ae s σ H D I h;exact wpAny_Return_some (bZ (he ae s σ H _ I h) fun v s1 ⟨x,H1,I1,r1,q1⟩=>⟨x,σ,H1,I1,r1,q1⟩)
def Th(c:TT)(t u:TS):TS:=fun D σ H=>c σ H fun b H1=>if b=true then t D σ H1 else u D σ H1
theorem bx(hc:PT X c tc)(ha:yj X a t)(hb:yj X b u):PS X (.If c a b pos) (Th tc t u):=by
 intro ae s σ H D I h;refine wpAny_If (bZ (hc ae s σ H _ I h) fun d s1 ⟨H1,I1,q1⟩=>?_);cases d with
 |true=>exact ha ae s1 σ H1 D I1 q1
 |false=>exact hb ae s1 σ H1 D I1 q1
def Kd:TS:=fun _ _ _=>False
theorem dJ:yj X sts Kd:=fun _ _ _ _ _ _ h=>h.elim
end
abbrev TG:=V->St->Hp->(St->Hp->Prop)->Prop
abbrev NX:=List V->St->Hp->(St->Hp->Prop)->Prop
def PG(X:Cx)(Ke:Expr)(t:TG):Prop:=
 ∀ (ae:List (Addr×Obj)) (s:Shared) (σ:St) (H:Hp) (v:V) (u:Value) (Q:St->Hp->Prop),aK X ae σ H s->be v u->t v σ H Q->
  wpAny (model X.prog X.w) X.A (assign Ke X.env u) (fun _ s'=>∃σ' H',aK X ae σ' H' s'/\Q σ' H') X.xe s
def RA(X:Cx)(ts:List Expr)(t:NX):Prop:=
 ∀ (ae:List (Addr×Obj)) (s:Shared) (σ:St) (H:Hp) (vs:List V) (us:List Value) (Q:St->Hp->Prop),aK X ae σ H s->aW vs us->t vs σ H Q->
  wpAny (model X.prog X.w) X.A (assignInOrder ((assignEach ts X.env).map (·.2)) us) (fun _ s'=>∃σ' H',aK X ae σ' H' s'/\Q σ' H') X.xe s
abbrev NY:=V->V->V->Hp->(Hp->Prop)->Prop
def NZ(X:Cx)(t:NY):Prop:=
 ∀ (ae:List (Addr×Obj)) (s:Shared) (σ:St) (H:Hp) (o i v:V) (ov iv u:Value) (Q:Hp->Prop),aK X ae σ H s->be o ov->be i iv->be v u->t o i v H Q->
  wpAny (model X.prog X.w) X.A (setItem ov iv u) (fun _ s'=>∃H',aK X ae σ H' s'/\Q H') X.xe s
abbrev Ti:=V->V->Hp->VK->Prop
def Xi(X:Cx)(op:Operator)(t:Ti):Prop:=
 ∀ (ae:List (Addr×Obj)) (s:Shared) (σ:St) (H:Hp) (x y:V) (v u:Value) (Q:VK),aK X ae σ H s->be x v->be y u->t x y H Q->
  wpAny (model X.prog X.w) X.A (inplaceOp op v u) (EP X ae σ Q) X.xe s
section
variable {X:Cx} {pos:Pos}
def bC(i:Nat):TG:=fun v σ H Q=>Q (σ.set i (some v)) H
theorem aB(hN:X.N.Nodup)(hi:X.N[i]?=some x)(hx:NL X.env.scope x)(hf:X.fn x=true\/X.env.scope.names.lookup x=some .local:=by first|exact .inl rfl|exact .inr rfl|assumption):PG X (.Name x pos) (bC i):=by
 intro ae s σ H v u Q I r h;exact wpAny_assign_Name (pZ I hN hi hx r (fun s' I'=>⟨_,H,I',h⟩) hf)
def uh:NX:=fun vs σ H Q=>vs=[]/\Q σ H
def fP(t:TG)(u:NX):NX:=fun vs σ H Q=>∃v r,vs=v::r/\t v σ H fun σ' H'=>u r σ' H' Q
theorem d9:RA X [] uh:=by
 intro ae s σ H vs us Q I r h;obtain⟨e,h⟩:=h;subst e;cases r;exact assignInOrder_nil ⟨σ,H,I,h⟩
theorem a9(h1:PG X e t)(h2:RA X es u)(hs:(assignEach (e::es) X.env).map (·.2)=assign e X.env::(assignEach es X.env).map (·.2):=by rfl):RA X (e::es) (fP t u):=by
 intro ae s σ H vs us Q I r h;obtain⟨v,vr,e1,h⟩:=h;subst e1;cases r with
 |cons r rr=>
  rw[hs];refine assignInOrder_cons (bZ (h1 ae s σ H _ _ _ I r h) fun _ s1 ⟨σ1,H1,I1,q1⟩=>?_);exact h2 ae s1 σ1 H1 _ _ Q I1 rr q1
def ui(K:PySem.W.Frag)(n:Nat)(t:NX):TG:=fun v σ H Q=>∃a xs,v=.ref a/\cx K H a xs/\xs.length=n/\t xs σ H Q
theorem fA(hc:X.calm=true)(h:RA X es t)(hn:(assignEach es X.env).length=n:=by rfl)(nq:(assignEach es X.env).findIdx? (·.1)=none:=by rfl):PG X (.Tuple es k pos) (ui X.K n t):=by
 intro ae s σ H v u Q I r hw;obtain⟨a,xs,e1,hq,hl,hw⟩:=hw;subst e1;cases r;obtain⟨its,rv,ht,hz⟩:=I.tuple hq;refine assign_Tuple_tuple (I.ok.hd hc) ht (by simp[hn,<-hl,rv.length]) nq fun h' hx=>?_;have I1:aK X ae σ H { s with heap:=h' }:=I.kept (t':=s.toks) fun b o e=>hx b o (aX (aY e)) e;exact h ae _ σ H xs _ Q I1 (by simpa using rv) hw
def Tj(to ti:TE)(t:NY):TG:=fun v σ H Q=>to σ H fun o H1=>ti σ H1 fun i H2=>t o i v H2 fun H3=>Q σ H3
theorem nr(ho:PE X o to)(hi:PE X i ti)(hs:NZ X t)(ha:∀v,assign (.Subscript o i pos) X.env v=(do
   let ov <- holding [v] (eval o X.env)
   let iv <- holding [v,ov] (eval i X.env)
   standAt pos
   holding [v,ov,iv] (setItem ov iv v)
   release [v,ov,iv] []):=by intro _;rfl):PG X (.Subscript o i pos) (Tj to ti t):=by
 intro ae s σ H v u Q I r h;rw[ha];refine aI (ju (bZ (ho ae s σ H _ I h) fun ov s1 ⟨x,H1,I1,r1,q1⟩=>?_));refine aI (ju (bZ (hi ae s1 σ H1 _ I1 q1) fun iv s2 ⟨y,H2,I2,r2,q2⟩=>?_));refine aI (pV (aI (ju (bZ (hs ae s2 σ H2 x y v ov iv u _ I2 r1 r2 r q2) fun _ s3 ⟨H3,I3,q3⟩=>?_))));exact wpAny_release ⟨σ,H3,I3,q3⟩
def Kg(te:TE)(g:TG):TS:=fun D σ H=>te σ H fun x H1=>g x σ H1 D.nx
theorem iO(he:PE X e te)(hg:PG X tg g)(hs:swapsWithSole [tg] e pos.line X.env=pure false:=by rfl)(hw:swappedStores [tg] e X.env=pure none:=by rfl)(h1:(assignEach [tg] X.env).map (·.2)=[assign tg X.env]:=by rfl):PS X (.Assign [tg] e pos) (Kg te g):=by
 intro ae s σ H D I h;refine wpAny_Assign_stores (bZ (he ae s σ H _ I h) fun v s1 ⟨x,H1,I1,r1,q1⟩=>?_) hs hw;rw[h1];exact bZ (hg ae s1 σ H1 x v _ I1 r1 q1) fun _ s2 q=>q
theorem aP(hN:X.N.Nodup)(hi:X.N[i]?=some x)(hx:NL X.env.scope x)(he:PE X e te)(hs:swapsWith e (some (.Name x oE)) pos.line X.env=pure false:=by rfl)(hf:X.fn x=true\/X.env.scope.names.lookup x=some .local:=by first|exact .inl rfl|exact .inr rfl|assumption):
  PS X (.Assign [.Name x oE] e pos) (Kg te (bC i)):=by
 intro ae s σ H D I h;refine wpAny_Assign_Name (bZ (he ae s σ H _ I h) fun v s1 ⟨y,H1,I1,r1,q1⟩=>?_) hs;exact pZ I1 hN hi hx r1 (fun s2 I2=>⟨_,H1,I2,q1⟩) hf
def Tl(i:Nat)(te:TE)(ti:Ti):TS:=fun D σ H=>∃x,σ[i]?=some (some x)/\te σ H fun y H1=>ti x y H1 fun z H2=>D.nx (σ.set i (some z)) H2
theorem CL(hN:X.N.Nodup)(hi:X.N[i]?=some x)(hx:NL X.env.scope x)(he:PE X e te)(ho:Xi X op ti)(hf:X.fn x=true\/X.env.scope.names.lookup x=some .local:=by first|exact .inl rfl|exact .inr rfl|assumption):
  PS X (.AugAssign (.Name x oE) op e pos) (Tl i te ti):=by
 intro ae s σ H D I h;obtain⟨v,e1,h⟩:=h;obtain⟨m,hn,hl⟩:=I.loc;have Tn:NK X.env.scope x:=by rcases hx with k|k;exact .inl k;exact .inr (.inl k)
 obtain⟨u,r,l⟩:=hl i x v hi e1 Tn;refine wpAny_AugAssign_Name ?_;have go:wpAny (model X.prog X.w) X.A (eval e X.env) (fun w s₂=>wpAny (model X.prog X.w) X.A (inplaceOp op u w) (fun r s₃=>wpAny (model X.prog X.w) X.A (storeName X.env x r) (fun _=>SP X ae D .next) X.xe s₃) X.xe s₂) X.xe s:=by
  refine bZ (he ae s σ H _ I h) fun w s1 ⟨y,H1,I1,r1,q1⟩=>?_;refine bZ (ho ae s1 σ H1 v y u w _ I1 r r1 q1) fun z s2 ⟨zv,H2,I2,r2,q2⟩=>?_;exact pZ I2 hN hi hx r2 (fun s3 I3=>⟨_,H2,I3,q2⟩) hf
 rcases l with ⟨hk,hm⟩|⟨hk,c,hc,zH⟩
 .exact xR I.ok.kind hk hn hm go
 .rcases hk with hk|hk
  .exact wpAny_loadName_cell I.ok.kind hk hc zH go
  .rcases hx with k|k
   .have:X.env.scope.names.lookup x=some .free:=hk;rw[k] at this;cases this
   .have:X.env.scope.names.lookup x=some .free:=hk;rw[k] at this;cases this
def Zc(f:Int->Int->Int):Ti:=fun x y H Q=>∃i j,x=.int i/\y=.int j/\Q (.int (f i j)) H
theorem CM:Xi X .Add (Zc fun i j=>i+j):=by
 intro ae s σ H x y v u Q I r1 r2 h;obtain⟨i,j,e1,e2,q⟩:=h;subst e1;subst e2;obtain⟨t,rfl⟩:=r1;obtain⟨t',rfl⟩:=r2;exact iadd_int ⟨.int _,H,I.tok _,⟨_,rfl⟩,q⟩
def CN(c:TT)(tb:TS):TS:=fun D σ H=>∃W:Nat->St->Hp->Prop,(∃m,W m σ H)/\∀m σ H,W m σ H->
 c σ H fun b H1=>if b=true then ∃N:St->Hp->Prop,(∀σ' H',N σ' H'->∃m',m'<m/\W m' σ' H')/\tb { D with nx:=N,ct:=N,bk:=D.nx } σ H1 else D.nx σ H1
theorem p9(hp:PassesOwn (model X.prog X.w) X.A X.env X.xe)(hc:PT X c tc)(hb:yj X body tb):PS X (.While c body [] pos) (CN tc tb):=by
 intro ae s σ H D I h;obtain⟨W,⟨m0,w0⟩,CO⟩:=h;refine wpAny_While (codeAny_whileLoop (fun n s'=>∃σ' H',aK X ae σ' H' s'/\W n σ' H') ?_ m0 ⟨σ,H,I,w0⟩);rintro n s1 ⟨σ1,H1,I1,w1⟩;refine lm hp (bZ (hc ae s1 σ1 H1 _ I1 (CO n σ1 H1 w1)) fun b s2 ⟨H2,I2,q2⟩=>?_);cases b with
 |true=>
  obtain⟨N,hN,q2⟩:=q2;rw[ao rfl];refine lm hp (bZ (hb ae s2 σ1 H2 _ I2 q2) fun f s3 q3=>?_);cases f with
  |next=>
   obtain⟨σ3,H3,I3,n3⟩:=q3;obtain⟨m',hm,w3⟩:=hN σ3 H3 n3;exact⟨m',hm,σ3,H3,I3,w3⟩
  |cont=>
   obtain⟨σ3,H3,I3,n3⟩:=q3;obtain⟨m',hm,w3⟩:=hN σ3 H3 n3;exact⟨m',hm,σ3,H3,I3,w3⟩
  |brk=>exact q3
  |ret v=>exact q3
 |false=>
  rw[ap cj];exact tZ ⟨σ1,H2,I2,q2⟩
end
structure It where
 go:Nat->Hp->Prop
 Ja:Nat->Hp->V->Hp->Prop
 stop:Nat->Hp->Prop
 RB:Around->Hp->Prop
def kB(X:Cx)(ae:List (Addr×Obj))(H:Hp)(b:Addr):Prop:=
 H b=none/\b≠X.env.locals/\b∉X.fs/\(b∈X.ex\/X.s₀.heap.objs.size<=b)/\(∀x c,X.env.cells.lookup x=some c->c≠b)/\∀p∈X.pn++ae,p.1≠b
theorem aK.vG(I:aK X ae σ H s)(hb:s.heap.objs.size<=b)(hn:H' b=none):kB X ae H' b:=by
 refine⟨hn,jA (bV I.lt hb),I.S_ hb,.inr (bB I.sz hb),fun x c e z=>?_,fun p hp z=>?_⟩
 .obtain⟨v,q⟩:=I.cell x c e;exact absurd (bV q.lt (by rw[z];exact hb)) (jg _)
 .exact absurd (bV (aY (I.pin p hp).1) (by rw[z];exact hb)) (jg _)
structure uj(P:Program)(w:World)(K:PySem.W.Frag)(tg:Expr)(J:It)(fp:List Addr)(it:Addr)(tn:Nat->Heap->Prop):Prop where
 mem:it∈fp
 obj:∀i h,tn i h->∀b∈fp,∃o,h.get? b=some o/\∀v,o.data≠.cell v
 keep:∀i h h',tn i h->(∀b∈fp,∀o,h.get? b=some o->h'.get? b=some o)->tn i h'
 item:∀ (X:Cx),X.prog=P->X.w=w->X.K=K->∀ (i:Nat) (ae:List (Addr×Obj)) (s:Shared) (σ:St) (H:Hp) (E:Value->Shared->Prop),(X.calm=true\/J.RB X.A H)->aK X ae σ H s->(∀b∈fp,kB X ae H b)->tn i s.heap->J.go i H->
  wpAny (model P w) X.A (pyNext (.ref it)) (fun r s1=>∃u,r=some u/\
   wpAny (model P w) X.A (letOwnedTupleGo tg (.ref it) u) (fun _ s2=>∃x H',aK X ae σ H' s2/\be x u/\J.Ja i H x H'/\tn (i+1) s2.heap/\∀b∈fp,H' b=none) E s1) E s
 done:∀ (X:Cx),X.prog=P->X.w=w->X.K=K->∀ (i:Nat) (ae:List (Addr×Obj)) (s:Shared) (σ:St) (H:Hp) (E:Value->Shared->Prop),(X.calm=true\/J.RB X.A H)->aK X ae σ H s->(∀b∈fp,kB X ae H b)->tn i s.heap->J.stop i H->
  wpAny (model P w) X.A (pyNext (.ref it)) (fun r s1=>r=none/\aK X ae σ H s1) E s
 self:∀ (A:Around) (i:Nat) (s:Shared) (Q:Value->Shared->Prop) (E:Value->Shared->Prop),tn i s.heap->Q (.ref it) s->wpAny (model P w) A (pyIter (.ref it)) Q E s
abbrev TI:=St->Hp->(It->Hp->Prop)->Prop
def Xj(X:Cx)(ae:List (Addr×Obj))(σ:St)(tg:Expr)(R:It->Hp->Prop)(RD:Value)(s2:Shared):Prop:=
 ∃ (it:Addr) (fp:List Addr) (tn:Nat->Heap->Prop) (J:It) (H':Hp),RD=.ref it/\aK X ae σ H' s2/\uj X.prog X.w X.K tg J fp it tn/\tn 0 s2.heap/\(∀b∈fp,kB X ae H' b)/\R J H'
def PI(X:Cx)(tg jj:Expr)(wi:TI):Prop:=
 ∀ (ae:List (Addr×Obj)) (s:Shared) (σ:St) (H:Hp) (R:It->Hp->Prop),aK X ae σ H s->wi σ H R->
  wpAny (model X.prog X.w) X.A (eval jj X.env) (fun v s1=>wpAny (model X.prog X.w) X.A (pyIter v) (Xj X ae σ tg R) X.xe s1) X.xe s
theorem zI(ho:s.heap.get? it=some o)(hc:o.cls=.type n)(hd:o.data=.fields vs)(hn:["enumerate","zip","dict_itemiterator","dict_reverseitemiterator","odict_iterator","itertools.zip_longest","itertools.pairwise"].contains n=false)(hQ:Q () s):wpAny M A (letOwnedTupleGo tg (.ref it) u) Q E s:=by
 unfold letOwnedTupleGo;cases tg <;> first
  |exact wpAny_pure hQ
  |(cases u <;> first
    |exact wpAny_pure hQ
    |(refine aI (wpAny_load ho ?_);rw[hc,hd];show wpAny M A (if (["enumerate","zip","dict_itemiterator","dict_reverseitemiterator","odict_iterator","itertools.zip_longest","itertools.pairwise"].contains n&&vs[0]?==some (rawInt _))=true then _ else _) Q E s;rw[ap (by intro h;rw[hn,m3] at h;cases h)];exact wpAny_pure hQ))
def CP(K:PySem.W.Frag)(a:Addr):It:=
 ⟨fun i H=>∃xs x,aU K H a xs/\xs[i]?=some x,fun i H x H'=>H'=H/\∀xs,aU K H a xs->xs[i]?=some x,fun i H=>∃xs,aU K H a xs/\xs.length<=i,fun _ _=>False⟩
def Tp(K:PySem.W.Frag)(a:Addr):It:=
 ⟨fun i H=>∃xs x,cx K H a xs/\xs[i]?=some x,fun i H x H'=>H'=H/\∀xs,cx K H a xs->xs[i]?=some x,fun i H=>∃xs,cx K H a xs/\xs.length<=i,fun _ _=>False⟩
def Jb(lo:Int)(n:Nat):It:=⟨fun i _=>i<n,fun i H x H'=>H'=H/\x=.int (lo+i),fun i _=>n<=i,fun A H=>A.handled=none\/∃p φ,A.handled=some (.ref p)/\H p=some (.ext φ)/\∀h,φ h->zD p h⟩
theorem A6{P:Program}{w:World}{K:PySem.W.Frag}{tg:Expr}(a it:Addr):uj P w K tg (CP K a) [it] it (fun i h=>h.IsListIter it a i) where
 mem:=by simp
 obj:=fun i h st b hb=>by
  have e:b=it:=by simpa using hb
  subst e;obtain⟨o,e,c,d⟩:=st;exact⟨o,e,fun v z=>by rw[d] at z;cases z⟩
 keep:=fun i h h' st k=>st.at fun o e=>k it (by simp) o e
 item:=by
  intro X hP hw hK i ae s σ H E uk I hf st hg;subst hP hw hK;have hc:X.calm=true:=uk.elim id fun z=>(show False from z).elim;obtain⟨xs,x,hq,hx⟩:=hg;obtain⟨its,rv,p,hz⟩:=I.list hq;obtain⟨u,hu,ru⟩:=rv.get hx;obtain⟨f0,f1,f2,f3,f4,f5⟩:=hf it (by simp);refine xK st p.isList (x:=u) (by simpa using hu) fun h' aT sb=>?_;have I1:aK X ae σ H { s with heap:=h' }:=I.turned (t':=s.toks) (fun b o hb e=>(sb.2 b hb).trans e) f0 f1 f3 f4 f5;obtain⟨o,e,c,d⟩:=id aT;exact⟨u,rfl,zI (s:={ s with heap:=h' }) e c d (by decide) ⟨x,H,I1,ru,⟨rfl,fun ys hy=>by rw[I.vF hy hq];exact hx⟩,aT,fun b hb=>(hf b hb).1⟩⟩
 done:=by
  intro X hP hw hK i ae s σ H E uk I hf st hg;subst hP hw hK;have hc:X.calm=true:=uk.elim id fun z=>(show False from z).elim;obtain⟨xs,hq,hx⟩:=hg;obtain⟨its,rv,p,hz⟩:=I.list hq;obtain⟨f0,f1,f2,f3,f4,f5⟩:=hf it (by simp);have hl:=rv.length;exact xP (I.ok.hd hc) st p.isList (by simp;lia) fun h' eb=>⟨rfl,I.turned (t':=s.toks) (fun b o hb e=>eb b o hb e) f0 f1 f3 f4 f5⟩
 self:=fun _ _ _ _ _ st h=>wpAny_pyIter_listiter st h
theorem yn{P:Program}{w:World}{K:PySem.W.Frag}{tg:Expr}(a it:Addr):uj P w K tg (Tp K a) [it] it (fun i h=>h.IsTupleIter it a i) where
 mem:=by simp
 obj:=fun i h st b hb=>by
  have e:b=it:=by simpa using hb
  subst e;obtain⟨o,e,c,d⟩:=st;exact⟨o,e,fun v z=>by rw[d] at z;cases z⟩
 keep:=fun i h h' st k=>st.at fun o e=>k it (by simp) o e
 item:=by
  intro X hP hw hK i ae s σ H E uk I hf st hg;subst hP hw hK;have hc:X.calm=true:=uk.elim id fun z=>(show False from z).elim;obtain⟨xs,x,hq,hx⟩:=hg;obtain⟨its,rv,p,hz⟩:=I.tuple hq;obtain⟨u,hu,ru⟩:=rv.get hx;obtain⟨f0,f1,f2,f3,f4,f5⟩:=hf it (by simp);refine wpAny_pyNext_tuple_item st (show s.heap.IsTuple a its.toArray from p) (x:=u) (by simpa using hu) fun h' aT sb=>?_;have I1:aK X ae σ H { s with heap:=h' }:=I.turned (t':=s.toks) (fun b o hb e=>(sb.2 b hb).trans e) f0 f1 f3 f4 f5;obtain⟨o,e,c,d⟩:=id aT;exact⟨u,rfl,zI (s:={ s with heap:=h' }) e c d (by decide) ⟨x,H,I1,ru,⟨rfl,fun ys hy=>by rw[I.rR hy hq];exact hx⟩,aT,fun b hb=>(hf b hb).1⟩⟩
 done:=by
  intro X hP hw hK i ae s σ H E uk I hf st hg;subst hP hw hK;have hc:X.calm=true:=uk.elim id fun z=>(show False from z).elim;obtain⟨xs,hq,hx⟩:=hg;obtain⟨its,rv,p,hz⟩:=I.tuple hq;obtain⟨f0,f1,f2,f3,f4,f5⟩:=hf it (by simp);have hl:=rv.length;exact wpAny_pyNext_tuple_end (I.ok.hd hc) st (show s.heap.IsTuple a its.toArray from p) (by simp;lia) fun h' eb=>⟨rfl,I.turned (t':=s.toks) (fun b o hb e=>eb b o hb e) f0 f1 f3 f4 f5⟩
 self:=fun _ _ _ _ _ st h=>wpAny_pyIter_tupleiter st h
theorem yo{P:Program}{w:World}{K:PySem.W.Frag}{tg:Expr}(it:Addr)(lo:Int)(n:Nat):uj P w K tg (Jb lo n) [it] it (fun i h=>IsRangeIter h it (lo+(i:Nat)*1) ((n:Int)-(i:Nat)) 1) where
 mem:=by simp
 obj:=fun i h st b hb=>by
  have e:b=it:=by simpa using hb
  subst e;exact⟨_,st,fun v z=>by
   have z':Data.fields _=Data.cell v:=z;cases z'⟩
 keep:=fun i h h' st k=>k it (by simp) _ st
 item:=by
  intro X hP hw hK i ae s σ H E hc I hf st hg;subst hP hw hK;obtain⟨f0,f1,f2,f3,f4,f5⟩:=hf it (by simp);refine wpAny_pyNext_range_item st (by have:i<n:=hg;lia) fun h' aT sb=>?_;have I1:aK X ae σ H { s with heap:=h',toks:=s.toks+1 }:=I.turned (fun b o hb e=>(sb.2 b hb).trans e) f0 f1 f3 f4 f5;have gR:IsRangeIter h' it (lo+((i+1:Nat):Int)*1) ((n:Int)-((i+1:Nat):Int)) 1:=by
   rw[show lo+((i+1:Nat):Int)*1=lo+(i:Int)*1+1 by lia,show (n:Int)-((i+1:Nat):Int)=(n:Int)-(i:Int)-1 by lia];exact aT
  exact⟨_,rfl,zI (s:={ s with heap:=h',toks:=s.toks+1 }) (n:="range_iterator") gR rfl rfl (by decide) ⟨.int (lo+i),H,I1,⟨s.toks,by rw[Int.mul_one]⟩,⟨rfl,rfl⟩,gR,fun b hb=>(hf b hb).1⟩⟩
 done:=by
  intro X hP hw hK i ae s σ H E hc I hf st hg;subst hP hw hK;obtain⟨f0,f1,f2,f3,f4,f5⟩:=hf it (by simp);have he:X.A.handled=none\/∃p φ,X.A.handled=some (.ref p)/\H p=some (.ext φ)/\∀h,φ h->zD p h:=hc.elim (fun z=>.inl (I.ok.hd z)) id;rcases he with hn|⟨p,φ,hp,hH,hφ⟩
  .exact wpAny_pyNext_range_end hn st (by have:n<=i:=hg;lia) fun h' eb=>⟨rfl,I.turned (t':=s.toks) (fun b o hb e=>eb b o hb e) f0 f1 f3 f4 f5⟩
  .exact yi hp (hφ _ (I.bA p _ hH).1) st (by have:n<=i:=hg;lia) fun h' eb=>⟨rfl,I.kept (t':=s.toks) eb⟩
 self:=fun _ _ _ _ _ st h=>wpAny_pyIter_rangeiter st h
section
variable {X:Cx} {tg:Expr}
def N0(K:PySem.W.Frag)(tl:TE):TI:=fun σ H R=>tl σ H fun x H1=>∃a,x=.ref a/\(∃xs,aU K H1 a xs)/\R (CP K a) H1
def Tq(K:PySem.W.Frag)(tl:TE):TI:=fun σ H R=>tl σ H fun x H1=>∃a,x=.ref a/\(∃xs,cx K H1 a xs)/\R (Tp K a) H1
theorem cf{l:Expr}{tl:TE}(hl:PE X l tl):PI X tg l (N0 X.K tl):=by
 intro ae s σ H R I h;refine bZ (hl ae s σ H _ I h) fun v s1 ⟨x,H1,I1,r1,q1⟩=>?_;obtain⟨a,e,⟨xs,hq⟩,q⟩:=q1;subst e;cases r1;obtain⟨its,rv,p,hz⟩:=I1.list hq;refine pQ p.isList ?_;refine⟨s1.heap.objs.size,[s1.heap.objs.size],_,_,H1,rfl,I1.kept (t':=s1.toks) fun b o e=>cq _ e,A6 a _,⟨_,cV _ rfl,rfl,rfl⟩,fun b hb=>?_,q⟩;have e:b=s1.heap.objs.size:=by simpa using hb
 subst e;exact I1.vG (aL _) (I1.bA.fresh (aL _))
theorem Kh{l:Expr}{tl:TE}(hl:PE X l tl):PI X tg l (Tq X.K tl):=by
 intro ae s σ H R I h;refine bZ (hl ae s σ H _ I h) fun v s1 ⟨x,H1,I1,r1,q1⟩=>?_;obtain⟨a,e,⟨xs,hq⟩,q⟩:=q1;subst e;cases r1;obtain⟨its,rv,p,hz⟩:=I1.tuple hq;refine x0 (show s1.heap.IsTuple a its.toArray from p) ?_;refine⟨s1.heap.objs.size,[s1.heap.objs.size],_,_,H1,rfl,I1.kept (t':=s1.toks) fun b o e=>cq _ e,yn a _,⟨_,cV _ rfl,rfl,rfl⟩,fun b hb=>?_,q⟩;have e:b=s1.heap.objs.size:=by simpa using hb
 subst e;exact I1.vG (aL _) (I1.bA.fresh (aL _))
theorem vH{ae:List (Addr×Obj)}{σ:St}{H:Hp}{s:Shared}{R:It->Hp->Prop}{E:Value->Shared->Prop}{lo hi:Int}{t u v:Tok}{tk:Nat}(I:aK X ae σ H s)(h1:-(2 ^ 62)<=lo)(h2:lo<2 ^ 62)(h3:-(2 ^ 62)<=hi)(h4:hi<2 ^ 62)(q:R (Jb lo (hi-lo).toNat) H):wpAny (model X.prog X.w) X.A (pyIter (.ref s.heap.objs.size)) (Xj X ae σ tg R) E { s with heap:=s.heap.push { cls:=.type "range",data:=.fields #[.int lo t,.int hi u,.int 1 v] },toks:=tk }:=by
 refine wpAny_pyIter_range (IsRange.new ..) (small_one h1 h2 h3 h4) ?_;have I1:aK X ae σ H { s with heap:=s.heap.push { cls:=.type "range",data:=.fields #[.int lo t,.int hi u,.int 1 v] },toks:=tk }:=I.kept fun b o e=>cq _ e;refine⟨(s.heap.push { cls:=.type "range",data:=.fields #[.int lo t,.int hi u,.int 1 v] }).objs.size,[(s.heap.push { cls:=.type "range",data:=.fields #[.int lo t,.int hi u,.int 1 v] }).objs.size],_,_,H,rfl,
  I1.kept (t':=tk) fun b o e=>cq _ e,yo _ lo (hi-lo).toNat,?_,fun b hb=>?_,q⟩
 .have e1:lo+((0:Nat):Int)*1=lo:=by simp
  have e2:(((hi-lo).toNat:Nat):Int)-((0:Nat):Int)=Builtin.Range.rangeSize lo hi 1:=by rw[rangeSize_one];split <;> lia
  show IsRangeIter _ _ (lo+((0:Nat):Int)*1) ((((hi-lo).toNat:Nat):Int)-((0:Nat):Int)) 1;rw[e1,e2];exact cV _ rfl
 .have e:b=(s.heap.push { cls:=.type "range",data:=.fields #[.int lo t,.int hi u,.int 1 v] }).objs.size:=by simpa using hb
  subst e;exact I1.vG (aL _) (I1.bA.fresh (aL _))
def N2(ta:TA):TI:=fun σ H R=>ta σ H fun vs H1=>∃j:Int,vs=[.int j]/\-(2 ^ 62)<=j/\j<2 ^ 62/\R (Jb 0 j.toNat) H1
def N3(ta:TA):TI:=fun σ H R=>ta σ H fun vs H1=>∃i j:Int,vs=[.int i,.int j]/\(-(2 ^ 62)<=i/\i<2 ^ 62/\-(2 ^ 62)<=j/\j<2 ^ 62)/\R (Jb i (j-i).toNat) H1
theorem d_{a:Expr}{ta:TA}{p pos:Pos}(hg:Gl X "range")(hm:X.mg "range"=none)(ha:PA X [a] ta)(hs:starEach [a] X.env=[(false,eval a X.env)]:=by rfl):PI X tg (.Call (.Name "range" p) [a] [] pos) (N2 ta):=by
 intro ae s σ H R I h;refine Call_ (jE I hg hm boot_range (pC (bZ (ha pos ae s σ H _ I h) fun us s1 ⟨vs,H1,I1,r1,q1⟩=>?_) hs rfl));obtain⟨j,e,q1,q2,q⟩:=q1;subst e;cases r1 with
 |cons r rr=>
  cases rr;obtain⟨t,rfl⟩:=r;exact call_range_1 (vH I1 (by lia) (by lia) q1 q2 (by simpa using q))
theorem rT(hg:Gl X "range")(hm:X.mg "range"=none)(ha:PA X [a,b] ta)(hs:starEach [a,b] X.env=[(false,eval a X.env),(false,eval b X.env)]:=by rfl)(p_:starEach [b] X.env=[(false,eval b X.env)]:=by rfl):
  PI X tg (.Call (.Name "range" p) [a,b] [] pos) (N3 ta):=by
 intro ae s σ H R I h;refine Call_ (jE I hg hm boot_range (pC (bZ (ha pos ae s σ H _ I h) fun us s1 ⟨vs,H1,I1,r1,q1⟩=>?_) (by rw[hs,p_]) (by rw[p_];rfl)));obtain⟨i,j,e,⟨q1,q2,q3,q4⟩,q⟩:=q1;subst e;cases r1 with
 |cons r rr=>
  cases rr with
  |cons r' rr=>
   cases rr;obtain⟨t,rfl⟩:=r;obtain⟨t',rfl⟩:=r';exact call_range_2 (vH I1 q1 q2 q3 q4 q)
def Tr(wi:TI)(g:TG)(tb:TS):TS:=fun D σ H=>wi σ H fun J H1=>∃W:Nat->Nat->St->Hp->Prop,(∃m,W 0 m σ H1)/\∀i m σ H,W i m σ H->
 (J.stop i H/\D.nx σ H)\/(J.go i H/\∃N:St->Hp->Prop,(∀σ' H',N σ' H'->∃m',m'<m/\W (i+1) m' σ' H')/\∀x H',J.Ja i H x H'->g x σ H' fun σ2 H2=>tb { D with nx:=N,ct:=N,bk:=D.nx } σ2 H2)
def qa(fp:List Addr)(h:Heap):List (Addr×Obj):=fp.filterMap fun b=>(h.get? b).map fun o=>(b,o)
theorem iP(hb:b∈fp)(e:h.get? b=some o):(b,o)∈qa fp h:=mT.mpr ⟨b,hb,by rw[e];rfl⟩
theorem A7(hp:p∈qa fp h):p.1∈fp/\h.get? p.1=some p.2:=by
 obtain⟨b,hb,e⟩:=mT.mp hp;cases q:h.get? b with
 |none=>rw[q] at e;cases e
 |some o=>
  rw[q] at e;have e':(b,o)=p:=bR e;subst e';exact⟨hb,q⟩
theorem aK.pinned(I:aK X ae σ H s)(hf:∀b∈fp,kB X ae H b)(ho:∀b∈fp,∃o,s.heap.get? b=some o/\∀v,o.data≠.cell v):aK X (ae++qa fp s.heap) σ H s:=
 I.zE fun p hp=>(bp.mp hp).elim (fun z=>I.pin p (ik _ z)) fun z=>by
  obtain⟨hb,e⟩:=A7 z;obtain⟨f0,f1,f2,_⟩:=hf p.1 hb;obtain⟨o,e',d⟩:=ho p.1 hb;rw[e] at e';cases e';exact⟨e,f0,f1,f2,d⟩
theorem aK.l7(I:aK X (ae++pl) σ H s):aK X ae σ H s:=I.zE fun p hp=>I.pin p (ik _ (gW _ hp))
theorem dM(hp:PassesOwn (model X.prog X.w) X.A X.env X.xe)(hc:X.calm=true)(hi:PI X tg jj wi)(hg:PG X tg g)(hb:yj X body tb)(hs:∀x,foldedSetIterable jj X.env x=pure x:=by intro _;rfl):PS X (.For tg jj body [] pos) (Tr wi g tb):=by
 intro ae s σ H D I h;refine wpAny_For (bZ (hi ae s σ H _ I h) fun v s1 h1=>bZ h1 fun RD s2 h2=>?_) hs;obtain⟨it,fp,tn,J,H2,e,I2,T,gR,f2,W,⟨m0,w0⟩,CO⟩:=h2;subst e;have yp:∀ {H':Hp},(∀b∈fp,H' b=none)->∀b∈fp,kB X ae H' b:=fun hn b hb=>⟨hn b hb,(f2 b hb).2⟩
 refine codeAny_forLoop_any (fun n s'=>∃i σ' H',aK X ae σ' H' s'/\tn i s'.heap/\(∀b∈fp,H' b=none)/\W i n σ' H') ?_ m0 ⟨0,σ,H2,I2,gR,fun b hb=>(f2 b hb).1,w0⟩;rintro n s3 ⟨i,σ3,H3,I3,uo,Ki,w3⟩;rcases CO i n σ3 H3 w3 with ⟨stop,qn⟩|⟨go,N,hN,step⟩
 .refine lm hp (bZ (T.done X rfl rfl rfl i ae s3 σ3 H3 X.xe (.inl hc) I3 (yp Ki) uo stop) fun r s4 ⟨hr,I4⟩=>?_);subst hr;exact tZ ⟨σ3,H3,I4,qn⟩
 .refine lm hp (bZ (T.item X rfl rfl rfl i ae s3 σ3 H3 X.xe (.inl hc) I3 (yp Ki) uo go) fun r s4 ⟨u,hr,h4⟩=>?_);subst hr;refine lm hp (bZ h4 fun _ s5 ⟨x,H5,I5,r5,y5,zJ,Tt⟩=>?_);have Tv:=I5.pinned (yp Tt) (T.obj _ _ zJ);refine lm hp (bZ (hg _ s5 σ3 H5 x u _ Tv r5 (step x H5 y5)) fun _ s6 ⟨σ6,H6,I6,q6⟩=>?_);refine lm hp (bZ (hb _ s6 σ6 H6 _ I6 q6) fun f s7 q7=>?_);have again:∀ {σ7:St} {H7:Hp},aK X (ae++qa fp s5.heap) σ7 H7 s7->N σ7 H7->∃m,m<n/\∃i σ' H',aK X ae σ' H' s7/\tn i s7.heap/\(∀b∈fp,H' b=none)/\W i m σ' H':=fun {σ7 H7} I7 n7=>by
   obtain⟨m',hm,w7⟩:=hN σ7 H7 n7;refine⟨m',hm,i+1,σ7,H7,I7.l7,T.keep _ _ _ zJ fun b hb o e=>(I7.pin (b,o) (ik _ (ik _ (iP hb e)))).1,fun b hb=>?_,w7⟩;obtain⟨o,e,d⟩:=T.obj _ _ zJ b hb;exact(I7.pin (b,o) (ik _ (ik _ (iP hb e)))).2.1
  cases f with
  |next=>obtain⟨σ7,H7,I7,n7⟩:=q7;exact again I7 n7
  |cont=>obtain⟨σ7,H7,I7,n7⟩:=q7;exact again I7 n7
  |brk=>obtain⟨σ7,H7,I7,q7⟩:=q7;exact⟨σ7,H7,I7.l7,q7⟩
  |ret v=>obtain⟨x7,σ7,H7,I7,r7,q7⟩:=q7;exact⟨x7,σ7,H7,I7.l7,r7,q7⟩
end
theorem jG{K:PySem.W.Frag}{a:Addr}{xs:List V}{g:TG}{tb:TS}{D:vB}{σ:St}{H:Hp}(Pv:Nat->St->Hp->Prop)(h0:Pv 0 σ H)(hl:∀i σ H,i<=xs.length->Pv i σ H->aU K H a xs)(hs:∀i x σ H,xs[i]?=some x->Pv i σ H->g x σ H fun σ2 H2=>tb { D with nx:=Pv (i+1),ct:=Pv (i+1),bk:=D.nx } σ2 H2)(hd:∀σ H,Pv xs.length σ H->D.nx σ H):
  ∃W:Nat->Nat->St->Hp->Prop,(∃m,W 0 m σ H)/\∀i m σ H,W i m σ H->
   ((CP K a).stop i H/\D.nx σ H)\/((CP K a).go i H/\∃N:St->Hp->Prop,(∀σ' H',N σ' H'->∃m',m'<m/\W (i+1) m' σ' H')/\∀x H',(CP K a).Ja i H x H'->g x σ H' fun σ2 H2=>tb { D with nx:=N,ct:=N,bk:=D.nx } σ2 H2):=by
 refine⟨fun i m σ H=>m=xs.length-i/\i<=xs.length/\Pv i σ H,⟨xs.length,by simp,df _,h0⟩,?_⟩;rintro i m σ H ⟨rfl,hi,p⟩;have q:=hl i σ H hi p;by_cases et:i<xs.length
 .refine .inr ⟨⟨xs,xs[i],q,by simp[et]⟩,Pv (i+1),fun σ' H' p'=>⟨xs.length-(i+1),by lia,rfl,et,p'⟩,fun x H' y=>?_⟩;obtain⟨e,y⟩:=y;subst e;exact hs i x σ _ (y xs q) p
 .have e:i=xs.length:=by lia
  subst e;exact .inl ⟨⟨xs,q,aL _⟩,hd σ H p⟩
theorem eW{lo:Int}{n:Nat}{g:TG}{tb:TS}{D:vB}{σ:St}{H:Hp}(Pv:Nat->St->Hp->Prop)(h0:Pv 0 σ H)(hs:∀i σ H,i<n->Pv i σ H->g (.int (lo+i)) σ H fun σ2 H2=>tb { D with nx:=Pv (i+1),ct:=Pv (i+1),bk:=D.nx } σ2 H2)(hd:∀σ H,Pv n σ H->D.nx σ H):
  ∃W:Nat->Nat->St->Hp->Prop,(∃m,W 0 m σ H)/\∀i m σ H,W i m σ H->
   ((Jb lo n).stop i H/\D.nx σ H)\/((Jb lo n).go i H/\∃N:St->Hp->Prop,(∀σ' H',N σ' H'->∃m',m'<m/\W (i+1) m' σ' H')/\∀x H',(Jb lo n).Ja i H x H'->g x σ H' fun σ2 H2=>tb { D with nx:=N,ct:=N,bk:=D.nx } σ2 H2):=by
 refine⟨fun i m σ H=>m=n-i/\i<=n/\Pv i σ H,⟨n,by simp,df _,h0⟩,?_⟩;rintro i m σ H ⟨rfl,hi,p⟩;by_cases et:i<n
 .refine .inr ⟨et,Pv (i+1),fun σ' H' p'=>⟨n-(i+1),by lia,rfl,et,p'⟩,fun x H' y=>?_⟩;obtain⟨e,y⟩:=y;subst e y;exact hs i σ _ et p
 .have e:i=n:=by lia
  subst e;exact .inl ⟨aL _,hd σ H p⟩
theorem vI(Pv:St->Hp->Prop)(μ:St->Hp->Nat)(h0:Pv σ H)(hs:∀σ H,Pv σ H->c σ H fun b H1=>if b=true then tb { D with nx:=fun σ' H'=>Pv σ' H'/\μ σ' H'<μ σ H,ct:=fun σ' H'=>Pv σ' H'/\μ σ' H'<μ σ H,bk:=D.nx } σ H1 else D.nx σ H1)(mono:∀σ H Q Q',(∀b H1,Q b H1->Q' b H1)->c σ H Q->c σ H Q'):CN c tb D σ H:=by
 refine⟨fun m σ H=>m=μ σ H/\Pv σ H,⟨_,rfl,h0⟩,?_⟩;rintro m σ H ⟨rfl,p⟩;refine mono σ H _ _ (fun b H1 q=>?_) (hs σ H p);cases b with
 |true=>exact⟨_,fun σ' H' ⟨p',l⟩=>⟨_,l,rfl,p'⟩,q⟩
 |false=>exact q
abbrev R2:=V->V->Hp->VK->Prop
def l9(X:Cx)(f:Value->Value->Sem Value)(r:R2):Prop:=
 ∀ (ae:List (Addr×Obj)) (s:Shared) (σ:St) (H:Hp) (x y:V) (v u:Value) (Q:VK),aK X ae σ H s->be x v->be y u->r x y H Q->
  wpAny (model X.prog X.w) X.A (f v u) (EP X ae σ Q) X.xe s
def Tw(X:Cx)(f:Value->Sem Value)(r:V->Hp->VK->Prop):Prop:=
 ∀ (ae:List (Addr×Obj)) (s:Shared) (σ:St) (H:Hp) (x:V) (v:Value) (Q:VK),aK X ae σ H s->be x v->r x H Q->
  wpAny (model X.prog X.w) X.A (f v) (EP X ae σ Q) X.xe s
def eN(X:Cx)(f:Value)(r:List V->Hp->VK->Prop):Prop:=
 ∀ (ae:List (Addr×Obj)) (s:Shared) (σ:St) (H:Hp) (xs:List V) (us:List Value) (Q:VK),aK X ae σ H s->aW xs us->r xs H Q->
  wpAny (model X.prog X.w) X.A (call f us) (EP X ae σ Q) X.xe s
def l_(r:R2)(ta tb:TE):TE:=fun σ H Q=>ta σ H fun x H1=>tb σ H1 fun y H2=>r x y H2 Q
def Zd(r:V->Hp->VK->Prop)(ta:TE):TE:=fun σ H Q=>ta σ H fun x H1=>r x H1 Q
def rI(C:Int->Int->Prop)(g:Int->Int->V):R2:=fun x y H Q=>∃i j,x=.int i/\y=.int j/\C i j/\Q (g i j) H
def Ci(g:Int->Int->V):R2:=fun x y H Q=>∃i j,x=.int i/\y=.int j/\Q (g i j) H
def rU(g:Int->V):V->Hp->VK->Prop:=fun x H Q=>∃i,x=.int i/\Q (g i) H
section
variable {X:Cx} {a b c:Expr} {ta tb tc:TE} {pos:Pos}
theorem Kj(ha:PE X a ta)(hb:PE X b tb){ae:List (Addr×Obj)}{s:Shared}{σ:St}{H:Hp}{R:V->V->Hp->Prop}(I:aK X ae σ H s)(h:ta σ H fun x H1=>tb σ H1 fun y H2=>R x y H2){Q:Value->Shared->Prop}{f:Value->Value->Sem Value}(hf:∀v u s2 x y H2,aK X ae σ H2 s2->be x v->be y u->R x y H2->wpAny (model X.prog X.w) X.A (f v u) Q X.xe s2):
  wpAny (model X.prog X.w) X.A (eval a X.env) (fun v s₁=>wpAny (model X.prog X.w) X.A (eval b X.env) (fun u s₂=>wpAny (model X.prog X.w) X.A (f v u) Q X.xe s₂) X.xe s₁) X.xe s:=by
 refine bZ (ha ae s σ H _ I h) fun v s1 ⟨x,H1,I1,r1,q1⟩=>?_;refine bZ (hb ae s1 σ H1 _ I1 q1) fun u s2 ⟨y,H2,I2,r2,q2⟩=>?_;exact hf v u s2 x y H2 I2 r1 r2 q2
theorem bo{op:Operator}{r:R2}(ho:l9 X (binaryOp op) r)(ha:PE X a ta)(hb:PE X b tb):PE X (.BinOp a op b pos) (l_ r ta tb):=by
 intro ae s σ H Q I h;exact wpAny_BinOp (Kj ha hb I h fun v u s2 x y H2 I2 rx ry q=>ho ae s2 σ H2 x y v u Q I2 rx ry q)
theorem n_(ho:Tw X (unaryOp op) r)(ha:PE X a ta):PE X (.UnaryOp op a pos) (Zd r ta):=by
 intro ae s σ H Q I h;exact UnaryOp_ (bZ (ha ae s σ H _ I h) fun v s1 ⟨x,H1,I1,r1,q1⟩=>ho ae s1 σ H1 x v Q I1 r1 q1)
theorem RE{f:Value->Value->Sem Value}{C:Int->Int->Prop}{g:Int->Int->Int}(rule:∀ (i j:Int) (t u:Tok) (s:Shared) (Q:Value->Shared->Prop) (E:Value->Shared->Prop),C i j->Q (.int (g i j) s.toks) { s with toks:=s.toks+1 }->wpAny (model X.prog X.w) X.A (f (.int i t) (.int j u)) Q E s):
  l9 X f (rI C fun i j=>.int (g i j)):=by
 intro ae s σ H x y v u Q I rx ry h;obtain⟨i,j,rfl,rfl,hc,q⟩:=h;obtain⟨t,rfl⟩:=rx;obtain⟨t',rfl⟩:=ry;exact rule i j t t' s _ _ hc ⟨.int (g i j),H,I.tok _,⟨_,rfl⟩,q⟩
theorem N4{f:Value->Value->Sem Value}{g:Int->Int->Int}(rule:∀ (i j:Int) (t u:Tok) (s:Shared) (Q:Value->Shared->Prop) (E:Value->Shared->Prop),Q (.int (g i j) s.toks) { s with toks:=s.toks+1 }->wpAny (model X.prog X.w) X.A (f (.int i t) (.int j u)) Q E s):
  l9 X f (Ci fun i j=>.int (g i j)):=by
 intro ae s σ H x y v u Q I rx ry h;obtain⟨i,j,rfl,rfl,q⟩:=h;obtain⟨t,rfl⟩:=rx;obtain⟨t',rfl⟩:=ry;exact rule i j t t' s _ _ ⟨.int (g i j),H,I.tok _,⟨_,rfl⟩,q⟩
theorem FV{f:Value->Value->Sem Value}{g:Int->Int->Bool}(rule:∀ (i j:Int) (t u:Tok) (s:Shared) (Q:Value->Shared->Prop) (E:Value->Shared->Prop),Q (.bool (g i j)) s->wpAny (model X.prog X.w) X.A (f (.int i t) (.int j u)) Q E s):
  l9 X f (Ci fun i j=>.bl (g i j)):=by
 intro ae s σ H x y v u Q I rx ry h;obtain⟨i,j,rfl,rfl,q⟩:=h;obtain⟨t,rfl⟩:=rx;obtain⟨t',rfl⟩:=ry;exact rule i j t t' s _ _ ⟨.bl (g i j),H,I,rfl,q⟩
def Tx(i j:Int):Prop:=0<j/\j<1073741824
def Tz(i j:Int):Prop:=0<=j/\j<=1000000/\i.natAbs<2 ^ 64
def Kk(i j:Int):Prop:=(-(2 ^ 64)<i/\i<2 ^ 64)\/(-(2 ^ 64)<j/\j<2 ^ 64)
theorem Kk.ok(h:Kk i j):IntMulOk i j:=by
 rcases h with ⟨h1,h2⟩|⟨h1,h2⟩
 .exact .of_left (intBits_le_64 h1 h2)
 .exact .of_right (intBits_le_64 h1 h2)
theorem dB:l9 X (binaryOp .Add) (Ci fun i j=>.int (i+j)):=N4 fun _ _ _ _ _ _ _ q=>add_int q
theorem nt:l9 X (binaryOp .Sub) (Ci fun i j=>.int (i-j)):=N4 fun _ _ _ _ _ _ _ q=>sub_int q
theorem yq:l9 X (binaryOp .Mult) (rI Kk fun i j=>.int (i*j)):=RE fun _ _ _ _ _ _ _ hc q=>mul_int q hc.ok
theorem zK:l9 X (binaryOp .FloorDiv) (rI Tx fun i j=>.int (i / j)):=RE fun i j _ _ _ _ _ hc q=>by
 have h1:(0:Int)<j:=hc.1;have h2:j<1073741824:=hc.2;exact floordiv_int (by lia) (by rw[Int.fdiv_eq_ediv_of_nonneg i (by lia)];exact q) (.inl (PyProof.noPylong_small (by lia)))
theorem fY:l9 X (binaryOp .Mod) (rI (fun _ j=>0<j) fun i j=>.int (i % j)):=RE fun i j _ _ _ _ _ hc q=>by
 have h1:(0:Int)<j:=hc;exact mod_int' (by lia) (by rw[Cw i (by lia)];exact q)
theorem CQ:l9 X (binaryOp .Pow) (rI Tz fun i j=>.int (i ^ j.toNat)):=RE fun _ _ _ _ _ _ _ hc q=>pow_int_small hc.1 hc.2.1 hc.2.2 q
theorem Ze{f:Value->Sem Value}{g:Int->Int}(rule:∀ (i:Int) (t:Tok) (s:Shared) (Q:Value->Shared->Prop) (E:Value->Shared->Prop),Q (.int (g i) s.toks) { s with toks:=s.toks+1 }->wpAny (model X.prog X.w) X.A (f (.int i t)) Q E s):
  Tw X f (rU fun i=>.int (g i)):=by
 intro ae s σ H x v Q I rx h;obtain⟨i,rfl,q⟩:=h;obtain⟨t,rfl⟩:=rx;exact rule i t s _ _ ⟨.int (g i),H,I.tok _,⟨_,rfl⟩,q⟩
theorem jH:Tw X (unaryOp .USub) (rU fun i=>.int (-i)):=Ze fun _ _ _ _ _ q=>neg_int q
end
def Kl:V->V->Bool
 |.bH,.bH=>true|.bH,.int _=>true|.int _,.bH=>true|.bH,.bl _=>true|.bl _,.bH=>true|.bH,.str _=>true|.str _,.bH=>true
 |.int _,.int _=>true|.bl _,.bl _=>true|.str _,.str _=>true|.A3 _,.A3 _=>true
 |.int _,.str _=>true|.str _,.int _=>true|.bl _,.str _=>true|.str _,.bl _=>true
 |_,_=>false
def RF:R2:=fun x y H Q=>Kl x y=true/\Q (.bl (decide (x=y))) H
def Zf:R2:=fun x y H Q=>Kl x y=true/\Q (.bl (!decide (x=y))) H
theorem oV:decide (V.int i=V.int j)=(i==j):=by
 rw[l6];simp
theorem CS:decide (V.bl i=V.bl j)=(i==j):=by
 rw[l6];simp
theorem zL:decide (V.str i=V.str j)=(i==j):=by
 rw[l6];simp
theorem zM:decide (V.A3 i=V.A3 j)=(i.toList==j.toList):=by
 rw[l6];cases i;cases j;simp
section
variable {X:Cx} {a b c:Expr} {ta tb tc:TE} {pos:Pos}
theorem bz(I:aK X ae σ H s)(q:Q (.bl k) H)(e:k=k'):EP X ae σ Q (.bool k') s:=by
 subst e;exact⟨.bl k,H,I,rfl,q⟩
theorem eO:l9 X (compareOp .Eq) RF:=by
 intro ae s σ H x y v u Q I rx ry h;obtain⟨hs,q⟩:=h;cases x with
 |bH=>
  cases rx;cases y with
  |bH=>cases ry;exact PySem.EqNone.eq_none_none (bz I q (by simp))
  |bl j=>cases ry;exact PySem.EqNone.eq_none_bool (bz I q (by simp))
  |int j=>obtain⟨t',rfl⟩:=ry;exact PySem.EqNone.eq_none_int (bz I q (by simp))
  |str j=>obtain⟨t',rfl⟩:=ry;exact PySem.EqNone.eq_none_str (bz I q (by simp))
  |_=>exact absurd (show false=true from hs) cj
 |bl i=>
  cases rx;cases y with
  |bH=>cases ry;exact PySem.EqNone.eq_bool_none (bz I q (by simp))
  |bl j=>cases ry;exact eq_bool (bz I q CS)
  |str j=>obtain⟨t',rfl⟩:=ry;exact PySem.EqMixed.eq_bool_str (bz I q (by simp))
  |_=>exact absurd (show false=true from hs) cj
 |int i=>
  obtain⟨t,rfl⟩:=rx;cases y with
  |bH=>cases ry;exact PySem.EqNone.eq_int_none (bz I q (by simp))
  |int j=>obtain⟨t',rfl⟩:=ry;exact eq_int (bz I q oV)
  |str j=>obtain⟨t',rfl⟩:=ry;exact PySem.EqMixed.eq_int_str (bz I q (by simp))
  |_=>exact absurd (show false=true from hs) cj
 |str i=>
  obtain⟨t,rfl⟩:=rx;cases y with
  |bH=>cases ry;exact PySem.EqNone.eq_str_none (bz I q (by simp))
  |bl j=>cases ry;exact PySem.EqMixed.eq_str_bool (bz I q (by simp))
  |int j=>obtain⟨t',rfl⟩:=ry;exact PySem.EqMixed.eq_str_int (bz I q (by simp))
  |str j=>obtain⟨t',rfl⟩:=ry;exact eq_str (bz I q zL)
  |_=>exact absurd (show false=true from hs) cj
 |A3 i=>
  obtain⟨t,rfl⟩:=rx;cases y with
  |A3 j=>obtain⟨t',rfl⟩:=ry;exact PySem.W.eq_bytes (bz I q zM)
  |_=>exact absurd (show false=true from hs) cj
 |_=>cases y <;> exact absurd (show false=true from hs) cj
theorem rV:l9 X (compareOp .NotEq) Zf:=by
 intro ae s σ H x y v u Q I rx ry h;obtain⟨hs,q⟩:=h;cases x with
 |bH=>
  cases rx;cases y with
  |bH=>cases ry;exact PySem.EqNone.ne_none_none (bz I q (by simp))
  |bl j=>cases ry;exact PySem.EqNone.ne_none_bool (bz I q (by simp))
  |int j=>obtain⟨t',rfl⟩:=ry;exact PySem.EqNone.ne_none_int (bz I q (by simp))
  |str j=>obtain⟨t',rfl⟩:=ry;exact PySem.EqNone.ne_none_str (bz I q (by simp))
  |_=>exact absurd (show false=true from hs) cj
 |bl i=>
  cases rx;cases y with
  |bH=>cases ry;exact PySem.EqNone.ne_bool_none (bz I q (by simp))
  |bl j=>cases ry;exact ne_bool (bz I q (congrArg not CS))
  |str j=>obtain⟨t',rfl⟩:=ry;exact PySem.EqMixed.ne_bool_str (bz I q (by simp))
  |_=>exact absurd (show false=true from hs) cj
 |int i=>
  obtain⟨t,rfl⟩:=rx;cases y with
  |bH=>cases ry;exact PySem.EqNone.ne_int_none (bz I q (by simp))
  |int j=>obtain⟨t',rfl⟩:=ry;exact ne_int (bz I q (congrArg not oV))
  |str j=>obtain⟨t',rfl⟩:=ry;exact PySem.EqMixed.ne_int_str (bz I q (by simp))
  |_=>exact absurd (show false=true from hs) cj
 |str i=>
  obtain⟨t,rfl⟩:=rx;cases y with
  |bH=>cases ry;exact PySem.EqNone.ne_str_none (bz I q (by simp))
  |bl j=>cases ry;exact PySem.EqMixed.ne_str_bool (bz I q (by simp))
  |int j=>obtain⟨t',rfl⟩:=ry;exact PySem.EqMixed.ne_str_int (bz I q (by simp))
  |str j=>obtain⟨t',rfl⟩:=ry;exact ne_str (bz I q (congrArg not zL))
  |_=>exact absurd (show false=true from hs) cj
 |A3 i=>
  obtain⟨t,rfl⟩:=rx;cases y with
  |A3 j=>obtain⟨t',rfl⟩:=ry;exact PySem.W.ne_bytes (bz I q (congrArg not zM))
  |_=>exact absurd (show false=true from hs) cj
 |_=>cases y <;> exact absurd (show false=true from hs) cj
theorem qb:l9 X (compareOp .Lt) (Ci fun i j=>.bl (decide (i<j))):=FV fun _ _ _ _ _ _ _ q=>lt_int q
theorem zN:l9 X (compareOp .LtE) (Ci fun i j=>.bl (decide (i<=j))):=FV fun _ _ _ _ _ _ _ q=>le_int q
theorem zO:l9 X (compareOp .Gt) (Ci fun i j=>.bl (decide (j<i))):=FV fun _ _ _ _ _ _ _ q=>gt_int q
theorem CV:l9 X (compareOp .GtE) (Ci fun i j=>.bl (decide (j<=i))):=FV fun _ _ _ _ _ _ _ q=>ge_int q
theorem iQ:l9 X (compareOp .Is) (fun x y H Q=>y=.bH/\Q (.bl (decide (x=.bH))) H):=by
 intro ae s σ H x y v u Q I rx ry h;obtain⟨rfl,q⟩:=h;cases ry;refine is_none_gen (bz I q ?_);cases x <;> first
  |(cases rx;rfl)
  |(obtain⟨t,rfl⟩:=rx;rfl)
theorem uq:l9 X (compareOp .IsNot) (fun x y H Q=>y=.bH/\Q (.bl (!decide (x=.bH))) H):=by
 intro ae s σ H x y v u Q I rx ry h;obtain⟨rfl,q⟩:=h;cases ry;refine isnot_none_gen (bz I q ?_);cases x <;> first
  |(cases rx;rfl)
  |(obtain⟨t,rfl⟩:=rx;rfl)
theorem aM(b:Expr)(h:op≠.In:=by decide)(h2:op≠.NotIn:=by decide):behindInMarks op b=false:=by
 have e1:(op==CmpOp.In)=false:=by cases op <;> first|rfl|exact absurd rfl h
 have e2:(op==CmpOp.NotIn)=false:=by cases op <;> first|rfl|exact absurd rfl h2
 cases b <;> simp[behindInMarks,e1,e2]
theorem cY(ho:l9 X (compareOp op) r)(ha:PE X a ta)(hb:PE X b tb)(hm:behindInMarks op b=false):PE X (.Compare a [op] [b] pos) (l_ r ta tb):=by
 intro ae s σ H Q I h;exact wpAny_Compare1 (Kj ha hb I h fun v u s2 x y H2 I2 rx ry q=>ho ae s2 σ H2 x y v u Q I2 rx ry q) hm
def md(t:TE):TT:=fun σ H Q=>t σ H fun x H'=>∃k,x=.bl k/\Q k H'
theorem aN(ho:l9 X (compareOp op) r)(ha:PE X a ta)(hb:PE X b tb)(hm:behindInMarks op b=false):PT X (.Compare a [op] [b] pos) (md (l_ r ta tb)):=by
 intro ae s σ H Q I h;refine wpAny_isTrue_Compare1 (bZ (ha ae s σ H _ I h) fun v s1 ⟨x,H1,I1,r1,q1⟩=>bZ (hb ae s1 σ H1 _ I1 q1) fun u s2 ⟨y,H2,I2,r2,q2⟩=>
  bZ (ho ae s2 σ H2 x y v u _ I2 r1 r2 q2) fun c s3 ⟨z,H3,I3,r3,k,e,q3⟩=>?_) hm
 subst e;cases r3;exact mX ⟨H3,I3,q3⟩
def Km(r r':R2)(ta tb tc:TE):TE:=fun σ H Q=>ta σ H fun x H1=>tb σ H1 fun y H2=>r x y H2 fun z H3=>∃k,z=.bl k/\
 (if k=true then tc σ H3 fun w' H4=>r' y w' H4 Q else Q (.bl false) H3)
theorem vJ(ho:l9 X (compareOp op) r)(CK:l9 X (compareOp Xk) r')(ha:PE X a ta)(hb:PE X b tb)(hc:PE X c tc)(hm:lastMarks [op,Xk] [b,c]=false:=by with_unfolding_all rfl):PE X (.Compare a [op,Xk] [b,c] pos) (Km r r' ta tb tc):=by
 intro ae s σ H Q I h;refine Compare_chain (bZ (ha ae s σ H _ I h) fun v s1 ⟨x,H1,I1,r1,q1⟩=>chain_link (bZ (hb ae s1 σ H1 _ I1 q1) fun u s2 ⟨y,H2,I2,r2,q2⟩=>
  bZ (ho ae s2 σ H2 x y v u _ I2 r1 r2 q2) fun d s3 ⟨z,H3,I3,r3,k,e,q3⟩=>?_)) hm
 subst e;cases r3;refine mX ?_;cases k with
 |false=>exact ite_ff ⟨.bl false,H3,I3,rfl,q3⟩
 |true=>exact ite_tt (chain_last (bZ (hc ae s3 σ H3 _ I3 q3) fun w' s4 ⟨z',H4,I4,r4,q4⟩=>CK ae s4 σ H4 y z' u w' Q I4 r2 r4 q4))
theorem ur:(sizeLine:Nat)<2 ^ 63:=by rw[iJ];decide
theorem qc(r:aW [x] us):∃u,us=[u]/\be x u:=by
 cases r with
 |cons r1 r2=>cases r2;exact⟨_,rfl,r1⟩
theorem Jc(r:aW [x,y] us):∃u w',us=[u,w']/\be x u/\be y w':=by
 cases r with
 |cons r1 r2=>
  cases r2 with
  |cons r3 r4=>cases r4;exact⟨_,_,rfl,r1,r3⟩
theorem CW:eN X (.builtin "abs") (fun xs H Q=>∃i,xs=[.int i]/\Q (.int (if i<0 then -i else i)) H):=by
 intro ae s σ H xs us Q I r h;obtain⟨i,rfl,q⟩:=h;obtain⟨u,rfl,t,rfl⟩:=qc r;exact call_abs_int fun u tk=>⟨.int (if i<0 then -i else i),H,I.tok _,⟨_,rfl⟩,q⟩
theorem rW(hc:X.calm=true):eN X (.builtin "max") (fun xs H Q=>∃i j,xs=[.int i,.int j]/\Q (.int (if j > i then j else i)) H):=by
 intro ae s σ H xs us Q I r h;obtain⟨i,j,rfl,q⟩:=h;obtain⟨u,w',rfl,⟨t,rfl⟩,⟨t',rfl⟩⟩:=Jc r;refine max_two_ints (I.ok.hd hc) fun h' tk k=>⟨_,H,I.kept k,?_,q⟩
 by_cases hj:j > i
 .rw[ao hj,ao hj];exact⟨_,rfl⟩
 .rw[ap hj,ap hj];exact⟨_,rfl⟩
theorem A8(hc:X.calm=true):eN X (.builtin "min") (fun xs H Q=>∃i j,xs=[.int i,.int j]/\Q (.int (if j<i then j else i)) H):=by
 intro ae s σ H xs us Q I r h;obtain⟨i,j,rfl,q⟩:=h;obtain⟨u,w',rfl,⟨t,rfl⟩,⟨t',rfl⟩⟩:=Jc r;refine min_two_ints (I.ok.hd hc) fun h' tk k=>⟨_,H,I.kept k,?_,q⟩
 by_cases hj:j<i
 .rw[ao hj,ao hj];exact⟨_,rfl⟩
 .rw[ap hj,ap hj];exact⟨_,rfl⟩
theorem rX:eN X (.type "int") (fun xs H Q=>(∃i,xs=[.int i]/\Q (.int i) H)\/∃k,xs=[.bl k]/\Q (.int (if k then 1 else 0)) H):=by
 intro ae s σ H xs us Q I r h;rcases h with ⟨i,rfl,q⟩|⟨k,rfl,q⟩
 .obtain⟨u,rfl,t,rfl⟩:=qc r;exact call_int_int ⟨.int i,H,I,⟨_,rfl⟩,q⟩
 .obtain⟨u,rfl,r1⟩:=qc r;cases r1;exact call_int_bool ⟨.int (if k then 1 else 0),H,I.tok _,⟨_,rfl⟩,q⟩
end
structure yr(h:Heap)(x dx C:Addr)(mA:Str->Option Value):Prop where
 obj:h.get? x=some (PySem.W.instObj C dx)
 ns:h.Ns1 dx mA
 ne:dx≠x
theorem A9{h:Heap}{dx:Addr}{mA:Str->Option Value}(n:h.Ns1 dx mA):∃od,h.get? dx=some od/\∀name,PySem.W.lookIn name od=some (mA name):=by
 obtain⟨o,es,ep,ho,hd,hk,_,hm⟩:=n;refine⟨o,ho,fun name=>?_⟩;have e:=hm name;unfold nsFind findBy at e;rw[<-Array.find?_toList] at e;unfold PySem.W.lookIn;rw[hd];dsimp only;split
 .rename_i y q;rw[q] at e;exact congrArg some e
 .rename_i q;rw[q] at e;have a:es.toList.any (·.refKey)=false:=by
   rw[xV];intro y hy;obtain⟨z,t,oG⟩:=hk y (Array.mem_toList_iff.mp hy);simp[DictEntry.refKey,oG]
  have a':¬ es.toList.any (·.refKey)=true:=by rw[a];exact cj
  rw[ap a'];exact congrArg some e
theorem yr.look(I:yr h x dx C mA):∃od,PySem.W.InstAt h x (PySem.W.instObj C dx) C (some od)/\∀name,PySem.W.lookIn name od=some (mA name):=
 let ⟨od,ho,hl⟩:=A9 I.ns
 ⟨od,⟨I.obj,rfl,rfl,ho⟩,hl⟩
section
variable {prog:Program} {w:World} {A:Around} {E:Value->Shared->Prop} {s:Shared} {K:PySem.W.Frag} {x dx C f:Addr} {mA:Str->Option Value} {name:Str} {v:Value}
theorem FW(X:K.In s.heap)(I:yr s.heap x dx C mA)(hg:PySem.W.plainGet K C name=true)(hh:PySem.W.hasDictIn K C=true)(ha:PySem.W.findIn K (.ref C) name=some none)(hv:mA name=some v)(yt:PySem.W.handedIn v=true)(h:Q v { s with toks:=s.toks+1 }):
  wpAny (model prog w) A (getAttr (.ref x) name FX) Q E s:=by
 obtain⟨od,J,hl⟩:=I.look;exact PySem.W.get_value X J (xL hg).1 (PySem.W.findObj_own hh ha rfl (by rw[hl,hv])) yt h
theorem CY(X:K.In s.heap)(I:yr s.heap x dx C mA)(hg:PySem.W.plainGet K C name=true)(hf:PySem.W.findIn K (.ref C) name=some (some (.ref f)))(ht:PySem.W.isFn K (.ref f)=true)(hv:mA name=none)(h:Q (.ref f,[.ref x]) s):
  wpAny (model prog w) A (getMethod (.ref x) name pl) Q E s:=by
 obtain⟨od,J,hl⟩:=I.look;exact PySem.W.method_fn X J (xL hg).1 (xL hg).2 hf (gX.mp ht) (by show (PySem.W.lookIn name od).map (·.isSome)=some false;rw[hl,hv];rfl) h
theorem FY(X:K.In s.heap)(I:yr s.heap x dx C mA)(hs:PySem.W.findIn K (.ref C) "__setattr__"=some (some (.builtin "object.__setattr__")))(hp:PySem.W.plainOver K C=true)(ht:PySem.W.takerIn K C name=some none)(hh:PySem.W.hasDictIn K C=true)(hw:PySem.Within mA ns)(hsz:ns.length<=sizeLine)(h:∀h',yr h' x dx C (fun y=>if y=name then some v else mA y)->Heap.SameBut dx s.heap h'->Q () { s with heap:=h',toks:=s.toks+2 }):
  wpAny (model prog w) A (setAttr (.ref x) name v) Q E s:=by
 obtain⟨od,J,hl⟩:=I.look;refine PySem.W.set_plain X J hs (PySem.W.osa_open (s:={ s with toks:=s.toks+1 }) (r:=none) X J hp ht fun b=>?_);obtain⟨cd,hc,J9⟩:=PySem.W.any_some hh;have hx:s.heap.get? x=some ⟨.ref C,some dx,.plain,#[]⟩:=I.obj;refine aI (wpAny_pure (aI (aI (wpAny_loadPart hx (aI (PySem.W.Looks.here (s:={ s with toks:=s.toks+1 }) (PySem.W.looks_clsIn X hc) ?_))))));rw[J9];refine wpAny_pure (a:=some dx) (aI (wpAny_pure (aI ?_)));refine wpAny_nsSet1 (s:={ s with toks:=s.toks+1 }) I.ns fun h' RH p_=>?_;obtain⟨oD,esD,epD,Zg,N7,FZ⟩:=RH.count (PySem.Within.cons name v hw);refine aI (wpAny_lookBehind Zg (by rw[N7];exact pastItsLine_dict (bB FZ (by rw[cw];lia))) ?_);exact wpAny_pure (h _ ⟨(p_.2 _ (Ne.symm I.ne)).trans I.obj,RH,I.ne⟩ p_)
theorem CZ(X:K.In s.heap)(hm:PySem.W.makesIn K C=true)(hi:PySem.W.findIn K (.ref C) "__init__"=some (some (.ref f)))(hf:PySem.W.typeIn K (.ref f)=some (.type "function"))(h:codeAny (model prog w) (A.under (.builtin "type.__call__" ⟨.ref C::vs,kw⟩)) (.call (.ref f) ⟨.ref (s.heap.objs.size+1)::vs,kw⟩) (PySem.W.InitBack (s.heap.objs.size+1) R)
   { s with heap:=(s.heap.push PySem.W.emptyDict).push (PySem.W.instObj C s.heap.objs.size) }):
  codeAny (model prog w) A (.call (.ref C) ⟨vs,kw⟩) R s:=by
 obtain⟨hh,g,d,t,os⟩:=s;exact PySem.W.make_core (PySem.W.makes_of X hm) (PySem.W.looks_findIn X hi) (fun self=>PySem.W.bind_fn X self hf) (.inl rfl) h
end
def dC(f:Str)(v:V):List (Str×V)->List (Str×V)
 |[]=>[(f,v)]
 |(g,x)::r=>if g=f then (g,v)::r else (g,x)::dC f v r
theorem bg(f g:Str)(v:V):∀fs:List (Str×V),(dC f v fs).lookup g=if g=f then some v else fs.lookup g
 |[]=>by
  show List.lookup g [(f,v)]=_;by_cases h:g=f
  .have hb:(g==f)=true:=gX.mpr h;simp only[List.lookup,hb,ao h]
  .have hb:(g==f)=false:=kM.mpr h;simp only[List.lookup,hb,ap h]
 |(k,x)::r=>by
  have ih:=bg f g v r;rw[show dC f v ((k,x)::r)=(if k=f then (k,v)::r else (k,x)::dC f v r) from rfl];by_cases hk:k=f
  .rw[ao hk];by_cases h:g=k
   .have hb:(g==k)=true:=gX.mpr h;simp only[List.lookup,hb,ao (h.trans hk)]
   .have hb:(g==k)=false:=kM.mpr h;simp only[List.lookup,hb,ap (fun e:g=f=>h (e.trans hk.symm))]
  .rw[ap hk];by_cases h:g=k
   .have hb:(g==k)=true:=gX.mpr h;simp only[List.lookup,hb,ap (fun e:g=f=>hk (h.symm.trans e))]
   .have hb:(g==k)=false:=kM.mpr h;simp only[List.lookup,hb];exact ih
theorem nu(f:Str)(v:V):∀fs:List (Str×V),f∈(dC f v fs).map (·.1)/\∀g,g∈fs.map (·.1)->g∈(dC f v fs).map (·.1)
 |[]=>⟨by simp[dC],fun g h=>by simp at h⟩
 |(k,x)::r=>by
  obtain⟨i1,i2⟩:=nu f v r;rw[show dC f v ((k,x)::r)=(if k=f then (k,v)::r else (k,x)::dC f v r) from rfl];by_cases hk:k=f
  .rw[ao hk];subst hk;exact⟨by simp,fun g h=>by simpa using h⟩
  .rw[ap hk];refine⟨?_,fun g h=>?_⟩
   .rw[cW];exact cC _ i1
   .rw[cW] at h |-;rcases bK.mp h with e|e
    .exact bK.mpr (.inl e)
    .exact cC _ (i2 g e)
theorem dW(f:Str)(v:V):∀fs:List (Str×V),(dC f v fs).length<=fs.length+1
 |[]=>by simp[dC]
 |(k,x)::r=>by
  have ih:=dW f v r;rw[show dC f v ((k,x)::r)=(if k=f then (k,v)::r else (k,x)::dC f v r) from rfl];by_cases hk:k=f
  .rw[ao hk,cw,cw];lia
  .rw[ap hk,cw,cw];lia
theorem kA.some_of(r:kA (some v) o):∃u,o=some u/\be v u:=by
 cases o with
 |none=>exact(show False from r).elim
 |some u=>exact⟨u,rfl,r⟩
theorem kA.none_of(r:kA none o):o=none:=by
 cases o with
 |none=>rfl
 |some u=>exact(show False from r).elim
theorem iq(r:be v u):PySem.W.handedIn u=true:=by
 cases v with
 |bH=>cases (show u=Value.none from r);rfl
 |bl b=>cases (show u=Value.bool b from r);rfl
 |int i=>obtain⟨t,e⟩:=(show ∃t,u=Value.int i t from r);cases e;rfl
 |str x=>obtain⟨t,e⟩:=(show ∃t,u=Value.str x t from r);cases e;rfl
 |A3 b=>obtain⟨t,e⟩:=(show ∃t,u=Value.bytes b t from r);cases e;rfl
 |IR b=>obtain⟨t,e⟩:=(show ∃t,u=Value.float b t from r);cases e;rfl
 |ref a=>cases (show u=Value.ref a from r);rfl
 |ty n=>cases (show u=Value.type n from r);rfl
section
variable {P:Program} {w:World} {H H':Hp} {h h':Heap} {a C dx:Addr} {fs Zb:List (Str×V)}
theorem oW(bA:iM P w H h)(e:H a=some (.ins C dx fs)):∃mA,yr h a dx C mA/\(∀f,kA (fs.lookup f) (mA f))/\PySem.Within mA (fs.map (·.1))/\fs.length<=1000/\H dx=some (.own a):=by
 obtain⟨d,z,ne,ob,mA,n,r,q⟩:=(show bQ P w H h a (.ins C dx fs) from bA a _ e)
 exact⟨mA,⟨ob,n,ne⟩,r,q,z,d⟩
end
structure Fx(K:PySem.W.Frag)(C:Addr):Prop where
 pg:PySem.W.plainGet K C Str.empty=true
 hd:PySem.W.hasDictIn K C=true
 po:PySem.W.plainOver K C=true
 sa:PySem.W.findIn K (.ref C) "__setattr__"=some (some (.builtin "object.__setattr__"))
theorem Fx.get{K:PySem.W.Frag}{C:Addr}(c:Fx K C)(f:Str):PySem.W.plainGet K C f=true:=c.pg
def h_(K:PySem.W.Frag)(C:Addr)(f:Str):Prop:=PySem.W.findIn K (.ref C) f=some none
theorem h_.taker{K:PySem.W.Frag}{C:Addr}{f:Str}(n:h_ K C f):PySem.W.takerIn K C f=some none:=by
 unfold PySem.W.takerIn;rw[show PySem.W.findIn K (.ref C) f=some none from n];rfl
structure Kn(K:PySem.W.Frag)(C:Addr)(m:Str)(f:Addr):Prop where
 at_:PySem.W.findIn K (.ref C) m=some (some (.ref f))
 fn:PySem.W.isFn K (.ref f)=true
 kp:PySem.W.keepIn K (.ref f)=true
section
variable {X:Cx} {ae:List (Addr×Obj)} {σ:St} {H:Hp} {s:Shared} {a C dx:Addr} {fs:List (Str×V)} {f:Str} {v:V} {A:Around} {E:Value->Shared->Prop}
theorem yu(I:aK X ae σ H s)(e:H a=some (.ins C dx fs))(c:Fx X.K C)(n:h_ X.K C f)(l:fs.lookup f=some v)(h:∀u s',aK X ae σ H s'->be v u->Q u s'):wpAny (model X.prog X.w) A (getAttr (.ref a) f b) Q E s:=by
 obtain⟨mA,O,r,_,_,_⟩:=oW I.bA e;obtain⟨u,hu,ru⟩:=kA.some_of (v:=v) (o:=mA f) (by rw[<-l];exact r f);exact FW I.ng O (c.get f) c.hd n hu (iq ru) (h u _ (I.tok _) ru)
theorem yv(I:aK X ae σ H s)(e:H a=some (.ins C dx fs))(c:Fx X.K C)(k:Kn X.K C m g)(l:fs.lookup m=none)(h:Q (.ref g,[.ref a]) s):wpAny (model X.prog X.w) A (getMethod (.ref a) m pl) Q E s:=by
 obtain⟨mA,O,r,_,_,_⟩:=oW I.bA e;have hn:mA m=none:=kA.none_of (by rw[<-l];exact r m);exact CY I.ng O (c.get m) k.at_ k.fn hn h
theorem yw(I:aK X ae σ H s)(e:H a=some (.ins C dx fs))(c:Fx X.K C)(n:h_ X.K C f)(hl:fs.length<1000)(ry:be y u)(h:∀s',aK X ae σ (upd H a (.ins C dx (dC f y fs))) s'->Q () s'):wpAny (model X.prog X.w) A (setAttr (.ref a) f u) Q E s:=by
 obtain⟨mA,O,r,wi,_,ho⟩:=oW I.bA e;have hz:(fs.map (·.1)).length<=sizeLine:=by rw[aO,iJ];lia
 refine FY I.ng O c.sa c.po n.taker c.hd wi hz fun h' O' sb=>h _ ?_;have hd:∃o,h'.get? dx=some o:=let ⟨o,_,_,e',_⟩:=O'.ns;⟨o,e'⟩;refine I.write (x:=a) (e:=dx) (by rw[e];exact True.intro) (.inr ho) (fun b q hb z=>(sb.2 b hb).trans z) hd ?_;refine⟨by rw[ak O.ne];exact ho,?_,O.ne,O'.obj,_,O'.ns,fun g=>?_,fun g hg=>?_⟩
 .have:=dW f y fs;lia
 .show kA ((dC f y fs).lookup g) (if g=f then some u else mA g);rw[bg];by_cases q:g=f
  .rw[ao q,ao q];exact ry
  .rw[ap q,ap q];exact r g
 .by_cases q:g=f
  .rw[q];exact(nu f y fs).1
  .refine(nu f y fs).2 g (wi g fun z=>hg ?_);show (if g=f then some u else mA g)=none;rw[ap q];exact z
theorem aK.made(I:aK X ae σ H s):aK X ae σ (upd (upd H s.heap.objs.size (.own (s.heap.objs.size+1))) (s.heap.objs.size+1) (.ins C s.heap.objs.size []))
  { s with heap:=(s.heap.push PySem.W.emptyDict).push (PySem.W.instObj C s.heap.objs.size) }:=by
 have e1:(s.heap.push PySem.W.emptyDict).get? s.heap.objs.size=some PySem.W.emptyDict:=cV s.heap rfl;have e2:((s.heap.push PySem.W.emptyDict).push (PySem.W.instObj C s.heap.objs.size)).get? (s.heap.objs.size+1)=some (PySem.W.instObj C s.heap.objs.size):=by
  have:=cV (s.heap.push PySem.W.emptyDict) (o:=PySem.W.instObj C s.heap.objs.size) rfl;rwa [iH] at this
 have e3:(s.heap.push PySem.W.emptyDict).Ns s.heap.objs.size (fun _=>none):=⟨PySem.W.emptyDict,#[],_,e1,rfl,(fun e he=>absurd he (by simp)),fun _=>rfl⟩
 have I1:=I.laid (a:=s.heap.objs.size) (o:=.own (s.heap.objs.size+1)) (h':=s.heap.push PySem.W.emptyDict) (t':=s.toks) (fun b u q=>cq _ q) (aL _) ⟨_,e1⟩;refine I1.laid (a:=s.heap.objs.size+1) (o:=.ins C s.heap.objs.size []) (t':=s.toks) (fun b u q=>cq _ q) (ub (iH _ _)) ?_;have ne:s.heap.objs.size≠s.heap.objs.size+1:=aX (jw _);refine⟨by rw[ak ne,af],df _,ne,e2,fun _=>none,(Heap.Ns1.of_empty e3).at fun o q=>cq _ q,fun _=>True.intro,fun y hy=>absurd rfl hy⟩
theorem F0(hb:attributeBase e f env (eval e env)=eval e env)(h:wpAny (model prog w) A (eval e env) (fun o s₁=>wpAny (model prog w) A (getAttr o f true) Q E s₁) E s):wpAny (model prog w) A (eval (.Attribute e f pos) env) Q E s:=
 Attribute_any_ h (by rw[arm_eval_Attribute,hb])
end
def Ko(K:PySem.W.Frag)(ta:TE)(f:Str):TE:=fun σ H Q=>ta σ H fun x H1=>∃a C dx fs v,x=.ref a/\H1 a=some (.ins C dx fs)/\Fx K C/\h_ K C f/\fs.lookup f=some v/\Q v H1
def TB(K:PySem.W.Frag)(ta tv:TE)(f:Str):TS:=fun D σ H=>tv σ H fun y H1=>ta σ H1 fun x H2=>∃a C dx fs,x=.ref a/\H2 a=some (.ins C dx fs)/\Fx K C/\h_ K C f/\fs.length<1000/\
 D.nx σ (upd H2 a (.ins C dx (dC f y fs)))
section
variable {X:Cx} {o e value:Expr} {f:Str} {pos oE Kq:Pos} {ta tv:TE}
theorem nw(he:PE X e ta)(hb:attributeBase e f X.env (eval e X.env)=eval e X.env):PE X (.Attribute e f pos) (Ko X.K ta f):=by
 intro ae s σ H Q I h;refine F0 hb (bZ (he ae s σ H _ I h) fun u s1 ⟨x,H1,I1,rx,a,C,dx,fs,v,ex,ea,c,n,l,q⟩=>?_);subst ex;obtain rfl:u=Value.ref a:=rx;exact yu I1 ea c n l fun u' s2 I2 ru=>⟨v,H1,I2,ru,q⟩
theorem ut(ha:PE X o ta)(hv:PE X value tv)(hs:swapsWith value (some (.Attribute o f oE)) pos.line X.env=pure false):PS X (.Assign [.Attribute o f oE] value pos) (TB X.K ta tv f):=by
 intro ae s σ H D I h;refine plainObj_wpAny_Assign_Attribute (bZ (hv ae s σ H _ I h) fun u s1 ⟨y,H1,I1,ry,q⟩=>bZ (ha ae s1 σ H1 _ I1 q) fun ov s2 ⟨x,H2,I2,rx,a,C,dx,fs,ex,ea,c,n,l,q2⟩=>?_) hs;subst ex;obtain rfl:ov=Value.ref a:=rx;exact yw I2 ea c n l ry fun s3 I3=>⟨σ,_,I3,q2⟩
end
section
variable {X:Cx} {ae:List (Addr×Obj)} {σ:St} {H:Hp} {s:Shared} {A:Around} {E:Value->Shared->Prop} {Q:Value->Shared->Prop} {c:Value} {b:Bool}
inductive ny (K:PySem.W.Frag) (H:Hp):V->Value->Prop where
 |bH:ny K H .bH (.type "NoneType")
 |bl (x:Bool):ny K H (.bl x) (.type "bool")
 |int (i:Int):ny K H (.int i) (.type "int")
 |str (x:Str):ny K H (.str x) (.type "str")
 |IR (x:UInt64):ny K H (.IR x) (.type "float")
 |lst {a:Addr} {xs:List V} (e:H a=some (.lst xs)):ny K H (.ref a) (.type "list")
 |iF {a:Addr} {o:Obj} {xs:List V} (e:H a=some (.iF o (.lst xs))):ny K H (.ref a) (.type "list")
 |tup {a:Addr} {xs:List V} (e:H a=some (.tup xs)):ny K H (.ref a) (.type "tuple")
 |dK {a:Addr} {kvs:List (dq×V)} (e:H a=some (.dK kvs)):ny K H (.ref a) (.type "dict")
 |dT {a:Addr} {kvs:List (List dq×V)} (e:H a=some (.dT kvs)):ny K H (.ref a) (.type "dict")
 |ins {a C dx:Addr} {fs:List (Str×V)} (e:H a=some (.ins C dx fs)) (cl:Fx K C) (ha:PySem.W.findIn K (.ref C) "__class__"=some (some (.builtin "object.__class__")))
   (hn:PySem.W.specialIn K (.builtin "object.__class__") "__get__"=some (some (.builtin "getset_descriptor.__get__"))) (TC:PySem.W.takesIn K (.builtin "object.__class__")=some true)
   (hm:PySem.W.mroIn K C (.type "object")=some true):ny K H (.ref a) (.ref C)
theorem A_(I:aK X ae σ H s)(rx:be x u)(ty:ny X.K H x t)(e:PySem.W.kitOne X.K t c=some b)(h:∀tk,Q (.bool b) { s with toks:=tk }):
  wpAny (model X.prog X.w) A (call (.builtin "isinstance") [u,c]) Q E s:=by
 cases ty with
 |bH=>cases (show u=Value.none from rx);exact je PySem.W.kitx_none I.ng True.intro e (fun z=>nomatch z) h
 |bl y=>cases (show u=Value.bool y from rx);exact je PySem.W.kitx_bool I.ng True.intro e (fun z=>nomatch z) h
 |int i=>obtain⟨t,q⟩:=(show ∃t,u=Value.int i t from rx);cases q;exact je PySem.W.kitx_int I.ng True.intro e (fun z=>nomatch z) h
 |str y=>obtain⟨t,q⟩:=(show ∃t,u=Value.str y t from rx);cases q;exact je PySem.W.kitx_str I.ng True.intro e (fun z=>nomatch z) h
 |IR y=>obtain⟨t,q⟩:=(show ∃t,u=Value.float y t from rx);cases q;exact je PySem.W.kitx_float I.ng True.intro e (fun z=>nomatch z) h
 |@lst a xs ea=>
  cases (show u=Value.ref a from rx);obtain⟨_,_,n,_,h1⟩:=(show bQ X.prog X.w H s.heap a (.lst xs) from I.bA a _ ea)
  exact je PySem.W.kitx_list I.ng ⟨_,h1,rfl⟩ e (fun z=>nomatch z) h
 |@iF a ob xs ea=>
  cases (show u=Value.ref a from rx);obtain⟨_,_,_,n,_,h1⟩:=(show bQ X.prog X.w H s.heap a (.iF ob (.lst xs)) from I.bA a _ ea)
  exact je PySem.W.kitx_list I.ng ⟨_,h1,rfl⟩ e (fun z=>nomatch z) h
 |@tup a xs ea=>
  cases (show u=Value.ref a from rx);obtain⟨_,_,_,p⟩:=(show bQ X.prog X.w H s.heap a (.tup xs) from I.bA a _ ea)
  obtain⟨o,h1,h2,_⟩:=p;exact je PySem.W.kitx_tuple I.ng ⟨o,h1,h2⟩ e (fun z=>nomatch z) h
 |@dK a kvs ea=>
  cases (show u=Value.ref a from rx);obtain⟨_,_,vs,_,p⟩:=(show bQ X.prog X.w H s.heap a (.dK kvs) from I.bA a _ ea)
  obtain⟨o,es,ep,h1,h2,_⟩:=p;exact je PySem.W.kitx_dict I.ng ⟨o,h1,h2.1⟩ e (fun z=>nomatch z) h
 |@dT a kvs ea=>
  cases (show u=Value.ref a from rx);obtain⟨_,_,xs,_,o,es,ep,h1,h2,_⟩:=(show bQ X.prog X.w H s.heap a (.dT kvs) from I.bA a _ ea)
  exact je PySem.W.kitx_dict I.ng ⟨o,h1,h2.1⟩ e (fun z=>nomatch z) h
 |@ins a C dx fs ea cl ha hn TC hm=>
  cases (show u=Value.ref a from rx);obtain⟨mA,O,_⟩:=oW I.bA ea;obtain⟨od,J,_⟩:=O.look;exact je (PySem.W.kitx_own (cl.get _) cl.hd ha hn TC hm) I.ng J e (fun z=>nomatch z) h
end
structure bW(k:Nat)(A:Around):Prop where
 hd:A.handled=none
 dp:A.depth+3*k+5<recursionLimit
 un:A.units+16*k+200<cLine
 gd:A.guards=some []
theorem bW.mono(r:bW k A)(h:j<=k):bW j A:=⟨r.hd,by have:=r.dp;lia,by have:=r.un;lia,r.gd⟩
theorem bW.deeper(r:bW (k+1) A)(env:Env):bW k (A.deeper env):=
 ⟨r.hd,by have:=r.dp;show A.depth+1+3*k+5<_;lia,by have:=r.un;show A.units+3+16*k+200<_;lia,r.gd⟩
theorem yx{A:Around}{C:Addr}{us:List Value}{kw:List (Str×Value)}:(A.under (.builtin "type.__call__" ⟨.ref C::us,kw⟩)).depth=A.depth+1:=by
 first|rfl|simp[Around.under,Code.weight,Code.isCreation,Code.isGuard,Code.isCaller,Code.frames,Code.isFrame,guardIds]
theorem yy{A:Around}{C:Addr}{us:List Value}{kw:List (Str×Value)}:(A.under (.builtin "type.__call__" ⟨.ref C::us,kw⟩)).units=A.units+1:=by
 first|rfl|simp[Around.under,Code.cUnits,Code.frames,Code.isFrame]
theorem bW.make(r:bW (k+1) A)(C:Addr)(us:List Value)(kw:List (Str×Value)):bW k (A.under (.builtin "type.__call__" ⟨.ref C::us,kw⟩)):=
 ⟨r.hd,by have:=r.dp;rw[yx];lia,by have:=r.un;rw[yy];lia,r.gd⟩
theorem bW.depth(r:bW k A):A.depth<recursionLimit:=by have:=r.dp;lia
theorem bW.u(r:bW k A)(h:n<=200:=by decide):A.units+n<cLine:=by have:=r.un;lia
def lH:TA:=fun _ H Q=>Q [] H
def cH(ta:TE)(tr:TA):TA:=fun σ H Q=>ta σ H fun x H1=>tr σ H1 fun xs H2=>Q (x::xs) H2
section
variable {X:Cx} {e:Expr} {es:List Expr} {te:TE} {t:TA} {pos:Pos}
theorem ag:PA X [] lH:=fun _ _ _ _ H Q I h=>Calls.spliced_nil ⟨[],H,I,.nil,h⟩
theorem aa(ha:PE X e te)(hr:PA X es t)(hs:starEach (e::es) X.env=(false,eval e X.env)::starEach es X.env:=by rfl):PA X (e::es) (cH te t):=by
 intro pos ae s σ H Q I h;rw[hs];show wpAny _ _ (spliced ((false,eval e X.env)::backTo pos (starEach es X.env))) _ _ s;refine Calls.spliced_cons (bZ (ha ae s σ H _ I h) fun u s1 ⟨x,H1,I1,r1,q1⟩=>?_);exact bZ (hr pos ae s1 σ H1 _ I1 q1) fun us s2 ⟨xs,H2,I2,r2,q2⟩=>⟨x::xs,H2,I2,.cons r1 r2,q2⟩
def yz(t:TA):TE:=fun σ H Q=>t σ H fun xs H1=>xs.length<=sizeLine/\∀p,H1 p=none->Q (.ref p) (upd H1 p (.tup xs))
def N_(t:TA):TE:=fun σ H Q=>t σ H fun xs H1=>xs.length<=sizeLine/\∀p,H1 p=none->Q (.ref p) (upd H1 p (.lst xs))
theorem fZ{x1}(h:PA X es t):PE X (.Tuple es x1 pos) (yz t):=by
 intro ae s σ H Q I hq;refine wpAny_Tuple_spliced (bZ (h pos ae s σ H _ I hq) fun us s1 ⟨xs,H1,I1,r,z,q⟩=>⟨by rw[<-r.length];exact z,?_⟩);have hf:H1 s1.heap.objs.size=none:=I1.bA.fresh (aL _);refine⟨.ref s1.heap.objs.size,upd H1 s1.heap.objs.size (.tup xs),I1.laid (t':=s1.toks) (fun b u e=>cq _ e) (aL _) ?_,rfl,q _ hf⟩;exact⟨z,us,r,⟨_,cV _ rfl,rfl,_,rfl,rfl⟩⟩
theorem dX(h:PA X es t):PE X (.List es pos) (N_ t):=by
 intro ae s σ H Q I hq;refine wpAny_List_spliced (bZ (h pos ae s σ H _ I hq) fun us s1 ⟨xs,H1,I1,r,z,q⟩=>⟨by rw[<-r.length];exact z,?_⟩);have hf:H1 s1.heap.objs.size=none:=I1.bA.fresh (aL _);refine⟨.ref s1.heap.objs.size,upd H1 s1.heap.objs.size (.lst xs),I1.laid (t':=s1.toks) (fun b u e=>cq _ e) (aL _) ?_,rfl,q _ hf⟩;exact⟨z,us,0,r,cV _ rfl⟩
end
abbrev Sp:=List V->Hp->VK->XK->Prop
abbrev vK:=List Env->Hp->Shared->XK->Value->Shared->Prop
structure vL(P:Program)(w:World)(K:PySem.W.Frag)(mg:Str->Option Value)(base:Heap)(A:Around)(outer:List Env)(s:Shared)(H:Hp):Prop where
 frames:A.frames=some outer
 mod:Mod K mg base
 bs:∀b o,base.get? b=some o->s.heap.get? b=some o/\H b=none
 Cg:base.objs.size<=s.heap.objs.size
 m_:s.heap.FunFrames base outer
 J2:∀b∈A5 outer,H b=none
 bA:iM P w H s.heap
 bare:AllBare s.gens
def CE(outer:List Env)(P:Program)(w:World)(H:Hp)(s:Shared)(Q:VK)(u:Value)(s':Shared):Prop:=
 ∃v H',s'.os=s.os/\AllBare s'.gens/\Un (A5 outer) [] H H' s.heap s'.heap/\iM P w H' s'.heap/\be v u/\Q v H'
def CR(CX:vK)(outer:List Env)(P:Program)(w:World)(H:Hp)(s:Shared)(Q:VK)(E:XK)(r:Result)(s':Shared):Prop:=
 match r with
 |.ok (.ret u)=>CE outer P w H s Q u s'
 |.ok _=>False
 |.error e=>CX outer H s E e s'
structure br(P:Program)(w:World)(K:PySem.W.Frag)(mg:Str->Option Value)(base:Heap)(CX:vK)(k:Nat)(f:Addr)(fd:FuncData)(ps:List Str)(sp:Sp):Prop where
 len:∀vs H Q E,sp vs H Q E->vs.length=ps.length
 run:∀ (A:Around) (outer:List Env) (s:Shared) (H:Hp) (args:Args) (us:List Value) (vs:List V) (Q:VK) (E:XK),bW k A->vL P w K mg base A outer s H->BindsTo s fd args (ps.zip us)->aW vs us->sp vs H Q E->
  codeAny (model P w) A (.call (.ref f) args) (CR CX outer P w H s Q E) s
theorem vL.make{P:Program}{w:World}{K:PySem.W.Frag}{mg:Str->Option Value}{base:Heap}{A:Around}{outer:List Env}{s:Shared}{H:Hp}(e:vL P w K mg base A outer s H)(C:Addr)(us:List Value)(kw:List (Str×Value)):
  vL P w K mg base (A.under (.builtin "type.__call__" ⟨.ref C::us,kw⟩)) outer s H:=⟨by first|exact e.frames|(simpa [Around.under,Code.envs,Code.isFrame,pushEnvs] using e.frames),e.mod,e.bs,e.Cg,e.m_,e.J2,e.bA,e.bare⟩
section
variable {X:Cx} {ae:List (Addr×Obj)} {σ:St} {H:Hp} {s s':Shared}
theorem aK.Kr(I:aK X ae σ H s):vL X.prog X.w X.K X.mg X.base X.A X.stack s H:=
 ⟨I.ok.frames,I.ok.mod,I.bs,bB I.ok.Cg I.sz,I.stack,I.oT,I.bA,I.bare⟩
theorem aK.after(I:aK X ae σ H s)(h:CE X.stack X.prog X.w H s Q u s'):EP X ae σ Q u s':=by
 obtain⟨v,H',os,bare,un,bA,r,q⟩:=h;obtain⟨hh,g,d,t,Zh⟩:=s';obtain rfl:Zh=s.os:=os;exact⟨v,H',I.call (h':=hh) (g':=g) (d':=d) (t':=t) (ch:=[]) un bA bare (fun b z=>absurd z (by simp)),r,q⟩
end
def rY(sp:Sp)(re:List V)(E:XK)(t:TA):TE:=fun σ H Q=>t σ H fun vs H1=>sp (vs++re) H1 Q E
def Oa(C:Addr)(m:Str)(sp:Sp)(re:List V)(E:XK)(ta:TE)(t:TA):TE:=fun σ H Q=>ta σ H fun x H1=>∃a dx fs,x=.ref a/\H1 a=some (.ins C dx fs)/\fs.lookup m=none/\
 t σ H1 fun vs H2=>sp (x::(vs++re)) H2 Q E
def Ob(C:Addr)(sp:Sp)(re:List V)(E:XK)(t:TA):TE:=fun σ H Q=>t σ H fun vs H1=>∀x dx,H1 x=none->H1 dx=none->dx≠x->
 sp (.ref x::(vs++re)) (upd (upd H1 dx (.own x)) x (.ins C dx [])) (fun v H2=>v=.bH/\Q (.ref x) H2) E
def jI(K:PySem.W.Frag)(fd:FuncData)(ps:List Str)(ds:List Value):Prop:=
 ∀ (s:Shared) (us:List Value),K.In s.heap->(us++ds).length=ps.length->BindsTo s fd ⟨us,[]⟩ (ps.zip (us++ds))
theorem jI.all{K:PySem.W.Frag}{fd:FuncData}{ps:List Str}(h:∀us:List Value,us.length=ps.length->bindArgs fd ⟨us,[]⟩=pure (ps.zip us)):jI K fd ps []:=fun s us _ hl=>by
 rw[mZ] at hl |-;exact .of_eq (h us hl)
def lI(CX:vK)(X:Cx)(E:XK):Prop:=∀ (ae:List (Addr×Obj)) (σ:St) (H:Hp) (s:Shared) (e:Value) (s':Shared),aK X ae σ H s->CX X.stack H s E e s'->X.xe e s'
section
variable {X:Cx} {CX:vK} {k:Nat} {f C:Addr} {fd:FuncData} {ps:List Str} {sp:Sp} {re:List V} {ds:List Value} {E:XK} {x m:Str} {p pos uu:Pos} {e o:Expr} {es:List Expr} {ta:TE} {t:TA}
theorem C0(F:br X.prog X.w X.K X.mg X.base CX k f fd ps sp)(hr:bW k X.A)(hb:jI X.K fd ps ds)(hd:aW re ds)(hx:lI CX X E)(I:aK X ae σ H s)(r:aW vs us)(h:sp (vs++re) H Q E):wpAny (model X.prog X.w) X.A (call (.ref f) us) (EP X ae σ Q) X.xe s:=by
 have r2:aW (vs++re) (us++ds):=r.append hd;have hl:(us++ds).length=ps.length:=by rw[<-r2.length];exact F.len _ _ _ _ h
 refine m4 (lA (F.run X.A X.stack s H ⟨us,[]⟩ (us++ds) (vs++re) Q E hr I.Kr (hb s us I.ng hl) r2 h) fun r s' hq=>?_);cases r with
 |error e=>exact hx ae σ H s e s' I hq
 |ok fl=>
  cases fl with
  |ret u=>exact I.after hq
  |next=>exact False.elim hq
  |brk=>exact False.elim hq
  |cont=>exact False.elim hq
theorem F1(F:br X.prog X.w X.K X.mg X.base CX k f fd ps sp)(hr:bW k X.A)(hg:Gl X x)(hm:X.mg x=some (.ref f))(hk:PySem.W.keepIn X.K (.ref f)=true)(hb:jI X.K fd ps ds)(hd:aW re ds)(hx:lI CX X E)(ha:PA X (e::es) t)(Ba:(x==("__debug__":Str))=false:=by decide)(he:starEach (e::es) X.env=(false,eval e X.env)::starEach es X.env:=by rfl)(xk:(backTo pos (starEach es X.env)).any (·.1)=false:=by rfl):
  PE X (.Call (.Name x p) (e::es) [] pos) (rY sp re E t):=by
 intro ae s σ H Q I h;refine lc (oU I hg hm ?_ Ba);refine tP (h₀:=X.base) I.ok.mod.M8 hk (bZ (ha pos ae s σ H _ I h) fun us s1 ⟨vs,H1,I1,r,q⟩=>⟨I1.ng,?_⟩) he xk;exact C0 F hr hb hd hx I1 r q
theorem iR(he:PE X o ta)(c:Fx X.K C)(hm:Kn X.K C m f)(F:br X.prog X.w X.K X.mg X.base CX k f fd ps sp)(hr:bW k X.A)(hb:jI X.K fd ps ds)(hd:aW re ds)(hx:lI CX X E)(ha:PA X (e::es) t)(nq:starEach (e::es) X.env=(false,eval e X.env)::starEach es X.env:=by rfl)(xk:(backTo pos (starEach es X.env)).any (·.1)=false:=by rfl)(ht:eval (.Call (.Attribute o m uu) (e::es) [] pos) X.env=(do
   let ov <- eval o X.env
   standAt uu.atName
   let (f,first) <- holding [ov] (getMethod ov m pl)
   callWith pos f first (backTo pos (starEach (e::es) X.env)) (backToKw pos (keywordEach [] X.env))):=by rfl):
  PE X (.Call (.Attribute o m uu) (e::es) [] pos) (Oa C m sp re E ta t):=by
 intro ae s σ H Q I h;refine PySem.W.methodCall_KW (pl:=pl) (bZ (he ae s σ H _ I h) fun u s1 ⟨x,H1,I1,rx,a,dx,fs,ex,ea,l,q⟩=>?_) ht;subst ex;obtain rfl:u=Value.ref a:=rx;refine yv I1 ea c hm l ?_;refine tP (first:=[.ref a]) (h₀:=X.base) I.ok.mod.M8 hm.kp (bZ (ha pos ae s1 σ H1 _ I1 q) fun us s2 ⟨vs,H2,I2,r,q2⟩=>⟨I2.ng,?_⟩) nq xk;exact C0 (us:=.ref a::us) (vs:=.ref a::vs) F hr hb hd hx I2 (.cons rfl r) q2
structure Mk(K:PySem.W.Frag)(C f:Addr):Prop where
 makes:PySem.W.makesIn K C=true
 init:PySem.W.findIn K (.ref C) "__init__"=some (some (.ref f))
 fn:PySem.W.isFn K (.ref f)=true
 kp:PySem.W.keepIn K (.ref C)=true
theorem C1(M:Mk X.K C f)(F:br X.prog X.w X.K X.mg X.base CX k f fd ps sp)(hr:bW (k+1) X.A)(hb:jI X.K fd ps ds)(hd:aW re ds)(hx:lI CX X E)(I:aK X ae σ H s)(r:aW vs us)(h:∀x dx,H x=none->H dx=none->dx≠x->sp (.ref x::(vs++re)) (upd (upd H dx (.own x)) x (.ins C dx [])) (fun v H2=>v=.bH/\Q (.ref x) H2) E):
  wpAny (model X.prog X.w) X.A (call (.ref C) us) (EP X ae σ Q) X.xe s:=by
 have hq:=h (s.heap.objs.size+1) s.heap.objs.size (I.bA.fresh (Nat.le_succ _)) (I.bA.fresh (aL _)) (aX (jw _));have I2:=aK.made (C:=C) I;have r2:aW (V.ref (s.heap.objs.size+1)::(vs++re)) (Value.ref (s.heap.objs.size+1)::(us++ds)):=.cons rfl (r.append hd);have hl:(Value.ref (s.heap.objs.size+1)::us++ds).length=ps.length:=by
  have e:=r2.length;rw[F.len _ _ _ _ hq] at e;exact e.symm
 refine m4 (CZ (f:=f) I.ng M.makes M.init (gX.mp M.fn) (lA (F.run _ X.stack _ _ ⟨Value.ref (s.heap.objs.size+1)::us,[]⟩ (Value.ref (s.heap.objs.size+1)::(us++ds)) _ _ E (hr.make C us [])
  (I2.Kr.make C us []) (hb _ (Value.ref (s.heap.objs.size+1)::us) I2.ng hl) r2 hq) fun r s' F2=>?_))
 cases r with
 |error e=>exact hx ae σ _ _ e s' I2 F2
 |ok fl=>
  cases fl with
  |ret u=>
   obtain⟨v,H',I3,rv,ev,q3⟩:=I2.after F2;subst ev;exact⟨rv,⟨V.ref (s.heap.objs.size+1),H',I3,rfl,q3⟩⟩
  |next=>exact False.elim F2
  |brk=>exact False.elim F2
  |cont=>exact False.elim F2
theorem F5(M:Mk X.K C f)(F:br X.prog X.w X.K X.mg X.base CX k f fd ps sp)(hr:bW (k+1) X.A)(hg:Gl X x)(hm:X.mg x=some (.ref C))(hb:jI X.K fd ps ds)(hd:aW re ds)(hx:lI CX X E)(ha:PA X (e::es) t)(Ba:(x==("__debug__":Str))=false:=by decide)(he:starEach (e::es) X.env=(false,eval e X.env)::starEach es X.env:=by rfl)(xk:(backTo pos (starEach es X.env)).any (·.1)=false:=by rfl):
  PE X (.Call (.Name x p) (e::es) [] pos) (Ob C sp re E t):=by
 intro ae s σ H Q I h;refine lc (oU I hg hm ?_ Ba);refine tP (h₀:=X.base) I.ok.mod.M8 M.kp (bZ (ha pos ae s σ H _ I h) fun us s1 ⟨vs,H1,I1,r,q⟩=>⟨I1.ng,?_⟩) he xk;exact C1 M F hr hb hd hx I1 r q
end
def PK(X:Cx)(C2:List Keyword)(t:TA):Prop:=
 ∀ (pos:Pos) (ae:List (Addr×Obj)) (s:Shared) (σ:St) (H:Hp) (Q:List V->Hp->Prop),aK X ae σ H s->t σ H Q->wpAny (model X.prog X.w) X.A (evalAll ((backToKw pos (keywordEach C2 X.env)).map (·.2))) (AP X ae σ Q) X.xe s
section
variable {X:Cx} {CX:vK} {k:Nat} {f C:Addr} {fd:FuncData} {ps ks:List Str} {sp:Sp} {E:XK} {x m:Str} {p pos uu TF:Pos} {e o:Expr} {es:List Expr} {C2:List Keyword} {te ta:TE} {t tk:TA} {nm:Option Str}
theorem Ks:PK X [] lH:=fun _ _ _ _ H Q I h=>wpAny_evalAll_nil ⟨[],H,I,.nil,h⟩
theorem F6(ha:PE X e te)(hr:PK X C2 t):PK X (⟨nm,e,TF⟩::C2) (cH te t):=by
 intro pos ae s σ H Q I h;show wpAny _ _ (evalAll ((do let v <- eval e X.env;standAt pos;pure v)::(backToKw pos (keywordEach C2 X.env)).map (·.2))) _ _ s;refine wpAny_evalAll_cons (aI (bZ (ha ae s σ H _ I h) fun u s1 ⟨x,H1,I1,r1,q1⟩=>aI (pV (wpAny_pure ?_))));exact bZ (hr pos ae s1 σ H1 _ I1 q1) fun us s2 ⟨xs,H2,I2,r2,q2⟩=>⟨x::xs,H2,I2,.cons r1 r2,q2⟩
variable {g:List Value->List Value->List Value} {gV:List V->List V->List V}
end
structure aG(N P:List Str)(sc:Scope):Prop where
 kind:sc.kind=.function
 co:sc.isCoroutine=false
 gen:sc.isGenerator=false
 nd:N.Nodup
 pre:N.take P.length=P
 par:∀x∈P,sc.names.lookup x=some .local\/sc.names.lookup x=some .cell
 Ku:∀y∈sc.names,y.2≠.free
theorem rZ{kindOf:Str->Option NameKind}{x:Str}:∀ {binds:List (Str×Value)} {m:Str->Option Value},(∀v,(x,v)∉binds)->bindL kindOf binds m x=m x
 |[],_,_=>rfl
 |(n,v)::r,m,h=>by
  unfold bindL;rw[rZ fun w hw=>h w (cC _ hw)];split
  .have:x≠n:=by rintro rfl;exact h v b9
   simp[this]
  .rfl
theorem r9{kindOf:Str->Option NameKind}{x:Str}:∀ {binds:List (Str×Value)} {m:Str->Option Value},(∀v,(x,v)∉binds)->bindC kindOf binds m x=m x
 |[],_,_=>rfl
 |(n,v)::r,m,h=>by
  unfold bindC;rw[r9 fun w hw=>h w (cC _ hw)];split
  .rfl
  .have:x≠n:=by rintro rfl;exact h v b9
   simp[this]
theorem r_{kindOf:Str->Option NameKind}{x:Str}{v:Value}:∀ {P:List Str} {vs:List Value} {i:Nat} {m:Str->Option Value},P.Nodup->P[i]?=some x->vs[i]?=some v->kindOf x=some .local->
  bindL kindOf (P.zip vs) m x=some v
 |[],_,_,_,_,h,_,_=>by simp at h
 |_::_,[],_,_,_,_,h,_=>by simp at h
 |p::P,w::vs,0,m,nd,h1,h2,hk=>by
  simp at h1 h2;subst h1;subst h2;show bindL kindOf ((p,w)::P.zip vs) m p=_;unfold bindL;rw[rZ fun v hv=>(dQ.mp nd).1 (mY hv).1,ao hk];simp
 |p::P,w::vs,i+1,m,nd,h1,h2,hk=>by
  show bindL kindOf ((p,w)::P.zip vs) m x=_;unfold bindL;exact r_ (i:=i) (dQ.mp nd).2 (by simpa using h1) (by simpa using h2) hk
theorem sd{kindOf:Str->Option NameKind}{x:Str}{v:Value}:∀ {P:List Str} {vs:List Value} {i:Nat} {m:Str->Option Value},P.Nodup->P[i]?=some x->vs[i]?=some v->kindOf x≠some .local->
  bindC kindOf (P.zip vs) m x=some v
 |[],_,_,_,_,h,_,_=>by simp at h
 |_::_,[],_,_,_,_,h,_=>by simp at h
 |p::P,w::vs,0,m,nd,h1,h2,hk=>by
  simp at h1 h2;subst h1;subst h2;show bindC kindOf ((p,w)::P.zip vs) m p=_;unfold bindC;rw[r9 fun v hv=>(dQ.mp nd).1 (mY hv).1,ap hk];simp
 |p::P,w::vs,i+1,m,nd,h1,h2,hk=>by
  show bindC kindOf ((p,w)::P.zip vs) m x=_;unfold bindC;exact sd (i:=i) (dQ.mp nd).2 (by simpa using h1) (by simpa using h2) hk
def start(N:List Str)(vs:List V):St:=vs.map some++List.replicate (N.length-vs.length) none
def uv(CX:vK)(P:Program)(w:World)(K:PySem.W.Frag)(mg:Str->Option Value)(base:Heap)(N:List Str)(qual:Str)(scope:Scope)(f:Addr)(cd:Value)(A:Around)(outer:List Env)(s:Shared)(H:Hp)(E:XK):Cx where
 prog:=P
 w:=w
 K:=K
 mg:=mg
 base:=base
 A:=A.deeper (envOfC qual scope s.heap.objs.size f cd)
 N:=N
 s₀:=s
 H₀:=H
 env:=envOfC qual scope s.heap.objs.size f cd
 outer:=outer
 stack:=envOfC qual scope s.heap.objs.size f cd::outer
 ex:=[]
 calm:=true
 fn:=fun _=>true
 pn:=[]
 xe:=fun e s'=>wpAny (model P w) (A.deeper (envOfC qual scope s.heap.objs.size f cd)) (leaving (envOfC qual scope s.heap.objs.size f cd) e) (fun _ Oc=>CX outer H s E e Oc) (fun e' Oc=>CX outer H s E e' Oc) s'
theorem vM{sc:Scope}{n:Nat}{x:Str}(h:sc.names.lookup x=some .cell):∃c,(cellsFrom n sc.names []).lookup x=some c:=by
 have q:=PySem.W.cellsFrom_some sc.names n [] (.inl h);exact pD.mp q
theorem Bb{CX:vK}{P:Program}{w:World}{K:PySem.W.Frag}{mg:Str->Option Value}{base:Heap}{N ps:List Str}{qual:Str}{scope:Scope}{f:Addr}{cd:Value}{A:Around}{outer:List Env}{s s1:Shared}{H:Hp}{E:XK}{us:List Value}{vs:List V}(S:aG N ps scope)(hd:A.handled=none)(e0:vL P w K mg base A outer s H)(hl:vs.length=ps.length)(r:aW vs us)(x:InCallC s s.heap.objs.size (bindL (envOfC qual scope s.heap.objs.size f cd).kindOf (ps.zip us) fun _=>none) (cellsFrom (s.heap.objs.size+1) scope.names []) (bindC (envOfC qual scope s.heap.objs.size f cd).kindOf (ps.zip us) fun _=>none) s1):
  aK (uv CX P w K mg base N qual scope f cd A outer s H E) [] (start N vs) H s1:=by
 have xk:ps.length<=N.length:=by have:=congrArg List.length S.pre;rw[jc] at this;lia
 obtain⟨h1,tk,rfl,hk⟩:=x.done;have Na:∀b:Addr,b∉(uv CX P w K mg base N qual scope f cd A outer s H E).ex:=fun b z=>absurd (show b∈([]:List Addr) from z) (by simp);refine⟨⟨e0.mod,S.kind,rfl,rfl,aL _,fun y z c h1 h2=>?_,fun y hy=>?_,fun y c _ h=>?_,fun _=>hd,Around.frames_deeper e0.frames,.inr ⟨rfl,rfl⟩,fun b z=>absurd z (Na b),e0.bs,e0.Cg,fun b _ _=>Na b,fun b z=>absurd z (Na b),e0.m_,e0.J2⟩,
  rfl,e0.bare,Un.kept hk,⟨_,x.toInCall.ns,fun i y v h1 h2 h3=>?_⟩,fun y c h=>⟨_,x.cell y c h⟩,e0.bA.fresh (aL _),fun y c h=>?_,fun p hp=>absurd (show p∈([]:List (Addr×Obj)) from hp) (by simp),e0.bA.kept hk,?_⟩
 .exact name_of_addr x.apart (jp h1) (jp h2)
 .have hy:scope.names.lookup y=some .cell\/scope.names.lookup y=some .free:=hy;rcases hy with hy|hy
  .exact vM hy
  .exact absurd rfl (S.Ku _ (jp hy))
 .exact dG (x.above y c (jp h))
 .have hi:i<vs.length:=by
   unfold start at h2;by_cases hi:i<vs.length
   .exact hi
   .rw[nZ (by simpa using hi)] at h2;rw[xC] at h2;split at h2 <;> cases h2
  have ha:vs[i]?=some v:=by
   unfold start at h2;rw[i8 (by simpa using hi),bn] at h2;cases e:vs[i]? with
   |none=>rw[e] at h2;cases h2
   |some a=>rw[e] at h2;cases h2;rfl
  obtain⟨u,hu,rv⟩:=r.get ha;have hp:ps[i]?=some y:=by
   rw[<-S.pre,xA (by lia)];exact h1
  have Xl:ps.Nodup:=by rw[<-S.pre];exact S.nd.sublist (tQ _ _)
  refine⟨u,rv,?_⟩;rcases S.par y (dP hp) with k|k
  .exact .inl ⟨k,r_ Xl hp hu k⟩
  .obtain⟨c,e⟩:=vM (n:=s.heap.objs.size+1) k;refine .inr ⟨.inl k,c,e,?_⟩;have q:=x.cell y c e;rw[sd Xl hp hu (by show scope.names.lookup y≠_;rw[k];decide)] at q;exact q
 .exact e0.bA.fresh (dG (x.above y c (jp h)))
 .unfold start;show _=N.length;rw[cr,aO,pr];lia
theorem Jd{CX:vK}{P:Program}{w:World}{K:PySem.W.Frag}{mg:Str->Option Value}{base:Heap}{k:Nat}{f:Addr}{name qual:Str}{params:Arguments}{body:List Stmt}{scope:Scope}{dV kV me pm dL ct oc:Value}{an od:Option Addr}{xm:Array (Option Value)}{N ps:List Str}{sp:Sp}(lk:K.lookup f=some ⟨oc,od,.func (PySem.W.fnOf name qual params body scope dV kV me pm an dL ct),xm⟩)(rQ:PySem.W.codeIn K dL qual=true)(S:aG N ps scope)(len:∀vs H Q E,sp vs H Q E->vs.length=ps.length)(vN:∀ (A:Around) (outer:List Env) (s:Shared) (H:Hp) (vs:List V) (Q:VK) (E:XK),bW k (A.deeper (envOfC qual scope s.heap.objs.size f dL))->sp vs H Q E->
   ∃t,yj (uv CX P w K mg base N qual scope f dL A outer s H E) body t/\t { nx:=fun _ H'=>Q .bH H',rt:=Q } (start N vs) H):
  br P w K mg base CX (k+1) f (PySem.W.fnOf name qual params body scope dV kV me pm an dL ct) ps sp:=by
 refine⟨len,fun A outer s H args us vs Q E hr e0 hb r Fy=>?_⟩;have hl:=len _ _ _ _ Fy;have KX:K.In s.heap:=e0.mod.M8.keeps fun b o e=>(e0.bs b o e).1;have Zi:s.heap.NoLimit:=e0.mod.nolimit.keeps fun b o e=>(e0.bs b o e).1;have Od:∀y∈ps.zip us,scope.names.lookup y.1=some .local\/(scope.names.lookup y.1=some .cell/\((cellsFrom (s.heap.objs.size+1) scope.names []).lookup y.1).isSome=true):=fun ⟨n,v⟩ hy=>by
  rcases S.par n (mY hy).1 with q|q
  .exact .inl q
  .exact .inr ⟨q,PySem.W.cellsFrom_some _ _ _ (.inl q)⟩
 refine codeAny_call_function hr.depth (KX _ _ lk) rfl S.co S.gen rfl (PySem.W.codeRec_of KX rQ) (hb _ _ _ _ ?_);refine wpAny_newFunctionEnv_cells S.kind Od fun env he s1 x=>?_;subst he;refine⟨Zi.keeps x.toInCall.keep,codeAny_func ?_⟩;obtain⟨t,ht,hq⟩:=vN A outer s H vs Q E (hr.deeper _) Fy;have I:aK (uv CX P w K mg base N qual scope f dL A outer s H E) [] (start N vs) H s1:=Bb S hr.hd e0 hl r x;refine h9 (ht [] s1 (start N vs) H _ I hq) (fun fl s' hs=>?_) fun e s' hs=>hs;have fin:∀ {σ':St} {H':Hp} {v:V} {u:Value},aK (uv CX P w K mg base N qual scope f dL A outer s H E) [] σ' H' s'->be v u->Q v H'->CE outer P w H s Q u s':=
  fun {σ' H' v u} J rv q=>⟨v,H',J.os,J.bare,J.base,J.bA,rv,q⟩
 cases fl with
 |ret u=>
  obtain⟨v,σ',H',J,rv,q⟩:=hs;exact fin J rv q
 |next=>
  obtain⟨σ',H',J,q⟩:=hs;exact fin (v:=V.bH) (u:=Value.none) J rfl q
 |brk=>
  obtain⟨_,_,_,q⟩:=hs;exact False.elim q
 |cont=>
  obtain⟨_,_,_,q⟩:=hs;exact False.elim q
section
variable {X:Cx} {x:Str} {p pos:Pos} {e:Expr} {es:List Expr} {t:TA} {id T:String} {r:List V->Hp->VK->Prop}
def RI(r:List V->Hp->VK->Prop)(t:TA):TE:=fun σ H Q=>t σ H fun vs H1=>r vs H1 Q
theorem aA(hc:eN X (.builtin id) r)(hg:Gl X x)(hm:X.mg x=none)(hv:bootBuiltins x=some (.builtin id))(ha:PA X (e::es) t)(hn:x≠"__name__":=by decide)(Ba:(x==("__debug__":Str))=false:=by decide)(he:starEach (e::es) X.env=(false,eval e X.env)::starEach es X.env:=by rfl)(xk:(backTo pos (starEach es X.env)).any (·.1)=false:=by rfl):PE X (.Call (.Name x p) (e::es) [] pos) (RI r t):=by
 intro ae s σ H Q I h;refine lc (jE I hg hm hv ?_ hn Ba);exact PyProof.Rows.callWith_builtin1 (bZ (ha pos ae s σ H _ I h) fun us s1 ⟨vs,H1,I1,r1,q1⟩=>hc ae s1 σ H1 vs us Q I1 r1 q1) he xk
theorem dg(hc:eN X (.type T) r)(hg:Gl X x)(hm:X.mg x=none)(hv:bootBuiltins x=some (.type T))(ha:PA X (e::es) t)(hn:x≠"__name__":=by decide)(Ba:(x==("__debug__":Str))=false:=by decide)(he:starEach (e::es) X.env=(false,eval e X.env)::starEach es X.env:=by rfl)(xk:(backTo pos (starEach es X.env)).any (·.1)=false:=by rfl):PE X (.Call (.Name x p) (e::es) [] pos) (RI r t):=by
 intro ae s σ H Q I h;refine lc (jE I hg hm hv ?_ hn Ba);exact pC (bZ (ha pos ae s σ H _ I h) fun us s1 ⟨vs,H1,I1,r1,q1⟩=>hc ae s1 σ H1 vs us Q I1 r1 q1) he xk
end
end L2
namespace HT
open PySem PyProof.Rows
section
open PySem.SeqAt
open PySem.AutoSeq1 (wpAny_loadPart')
open PySem.MeetsSeq PySem.MeetsSeq2 PySem.MeetsSeq3
end
section
variable {prog:Program} {w:World} {A:Around} {E:Value->Shared->Prop} {s:Shared}
def vt(n d:Nat):Option Int->Nat
 |none=>d
 |some v=>if v<0 then (v+(n:Int)).toNat else min v.toNat n
end
end HT
namespace L2
open PySem PySem.Spec PyProof.Rows
abbrev TO:=St->Hp->(Option Int->Hp->Prop)->Prop
def PO(X:Cx)(e:Option Expr)(t:TO):Prop:=
 ∀ (ae:List (Addr×Obj)) (s:Shared) (σ:St) (H:Hp) (Q:Option Int->Hp->Prop),aK X ae σ H s->t σ H Q->
  wpAny (model X.prog X.w) X.A (evalPart e X.env) (fun u s'=>∃o H',aK X ae σ H' s'/\IsPart u o/\Q o H') X.xe s
def F7:TO:=fun _ H Q=>Q none H
def Oe(t:TE):TO:=fun σ H Q=>t σ H fun x H1=>∃i,x=.int i/\Q (some i) H1
theorem yA{ns:List Int}:∀ {us:List Value},aW (ns.map V.int) us->IntsAre us ns:=by
 induction ns with
 |nil=>intro us r;rw[lw] at r;cases r;exact .nil
 |cons n ns ih=>
  intro us r;rw[cW] at r;cases r with
  |cons r1 r2=>
   obtain⟨t,e⟩:=r1;subst e;exact .cons n t (ih r2)
section
variable {X:Cx} {e:Expr} {te:TE} {lo hi:Option Expr} {tl th:TO} {pos p2:Pos}
theorem zP:PO X none F7:=by
 intro ae s σ H Q I h;rw[evalPart_none];exact wpAny_pure ⟨none,H,I,.none,h⟩
theorem zQ(h:PE X e te):PO X (some e) (Oe te):=by
 intro ae s σ H Q I hw;rw[evalPart_some];refine bZ (h ae s σ H _ I hw) fun u s1 ⟨x,H1,I1,r1,q1⟩=>?_;obtain⟨i,rfl,q⟩:=q1;obtain⟨t,rfl⟩:=r1;exact⟨some i,H1,I1,.int i t,q⟩
def Xm(X:Cx)(r:V->Option Int->Option Int->Hp->VK->Prop):Prop:=
 ∀ (ae:List (Addr×Obj)) (s:Shared) (σ:St) (H:Hp) (x:V) (v vl vu:Value) (lo hi:Option Int) (sl:Addr) (Q:VK),aK X ae σ H s->be x v->s.heap.IsSliceOf sl vl vu .none->IsPart vl lo->IsPart vu hi->r x lo hi H Q->
  ∃T id,typeLookup (.type T) "__getitem__"=pure (some (.builtin id))/\s.TypeIs v T/\wpAny (model X.prog X.w) X.A (getItem v (.ref sl)) (EP X ae σ Q) X.xe s
def Zj(r:V->Option Int->Option Int->Hp->VK->Prop)(te:TE)(tl th:TO):TE:=fun σ H Q=>te σ H fun x H1=>tl σ H1 fun l H2=>th σ H2 fun u H3=>r x l u H3 Q
theorem vO(hr:Xm X r)(he:PE X e te)(hl:PO X lo tl)(hu:PO X hi th):PE X (.Subscript e (.Slice lo hi none p2) pos) (Zj r te tl th):=by
 intro ae s σ H Q I h;refine Subscript_ (bZ (he ae s σ H _ I h) fun v s1 ⟨x,H1,I1,r1,q1⟩=>?_);refine wpAny_Slice (bZ (hl ae s1 σ H1 _ I1 q1) fun vl s2 ⟨l,H2,I2,pl,q2⟩=>bZ (hu ae s2 σ H2 _ I2 q2) fun vu s3 ⟨u,H3,I3,pu,q3⟩=>?_);rw[evalPart_none];refine wpAny_pure ?_;have I4:aK X ae σ H3 { s3 with heap:=s3.heap.push { cls:=.type "slice",data:=.fields #[vl,vu,.none] } }:=I3.kept (t':=s3.toks) fun b ob q=>cq _ q;obtain⟨T,id,hT,ht,hg⟩:=hr ae { s3 with heap:=s3.heap.push { cls:=.type "slice",data:=.fields #[vl,vu,.none] } } σ H3 x v vl vu l u s3.heap.objs.size Q I4 r1 (Heap.IsSliceOf.new ..) pl pu q3;show wpAny (model X.prog X.w) X.A (subscriptTail e (.Slice lo hi none p2) v (.ref s3.heap.objs.size)) (EP X ae σ Q) X.xe { s3 with heap:=s3.heap.push { cls:=.type "slice",data:=.fields #[vl,vu,.none] } };exact tail_any (ops:=[.ref s3.heap.objs.size,v]) ht hT hg (by with_unfolding_all rfl)
def Bc(xs:List V)(lo hi:Option Int):List V:=(xs.drop (HT.vt xs.length 0 lo)).take (HT.vt xs.length xs.length hi-HT.vt xs.length 0 lo)
theorem vP(xs:List V)(lo hi:Option Int):(Bc xs lo hi).length<=xs.length:=by
 unfold Bc;rw[jc,xX];lia
end
def C3(n:Nat)(i:Int):Option Nat:=if 0<=i then (if i<n then some i.toNat else none) else if -(n:Int)<=i then some (i+n).toNat else none
def ft{α:Type}(xs:List α)(i:Int):Option α:=(C3 xs.length i).bind fun j=>xs[j]?
theorem zR(h:C3 n i=some j):seqIndex? i n=some j/\j<n/\-(n:Int)<=i/\i<n:=by
 unfold C3 at h;by_cases h0:0<=i
 .rw[ao h0] at h;by_cases h1:i<n
  .rw[ao h1] at h;have e:i.toNat=j:=bR h;exact⟨by rw[seqIndex_of h0 h1,e],by lia,by lia,h1⟩
  .rw[ap h1] at h;cases h
 .rw[ap h0] at h;by_cases h1:-(n:Int)<=i
  .rw[ao h1] at h;have e:(i+n).toNat=j:=bR h;exact⟨by rw[seqIndex_neg (by lia) h1,e],by lia,h1,by lia⟩
  .rw[ap h1] at h;cases h
theorem zS(h:ft xs i=some v):∃j,seqIndex? i xs.length=some j/\xs[j]?=some v/\j<xs.length/\-(xs.length:Int)<=i/\i<xs.length:=by
 unfold ft at h;cases e:C3 xs.length i with
 |none=>rw[e] at h;cases h
 |some j=>
  rw[e] at h;obtain⟨h1,h2,h3,h4⟩:=zR e;exact⟨j,h1,h,h2,h3,h4⟩
theorem bf{α:Type}{xs:List α}{j:Nat}{v:α}(h:xs[j]?=some v):ft xs (j:Int)=some v:=by
 have hj:j<xs.length:=(cK.mp h).1;have e:C3 xs.length (j:Int)=some j:=by
  unfold C3;rw[ao (by lia),ao (by lia)];simp
 unfold ft;rw[e];exact h
theorem mf(xs:List α)(v:α):ft (xs++[v]) (-1)=some v:=by
 have hl:(xs++[v]).length=xs.length+1:=by simp
 have e:C3 (xs++[v]).length (-1)=some xs.length:=by
  unfold C3;rw[hl,ap (by decide),ao (by lia)];congr 1;lia
 unfold ft;rw[e];show (xs++[v])[xs.length]?=some v;simp
def zT(b:Expr):Prop:=∀o i,subscripted b false o i=operate [o,i] (getItem o i)
def TH(X:Cx)(r:R2):Prop:=
 ∀ (value slice:Expr) (ae:List (Addr×Obj)) (s:Shared) (σ:St) (H:Hp) (x y:V) (v u:Value) (Q:VK),aK X ae σ H s->be x v->be y u->r x y H Q->
  subscripted slice false v u=operate [v,u] (getItem v u)->wpAny (model X.prog X.w) X.A (subscriptTail value slice v u) (EP X ae σ Q) X.xe s
def Zk(X:Cx)(id:String)(r:V->List V->Hp->VK->Prop):Prop:=
 ∀ (ae:List (Addr×Obj)) (s:Shared) (σ:St) (H:Hp) (x:V) (xs:List V) (v:Value) (us:List Value) (Q:VK),aK X ae σ H s->be x v->aW xs us->r x xs H Q->
  wpAny (model X.prog X.w) X.A (call (.builtin id) (v::us)) (EP X ae σ Q) X.xe s
section
variable {X:Cx} {a b:Expr} {ta tb:TE} {pos:Pos}
theorem au(hr:TH X r)(ha:PE X a ta)(hb:PE X b tb)(hs:zT b):PE X (.Subscript a b pos) (l_ r ta tb):=by
 intro ae s σ H Q I h;exact Subscript_ (Kj ha hb I h fun v u s2 x y H2 I2 rx ry q=>hr a b ae s2 σ H2 x y v u Q I2 rx ry q (hs _ _))
def Bd(K:PySem.W.Frag):R2:=fun x y H Q=>∃p xs i v,x=.ref p/\y=.int i/\aU K H p xs/\ft xs i=some v/\Q v H
def vQ(K:PySem.W.Frag):R2:=fun x y H Q=>∃p xs i v,x=.ref p/\y=.int i/\cx K H p xs/\ft xs i=some v/\Q v H
theorem az:TH X (Bd X.K):=by
 intro value slice ae s σ H x y v u Q I rx ry h hs;obtain⟨p,xs,i,z,rfl,rfl,hq,he,q⟩:=h;cases rx;obtain⟨t,rfl⟩:=ry;obtain⟨its,r,pl,hz⟩:=I.list hq;obtain⟨j,h1,h2,h3,h4,h5⟩:=zS he;obtain⟨w,ew,F8⟩:=r.get h2;have hl:=r.length;have hn:=ur;have fin:EP X ae σ Q w s:=⟨z,H,I,F8,q⟩
 by_cases h0:0<=i
 .have hj:i.toNat=j:=by
   rw[seqIndex_of h0 h5] at h1;exact bR h1
  exact item_listR pl.isList h0 (by lia) (by rw[hj];simpa using ew) fin hs
 .have hj:(i+(its.toArray.size:Int)).toNat=j:=by
   rw[seqIndex_neg (by lia) h4] at h1;rw[cu,<-hl];exact bR h1
  exact subscriptTail_builtinR (x:=w) pl.isList.typeIs slot_list_getitem.lookup
   (wpAny_getItem_list_neg (Q:=fun r s'=>r=w/\EP X ae σ Q r s') pl.isList (by lia) (by rw[cu] <;> lia) (by lia) (by rw[hj];simpa using ew) ⟨rfl,fin⟩) hs
theorem aV:TH X (vQ X.K):=by
 intro value slice ae s σ H x y v u Q I rx ry h hs;obtain⟨p,xs,i,z,rfl,rfl,hq,he,q⟩:=h;cases rx;obtain⟨t,rfl⟩:=ry;obtain⟨its,r,pl,hz⟩:=I.tuple hq;obtain⟨j,h1,h2,h3,h4,h5⟩:=zS he;obtain⟨w,ew,F8⟩:=r.get h2;have hl:=r.length;have hn:=ur;have fin:EP X ae σ Q w s:=⟨z,H,I,F8,q⟩
 exact subscriptTail_builtinR (x:=w) pl.typeIs slot_tuple_getitem.lookup
  (getItem_tuple (j:=j) (Q:=fun r s'=>r=w/\EP X ae σ Q r s') pl (by lia) (by lia) (by rw[cu,<-hl];exact h1) (by simpa using ew) ⟨rfl,fin⟩) hs
theorem yB(its:List Value)(n j:Nat)(u:Value):Obj.mapSeq (·.setIfInBounds j u) { cls:=.type "list",data:=.seq its.toArray n }={ cls:=.type "list",data:=.seq (its.set j u).toArray n }:=by
 simp[Obj.mapSeq]
theorem aK.lst(I:aK X ae σ H s)(h:H p=some (.lst xs)):
  ∃ (its:List Value) (n:Nat),aW xs its/\s.heap.get? p=some { cls:=.type "list",data:=.seq its.toArray n }/\xs.length<=sizeLine:=by
 obtain⟨z,its,n,r,e⟩:=I.bA p _ h;exact⟨its,n,r,e,z⟩
theorem aK.Kv{ae:List (Addr×Obj)}{σ:St}{H:Hp}{s:Shared}{p:Addr}{xs ys:List V}{its its':List Value}{n n':Nat}{f:Obj->Obj}(I:aK X ae σ H s)(h:H p=some (.lst xs))(ho:s.heap.get? p=some { cls:=.type "list",data:=.seq its.toArray n })(hf:f { cls:=.type "list",data:=.seq its.toArray n }={ cls:=.type "list",data:=.seq its'.toArray n' })(r:aW ys its')(hz:ys.length<=sizeLine)(t:Nat):
  aK X ae σ (upd H p (.lst ys)) { s with heap:=s.heap.update p f,toks:=t }:=by
 have e:(s.heap.update p f).get? p=some { cls:=.type "list",data:=.seq its'.toArray n' }:=by
  rw[tO f ho (by rw[hf] <;> rfl),hf]
 refine I.write (x:=p) (e:=p) (by rw[h];trivial) (.inl rfl) (fun b u hb q=>(tK _ _ (Ne.symm hb)).trans q) ⟨_,e⟩ ?_;exact⟨hz,its',n',r,e⟩
def Of:V->V->V->Hp->(Hp->Prop)->Prop:=fun o i v H Q=>∃p xs k j,o=.ref p/\i=.int k/\H p=some (.lst xs)/\C3 xs.length k=some j/\Q (upd H p (.lst (xs.set j v)))
theorem ir:NZ X Of:=by
 intro ae s σ H o i v ov iv u Q I ro ri rv h;obtain⟨p,xs,k,j,rfl,rfl,hp,hj,q⟩:=h;cases ro;obtain⟨t,rfl⟩:=ri;obtain⟨its,n,r,ho,hz⟩:=I.lst hp;obtain⟨h1,h2,h3,h4⟩:=zR hj;have hl:=r.length;have hn:=ur;have I':aK X ae σ (upd H p (.lst (xs.set j v))) { s with heap:=s.heap.update p (Obj.mapSeq (·.setIfInBounds j u)) }:=
  I.Kv hp ho (yB its n j u) (r.set rv j) (by rw[lf];exact hz) s.toks
 by_cases h0:0<=k
 .have hk:k.toNat=j:=by
   rw[seqIndex_of h0 h4] at h1;exact bR h1
  exact PySem.W.ki_setAt ho h0 (by lia) (by rw[cu,<-hl];exact h4) (by rw[hk];exact⟨_,I',q⟩)
 .have hk:(k+(its.toArray.size:Int)).toNat=j:=by
   rw[seqIndex_neg (by lia) h3] at h1;rw[cu,<-hl];exact bR h1
  exact PySem.W.ki_setBack ho (by lia) (by rw[cu,<-hl];exact h3) (by lia) (by rw[hk];exact⟨_,I',q⟩)
theorem uw(lo hi:Option Int)(n:Nat):(sliceBounds lo hi none n).1=((HT.vt n 0 lo:Nat):Int)/\(sliceBounds lo hi none n).2.1=((HT.vt n n hi:Nat):Int)/\(sliceBounds lo hi none n).2.2=1:=by
 refine⟨?_,?_,rfl⟩
 .cases lo with
  |none=>simp[sliceBounds,HT.vt]
  |some i=>
   simp only[sliceBounds,HT.vt,Option.getD_none,show (1:Int) > 0 by decide,iL];by_cases h:i<0
   .simp only[h,iL] <;> lia
   .simp only[h,fz] <;> lia
 .cases hi with
  |none=>simp[sliceBounds,HT.vt]
  |some i=>
   simp only[sliceBounds,HT.vt,Option.getD_none,show (1:Int) > 0 by decide,iL];by_cases h:i<0
   .simp only[h,iL] <;> lia
   .simp only[h,fz] <;> lia
theorem rA(its:List Value)(lo hi:Option Int):slicePick its.toArray lo hi none=((its.drop (HT.vt its.length 0 lo)).take (HT.vt its.length its.length hi-HT.vt its.length 0 lo)).toArray:=by
 obtain⟨h1,h2,h3⟩:=uw lo hi its.toArray.size;unfold slicePick;rw[h1,h2,h3];simp only[sliceRange_one,pick_run,cu] <;> rfl
def TJ(K:PySem.W.Frag):V->Option Int->Option Int->Hp->VK->Prop:=fun x lo hi H Q=>∃a xs,x=.ref a/\aU K H a xs/\∀p,H p=none->Q (.ref p) (upd H p (.lst (Bc xs lo hi)))
theorem zU:Xm X (TJ X.K):=by
 intro ae s σ H x v vl vu lo hi sl Q I rx hs pl pu h;obtain⟨a,xs,rfl,hx,q⟩:=h;cases rx;obtain⟨its,r,ht,hz⟩:=I.list hx;have dY:=r.length;refine⟨"list",_,slot_list_getitem.lookup,ht.isList.typeIs,?_⟩;refine wpAny_getItem_list_slice ht.isList hs pl pu .none (by simp) ?_ (by rw[cu] <;> lia);rw[rA,<-dY];refine⟨.ref s.heap.objs.size,_,I.laid (t':=s.toks) (o:=.lst (Bc xs lo hi)) (fun b ob q=>cq _ q) (aL _) ?_,rfl,q _ (I.bA.fresh (aL _))⟩;exact⟨bB (vP xs lo hi) hz,_,0,(r.drop (HT.vt xs.length 0 lo)).take (HT.vt xs.length xs.length hi-HT.vt xs.length 0 lo),cV _ rfl⟩
def gh:V->Bool
 |.bH=>true
 |.bl _=>true
 |.int _=>true
 |.str _=>true
 |_=>false
def ux:V->V->Bool
 |.bH,.bH=>true
 |.bl a,.bl b=>a==b
 |.bl a,.int b=>(if a then 1 else 0)==b
 |.int a,.bl b=>a==(if b then 1 else 0)
 |.int a,.int b=>a==b
 |.str a,.str b=>a==b
 |_,_=>false
theorem C4(ry:be y u)(rx:be x v)(fy:gh y=true)(fx:gh x=true):SeqAt.EqAt A s u v (ux y x):=by
 cases y with
 |bH=>
  cases ry;cases x with
  |bH=>cases rx;exact SeqAt.EqAt.same _
  |bl b=>cases rx;exact SeqAt.EqAt.none_bool b
  |int b=>obtain⟨t,rfl⟩:=rx;exact SeqAt.EqAt.none_int b t
  |str b=>obtain⟨t,rfl⟩:=rx;exact SeqAt.EqAt.none_str b t
  |_=>exact absurd (show false=true from fx) cj
 |bl a=>
  cases ry;cases x with
  |bH=>cases rx;exact SeqAt.EqAt.bool_none a
  |bl b=>cases rx;exact SeqAt.EqAt.bool_bool a b
  |int b=>obtain⟨t,rfl⟩:=rx;exact SeqAt.EqAt.bool_int a b t
  |str b=>obtain⟨t,rfl⟩:=rx;exact SeqAt.EqAt.bool_str a b t
  |_=>exact absurd (show false=true from fx) cj
 |int a=>
  obtain⟨t',rfl⟩:=ry;cases x with
  |bH=>cases rx;exact SeqAt.EqAt.int_none a t'
  |bl b=>cases rx;exact SeqAt.EqAt.int_bool a t' b
  |int b=>obtain⟨t,rfl⟩:=rx;exact SeqAt.EqAt.int_int a t' b t
  |str b=>obtain⟨t,rfl⟩:=rx;exact SeqAt.EqAt.int_str a t' b t
  |_=>exact absurd (show false=true from fx) cj
 |str a=>
  obtain⟨t',rfl⟩:=ry;cases x with
  |bH=>cases rx;exact SeqAt.EqAt.str_none a t'
  |bl b=>cases rx;exact SeqAt.EqAt.str_bool a t' b
  |int b=>obtain⟨t,rfl⟩:=rx;exact SeqAt.EqAt.str_int a t' b t
  |str b=>obtain⟨t,rfl⟩:=rx;exact SeqAt.EqAt.str_str a t' b t
  |_=>exact absurd (show false=true from fx) cj
 |_=>exact absurd (show false=true from fy) cj
def uy(x:V)(u:Value):Bool:=match u with
 |.none=>ux .bH x
 |.bool b=>ux (.bl b) x
 |.int i _=>ux (.int i) x
 |.str z _=>ux (.str z) x
 |_=>false
theorem C5(r:be y u)(f:gh y=true):uy x u=ux y x:=by
 cases y with
 |bH=>cases r;rfl
 |bl b=>cases r;rfl
 |int i=>obtain⟨t,rfl⟩:=r;rfl
 |str z=>obtain⟨t,rfl⟩:=r;rfl
 |_=>exact absurd (show false=true from f) cj
theorem jZ:∀ {xs:List V} {us:List Value},aW xs us->xs.all gh=true->us.any (uy x)=xs.any fun y=>ux y x
 |_,_,.nil,_=>rfl
 |y::xs,u::us,.cons r t,f=>by
  rw[lu,eK] at f;rw[jy,jy,C5 r f.1,jZ t f.2]
theorem iw(rx:be x v)(fx:gh x=true):∀ {xs:List V} {us:List Value},aW xs us->xs.all gh=true->∀u∈us,SeqAt.EqAt A s u v (uy x u)
 |_,_,.nil,_=>fun u hu=>by cases hu
 |y::xs,u::us,.cons r t,f=>fun u' hu=>by
  rw[lu,eK] at f;rcases bK.mp hu with rfl|hu
  .rw[C5 r f.1];exact C4 r rx f.1 fx
  .exact iw rx fx t f.2 u' hu
def C6(x:V)(xs:List V):Bool:=xs.any fun y=>ux y x
def RJ(K:PySem.W.Frag)(Og:Bool):R2:=fun x y H Q=>∃p xs,y=.ref p/\(aU K H p xs\/cx K H p xs)/\gh x=true/\xs.all gh=true/\Q (.bl (if Og then !C6 x xs else C6 x xs)) H
theorem nz:l9 X (compareOp .In) (RJ X.K false):=by
 intro ae s σ H x y v u Q I rx ry h;obtain⟨p,xs,rfl,hq,fx,fs,q⟩:=h;cases ry;rcases hq with hq|hq
 .obtain⟨its,r,pl,hz⟩:=I.list hq;refine SeqAt.in_listAt (uy x) pl.isList (fun w hw=>iw rx fx r fs w (by simpa using hw)) ⟨.bl _,H,I,rfl,?_⟩;rw[show its.toArray.any (uy x)=its.any (uy x) by simp,jZ r fs];exact q
 .obtain⟨its,r,pl,hz⟩:=I.tuple hq;refine SeqAt.in_tupleAt (uy x) pl (fun w hw=>iw rx fx r fs w (by simpa using hw)) ⟨.bl _,H,I,rfl,?_⟩;rw[show its.toArray.any (uy x)=its.any (uy x) by simp,jZ r fs];exact q
theorem uz:l9 X (compareOp .NotIn) (RJ X.K true):=by
 intro ae s σ H x y v u Q I rx ry h;obtain⟨p,xs,rfl,hq,fx,fs,q⟩:=h;cases ry;rcases hq with hq|hq
 .obtain⟨its,r,pl,hz⟩:=I.list hq;refine SeqAt.notIn_listAt (uy x) pl.isList (fun w hw=>iw rx fx r fs w (by simpa using hw)) ⟨.bl _,H,I,rfl,?_⟩;rw[show its.toArray.any (uy x)=its.any (uy x) by simp,jZ r fs];exact q
 .obtain⟨its,r,pl,hz⟩:=I.tuple hq;refine SeqAt.notIn_tupleAt (uy x) pl (fun w hw=>iw rx fx r fs w (by simpa using hw)) ⟨.bl _,H,I,rfl,?_⟩;rw[show its.toArray.any (uy x)=its.any (uy x) by simp,jZ r fs];exact q
theorem aH:eN X (.builtin "len") (fun xs H Q=>∃p ys,xs=[.ref p]/\(aU X.K H p ys\/cx X.K H p ys)/\Q (.int ys.length) H):=by
 intro ae s σ H xs us Q I r h;obtain⟨p,ys,rfl,hq,q⟩:=h;obtain⟨u,rfl,rx⟩:=qc r;cases rx;have hn:=ur;rcases hq with hq|hq
 .obtain⟨its,r',pl,hz⟩:=I.list hq;have dY:=r'.length;exact Calls.call_len_list pl.isList (by simp only[cu] <;> lia) ⟨.int ys.length,H,I.tok _,⟨s.toks+1,by rw[cu,dY]⟩,q⟩
 .obtain⟨its,r',pl,hz⟩:=I.tuple hq;have dY:=r'.length;exact len_tuple pl (by simp only[cu] <;> lia) ⟨.int ys.length,H,I.tok _,⟨s.toks+1,by rw[cu,dY]⟩,q⟩
theorem fH:eN X (.type "tuple") (fun xs H Q=>∃p ys,xs=[.ref p]/\((aU X.K H p ys/\∀l,H l=none->Q (.ref l) (upd H l (.tup ys)))\/(cx X.K H p ys/\Q (.ref p) H))):=by
 intro ae s σ H xs us Q I r h;obtain⟨p,ys,rfl,h⟩:=h;obtain⟨u,rfl,rx⟩:=qc r;cases rx;rcases h with ⟨hq,q⟩|⟨hq,q⟩
 .obtain⟨its,r',pl,hz⟩:=I.list hq;have dY:=r'.length;refine call_tuple_list pl.isList (fun h' kp=>?_) (by simp only[cu] <;> lia);have I1:aK X ae σ H { s with heap:=h' }:=I.kept (t':=s.toks) kp;have I2:aK X ae σ (upd H h'.objs.size (.tup ys)) { s with heap:=h'.push { cls:=.type "tuple",data:=.seq its.toArray } }:=
   I1.laid (t':=s.toks) (fun b o e=>cq _ e) (aL _) (show bQ X.prog X.w _ _ _ (.tup ys) from ⟨hz,its,r',m7.new _ _⟩)
  exact⟨.ref h'.objs.size,_,I2,rfl,q _ (I1.bA.fresh (aL _))⟩
 .obtain⟨its,r',pl,hz⟩:=I.tuple hq;exact call_tuple_same pl ⟨.ref p,H,I,rfl,q⟩
def Xn(K:PySem.W.Frag)(T:String)(x:V)(H:Hp):Prop:=match x with
 |.str _=>T="str"
 |.int _=>T="int"
 |.ref p=>(T="list"/\∃xs,aU K H p xs)\/(T="tuple"/\∃o,K.lookup p=some o/\o.cls=.type "tuple"/\o.dict=none)\/
   (T="dict"/\((∃kvs,H p=some (.dK kvs))\/∃kvs,H p=some (.dT kvs)))\/(T="set"/\∃S n,H p=some (.set S n))
 |_=>False
theorem Kw(I:aK X ae σ H s)(r:be x v)(ty:Xn X.K T x H):
  s.TypeIs v T/\∀a,v=.ref a->∃ob,s.heap.get? a=some ob/\ob.dict=none:=by
 cases x with
 |str z=>
  obtain⟨t,rfl⟩:=r;cases (show T="str" from ty);exact⟨typeIs_str s z t,fun _ e=>nomatch e⟩
 |int i=>
  obtain⟨t,rfl⟩:=r;cases (show T="int" from ty);exact⟨typeIs_int s i t,fun _ e=>nomatch e⟩
 |ref p=>
  cases r;rcases ty with ⟨rfl,xs,hq⟩|⟨rfl,o,hk,hc,hd⟩|⟨rfl,hk⟩|⟨rfl,S,n,hk⟩
  .obtain⟨its,_,pl,_⟩:=I.list hq;refine⟨pl.isList.typeIs,fun a e=>?_⟩;cases e;obtain⟨o,n,e,c,hd,_⟩:=pl;exact⟨o,e,hd⟩
  .refine⟨⟨o,I.ng p o hk,hc⟩,fun a e=>?_⟩;cases e;exact⟨o,I.ng _ o hk,hd⟩
  .have z:∃o,s.heap.get? p=some o/\o.ExactDict:=by
    rcases hk with ⟨kvs,hk⟩|⟨kvs,hk⟩
    .obtain⟨_,_,_,_,o,_,_,e,ex,_⟩:=I.bA p _ hk;exact⟨o,e,ex⟩
    .obtain⟨_,_,_,_,o,_,_,e,ex,_⟩:=I.bA p _ hk;exact⟨o,e,ex⟩
   obtain⟨o,e,ex⟩:=z;refine⟨⟨o,e,ex.1⟩,fun a e2=>?_⟩;cases e2;exact⟨o,e,ex.2.1⟩
  .obtain⟨o,_,_,_,e,ex,_⟩:=I.bA p _ hk;refine⟨⟨o,e,ex.1⟩,fun a e2=>?_⟩;cases e2;exact⟨o,e,ex.2.1⟩
 |_=>exact False.elim ty
def Zl(K:PySem.W.Frag)(T:String)(r:V->List V->Hp->VK->Prop)(to:TE)(t:TA):TE:=fun σ H Q=>to σ H fun x H1=>Xn K T x H1/\t σ H1 fun xs H2=>r x xs H2 Q
variable {o e:Expr} {es:List Expr} {to:TE} {t:TA} {name:Str} {uu uA:Pos} {T id:String} {r:V->List V->Hp->VK->Prop}
theorem iy(pa:PlainAttrs T)(slot:Slot T name id)(Zm:typeOf (.builtin id)=pure (.type "method_descriptor"))(hm:Zk X id r)(ho:PE X o to)(ha:PA X (e::es) t)(Oh:attributeBase o name X.env (eval o X.env)=eval o X.env:=by rfl)(TL:((backTo uA (starEach (e::es) X.env)).all (fun x=>!x.1)&&(backToKw uA (keywordEach [] X.env)).all (fun x=>x.1.isSome)
   && decide ((e::es).length+([]:List Keyword).length+(if ([]:List Keyword).isEmpty then 0 else 1)<30))=true:=by rfl)(Oi:(uu.endLine==uA.line)=true:=by rfl)(hs:starEach (e::es) X.env=(false,eval e X.env)::starEach es X.env:=by rfl)(yC:(backTo uA (starEach es X.env)).any (·.1)=false:=by rfl):
  PE X (.Call (.Attribute o name uu) (e::es) [] uA) (Zl X.K T r to t):=by
 intro ae s σ H Q I h;refine wpAny_Call_method_late Oh TL Oi rfl (bZ (ho ae s σ H _ I h) fun v s1 ⟨x,H1,I1,r1,ty,q1⟩=>?_);obtain⟨h1,h2⟩:=Kw I1 r1 ty;refine⟨T,id,pa,slot,Zm,h1,h2,?_⟩;have hA:=ha uA ae s1 σ H1 _ I1 q1;rw[hs] at hA |-;refine Calls.callWith_builtin (by show (false||(backTo uA (starEach es X.env)).any (·.1))=false;rw[yC] <;> rfl) (Calls.evalArgs_plain ?_);exact bZ hA fun us s2 ⟨vs,H2,I2,r2,q2⟩=>hm ae s2 σ H2 x vs v us Q I2 r1 r2 q2
end
def RK(X:Cx)(id:String)(r:V->List V->Hp->VK->Prop):Prop:=
 ∀ (ae:List (Addr×Obj)) (s:Shared) (σ:St) (H:Hp) (x:V) (xs:List V) (v:Value) (us:List Value) (Q:VK),aK X ae σ H s->be x v->aW xs us->r x xs H Q->
  wpAny (model X.prog X.w) X.A (call (.builtin id) (v::us)) (EP X ae σ Q) X.xe s
theorem aW.one{x:V}{us:List Value}(h:aW [x] us):∃u,us=[u]/\be x u:=by
 cases h with
 |cons r h=>cases h;exact⟨_,rfl,r⟩
theorem aW.two{x y:V}{us:List Value}(h:aW [x,y] us):∃u v,us=[u,v]/\be x u/\be y v:=by
 cases h with
 |cons r h=>
  cases h with
  |cons q h=>cases h;exact⟨_,_,rfl,r,q⟩
theorem aW.rep(h:aW xs us):∀k:Nat,aW (List.replicate k xs).flatten (List.replicate k us).flatten
 |0=>.nil
 |k+1=>by
  rw[pB,pB,pO,pO];exact aW.append h (aW.rep h k)
theorem sf(its:List Value):∀ (k:Nat) (dF:List Value),
  List.foldl (fun x1 x2=>x1++x2) dF.toArray (List.replicate k its.toArray)=(dF++(List.replicate k its).flatten).toArray
 |0,dF=>by simp
 |k+1,dF=>by
  have e:dF.toArray++its.toArray=(dF++its).toArray:=by simp
  have e2:(dF++its)++(List.replicate k its).flatten=dF++(List.replicate (k+1) its).flatten:=by
   rw[pB,pO,i_]
  rw[<-e2,<-sf its k (dF++its),<-e,pB,tW]
section
variable {X:Cx} {ae:List (Addr×Obj)} {σ:St} {H:Hp} {s:Shared} {l b:Addr} {xs ys zs:List V}
theorem aK.Kx{its its':List Value}{n:Nat}{f:Array Value->Array Value}{t':Nat}(I:aK X ae σ H s)(hH:H l=some (.lst xs))(e:s.heap.get? l=some { cls:=.type "list",data:=.seq its.toArray n })(hf:f its.toArray=its'.toArray)(hv:aW ys its')(hz:ys.length<=sizeLine):
  aK X ae σ (upd H l (.lst ys)) { s with heap:=s.heap.update l (Obj.mapSeq f),toks:=t' }:=by
 have q:=PySem.IsL.update e f;rw[hf] at q;refine I.write (x:=l) (e:=l) (by rw[hH];exact trivial) (.inl rfl) (fun b' u hb hu=>(tK s.heap (Obj.mapSeq f) (Ne.symm hb)).trans hu) ⟨_,q⟩ ?_;exact⟨hz,its',_,hv,q⟩
theorem aK.Oj(I:aK X ae σ H s)(hv:aW ys its)(hz:ys.length<=sizeLine):
  aK X ae σ (upd H s.heap.objs.size (.lst ys)) { s with heap:=s.heap.push { cls:=.type "list",data:=.seq its.toArray },toks:=t' }:=
 I.laid (fun _ _ q=>cq _ q) (aL _) ⟨hz,its,0,hv,cV _ rfl⟩
theorem aK.fresh(I:aK X ae σ H s):H s.heap.objs.size=none:=I.bA.fresh (aL _)
theorem aK.vR(I:aK X ae σ H s)(hH:H l=some (.lst xs)):xs.length<=sizeLine/\∃ (its:List Value) (n:Nat),aW xs its/\xs.length=its.length/\s.heap.get? l=some { cls:=.type "list",data:=.seq its.toArray n }:=by
 obtain⟨z,its,n,r,e⟩:=I.bA l _ hH;exact⟨z,its,n,r,r.length,e⟩
theorem vS(h:n<=sizeLine):Builtin.List.listTooLong n=false:=by
 unfold Builtin.List.listTooLong;exact cE (by lia)
end
section
variable {X:Cx}
def F9:V->List V->Hp->VK->Prop:=fun x vs H Q=>∃l xs y,x=.ref l/\vs=[y]/\H l=some (.lst xs)/\xs.length<sizeLine/\Q .bH (upd H l (.lst (xs++[y])))
theorem dh:RK X "list.append" F9:=by
 intro ae s σ H x vs v us Q I rx rv h;obtain⟨l,xs,y,rfl,rfl,hH,hz,q⟩:=h;cases rx;obtain⟨u,rfl,ru⟩:=rv.one;obtain⟨z,its,n,r,hl,e⟩:=I.vR hH;refine lC F.slot_list_append ⟨_,e,rfl⟩ F.entry_list_append (F.args_list_append_2 _ _) (PySem.list_append l its.toArray n u (by rw[cu];lia)) ⟨e,?_⟩;refine⟨.bH,_,I.Kx (its':=its++[u]) hH e (by simp) (r.append (.cons ru .nil)) ?_,rfl,q⟩;rw[cr,pH];lia
def F_:V->List V->Hp->VK->Prop:=fun x vs H Q=>∃l b xs zs,x=.ref l/\vs=[.ref b]/\H l=some (.lst xs)/\H b=some (.lst zs)/\xs.length+zs.length<=sizeLine/\Q .bH (upd H l (.lst (xs++zs)))
theorem Be:RK X "list.extend" F_:=by
 intro ae s σ H x vs v us Q I rx rv h;obtain⟨l,b,xs,zs,rfl,rfl,hH,hB,hz,q⟩:=h;cases rx;obtain⟨u,rfl,ru⟩:=rv.one;cases ru;obtain⟨z,its,n,r,hl,e⟩:=I.vR hH;obtain⟨z2,Ga,n2,r2,Zn,e2⟩:=I.vR hB;have hsz:its.toArray.size+Ga.toArray.size<=sizeLine:=by rw[cu,cu];lia
 have C7:¬ (!its.toArray.isEmpty&&Builtin.List.listTooLong (its.toArray.size+Ga.toArray.size))=true:=by
  rw[vS hsz,tY];exact cj
 refine lC F.slot_list_extend ⟨_,e,rfl⟩ F.entry_list_extend (F.args_list_extend_2 _ _)
  (AutoSeq1.list_extend_list_list_0 l its.toArray n b Ga.toArray n2 C7 (by rw[cu];lia) (by lia)) ⟨e,e2,?_⟩
 refine⟨.bH,_,I.Kx (its':=its++Ga) hH e (by simp) (r.append r2) ?_,rfl,q⟩;rw[cr];lia
def TN:R2:=fun x y H Q=>∃l k xs,x=.ref l/\y=.int k/\H l=some (.lst xs)/\-(2 ^ 63)<=k/\k<2 ^ 63/\xs.length*k.toNat<=sizeLine/\
 ∀p,H p=none->Q (.ref p) (upd H p (.lst (List.replicate k.toNat xs).flatten))
theorem Gb(xs:List α)(k:Nat):(List.replicate k xs).flatten.length=k*xs.length:=by
 induction k with
 |zero=>simp
 |succ k ih=>rw[pB,pO,cr,ih,Nat.succ_mul,Nat.add_comm]
theorem Ky:l9 X (binaryOp .Mult) TN:=by
 intro ae s σ H x y v u Q I rx ry h;obtain⟨l,k,xs,rfl,rfl,hH,h1,h2,hz,q⟩:=h;cases rx;obtain⟨t,rfl⟩:=ry;obtain⟨z,its,n,r,hl,e⟩:=I.vR hH;have dY:its.toArray.size*k.toNat<=sizeLine:=by rw[cu,<-hl];exact hz
 have TQ:¬ its.toArray.size*k.toNat > (2 ^ 63-1) / 8:=by
  have:(sizeLine:Nat)<=(2 ^ 63-1) / 8:=by decide
  lia
 have TU:¬ (!Builtin.List.listFitsIndex k)=true:=by
  rw[fitsIndex_both h1 h2];exact cj
 have C7:¬ Builtin.List.listTooLong (its.toArray.size*k.toNat)=true:=by
  rw[vS dY];exact cj
 have nA:List.foldl (fun x1 x2=>x1++x2) #[] (List.replicate (if its.toArray.isEmpty=true then 0 else k.toNat) its.toArray)=(List.replicate k.toNat its).flatten.toArray:=by
  have f0:∀m:Nat,List.foldl (fun x1 x2=>x1++x2) #[] (List.replicate m its.toArray)=(List.replicate m its).flatten.toArray:=fun m=>by
   have:=sf its m [];rw[List.nil_append] at this;exact this
  rw[f0];cases its with
  |nil=>simp
  |cons a r'=>rw[ap (by simp)]
 refine wpAny_binaryOp_repeat_ref (T:="list") (U:="int") (by decide) ⟨_,e,rfl⟩ (fun s'=>typeIs_int s' k t) noFill_list_mul F.fills_int_mul F.slot_int_rmul repeat_list F.slot_int_index.lookup
  (lC F.slot_int_rmul (typeIs_int s k t) F.entry_int_rmul (F.args_int_rmul_2 _ _) (int___rmul___int_list k t l its.toArray n)
   ⟨e,rfl,⟨_,e,rfl⟩,lC F.slot_list_mul ⟨_,e,rfl⟩ F.entry_list_mul (F.args_list_mul_2 _ _) (AutoListH.list___mul___list_int_3 l its.toArray n k t TU TQ C7) ⟨e,?_⟩⟩)
 rw[nA];exact⟨.ref _,_,I.Oj (t':=s.toks) (r.rep k.toNat) (by rw[Gb,Nat.mul_comm];exact hz),rfl,q _ I.fresh⟩
end
section
variable {prog:Program} {w:World} {A:Around} {E:Value->Shared->Prop} {s:Shared}
end
section
variable {X:Cx}
end
end L2
namespace Xo
open PySem PySem.W PySem.Calls PyProof.Rows
theorem oH:∀ (ns:List Int) (vs:List Value),WellAll P h vs (ns.map WData.int)->IntsAre vs ns:=by
 intro ns;induction ns with
 |nil=>
  intro vs w;rw[lw] at w;cases w;exact .nil
 |cons n ns ih=>
  intro vs w;rw[cW] at w;cases w with
  |cons a b=>
   cases a;exact .cons _ _ (ih _ b)
theorem Bg{l:OpenLaw}{n:Nat}(hn:l.most=some n){P:Params}{h:Heap}{args:List WData}{C8:List Value}(Gc:l.row.toRowW.claim.pre args=true)(TV:WellAll P h C8 args):
  ∃a vs ns,C8=[Value.ref a]/\args=[WData.list (ns.map WData.int)]/\h.get? a=some { cls:=.type "list",data:=.seq vs.toArray }/\IntsAre vs ns/\ns.length<=n:=by
 have Zo:WShape.hasAll [] args [.list .int]=true:=(pre_splitW Gc).1;have hc:l.pre.holds [] { args:=args }=true:=(pre_splitW Gc).2;obtain⟨d,r,rfl,h1,h2⟩:=hasAllW_cons Zo;obtain rfl:=hasAllW_nil h2;obtain⟨xs,rfl,h3⟩:=hasW_list h1;obtain⟨ns,rfl⟩:=items_int h3;have dY:ns.length<=n:=by
  unfold OpenLaw.pre at hc;have h4:(WTm.not (.lt (.lit (.int (n:Int))) (.len (.arg 0)))).holds [] { args:=[.list (ns.map .int)] }=true:=by
   have h4:=(holds_andW hc).1;rw[hn] at h4;exact h4
  have h5:=condW_of h4 (w_not (w_lt w_lit (w_len_list (w_arg rfl))));rw[aO] at h5;refine Nat.le_of_not_lt fun q=>?_;have q':(n:Int)<((ns.length:Nat):Int):=by lia
  first
   |(rw[bJ q'] at h5;exact absurd h5 (by decide))
   |(simp at h5;lia)
 cases TV with
 |cons w1 w2=>
  cases w2;cases w1 with
  |list ho rB=>exact⟨_,_,ns,rfl,rfl,ho,oH ns _ rB,dY⟩
theorem Bh(l:OpenLaw)(args:List WData):l.row.toRowW.claim.post args (.bool true) args=true:=
 postW_of (r:=l.row.toRowW) (X:=(true==true))
  (show WShape.has [] (.bool true) .bool=true by first|rfl|decide|simp[WShape.has,WShape.arms,WShape.armsAll])
  (show (WTm.eq .res (.lit (.bool true))).value [] { args:=args,res:=some (.bool true),after:=args }=some (.bool (true==true)) from w_eq_bool (w_res rfl) w_lit) rfl
theorem vT{l:OpenLaw}{n:Nat}{q:Program}{sg:List Str}{XP:(Str->Option Value)->Heap->Prop}{YP:World->Heap->Prop}{d:DefRec}(hn:l.most=some n)(Ol:d.params.defaults=[])(call:∀ (w:World) (s₀ s₁:Shared) (mg mb:Str->Option Value) (fa:Addr) (o:Obj) (pm cd me:Value) (a:Addr) (vs:List Value) (ns:List Int),
   Ground q sg [] XP w s₀ mg mb s₁.heap->YP w s₁.heap->
   s₁.heap.get? fa=some o->o.data=.func (docDef d.name d.params d.body d.scope pm cd me)->s₁.heap.CodeRec cd d.name->mg d.name=some (.ref fa)->
   s₁.heap.get? a=some { cls:=.type "list",data:=.seq vs.toArray }->IntsAre vs ns->ns.length<=n->s₁.gens=#[]->
   codeAny (model l.prog w) callerA (.call (.ref fa) ⟨[.ref a],[]⟩) (fun r s'=>r=.ok (.ret (.bool true))/\OldK s₁.heap s'.heap/\s'.os=s₁.os/\AllBare s'.gens) s₁):
  WalkO q sg XP YP l.row.toRowW d [] (fun f vs=>PySem.call f vs):=by
 intro w s₀ s₁ mg mb G Y fa o pm cd me dV kV ho hd rQ hD Om hg args C8 as Gc Zp hrd TV vU;obtain rfl:dV=.none:=Dflts.none hD Ol;obtain rfl:kV=.none:=Dflts.noKw hD;obtain⟨a,vs,ns,rfl,rfl,Kz,C9,dY⟩:=Bg hn Gc TV;refine enter_call (lA (call w s₀ s₁ mg mb fa o pm cd me a vs ns G Y ho (fd_plain hd) rQ Om Kz C9 dY hg) fun r s' hq=>?_);obtain⟨rfl,h2,h3,h4⟩:=hq;exact⟨.inl ⟨.bool true,.bool true,[],rfl,fun _=>rfl,.bool true,Bh l _,fun _=>⟨List.Pairwise.nil,fun _ hm=>(nomatch hm)⟩⟩,h2,h3,h4⟩
section
variable {prog:Program} {w:World} {A:Around} {E:Value->Shared->Prop} {s:Shared} {K:Frag}
end
end Xo
namespace L2
open PySem PySem.Spec PyProof.Rows
theorem si:∀ {vs:List Value} {ns:List Int},IntsAre vs ns->aW (ns.map V.int) vs
 |_,_,.nil=>.nil
 |_,_,.cons n t h=>.cons ⟨t,rfl⟩ (si h)
def oX(s:Stmt)(j:Nat):Stmt:=match s with
 |.ClassDef _ _ _ body _ _ _ _ _ _ _=>body.getD j (.Pass ⟨0,0,0,0⟩)
 |_=>.Pass ⟨0,0,0,0⟩
def cQ(s:Stmt):Arguments:=match s with
 |.FunctionDef _ a _ _ _ _ _ _ _ _=>a
 |_=>{ posonlyargs:=[],args:=[],vararg:=none,kwonlyargs:=[],kw_defaults:=[],kwarg:=none,defaults:=[] }
def bT(s:Stmt):List Stmt:=match s with
 |.FunctionDef _ _ b _ _ _ _ _ _ _=>b
 |_=>[]
def am(s:Stmt):Scope:=match s with
 |.FunctionDef _ _ _ _ _ _ sc _ _ _=>sc
 |_=>{ kind:=.function,names:=[],isGenerator:=false,isCoroutine:=false }
abbrev aZ:vK:=fun _ _ _ _ _ _=>False
abbrev E0:XK:=fun _ _ _=>False
theorem aQ:lI aZ X E0:=fun _ _ _ _ _ _ _ h=>h.elim
structure fQ(K:PySem.W.Frag)(x qual:Str)(st:Stmt)(f:Addr)(fd:FuncData):Prop where
 ex:∃ (oc:Value) (od:Option Addr) (kV me pm:Value) (an:Option Addr) (dL ct:Value) (xm:Array (Option Value)),
  fd=PySem.W.fnOf x qual (cQ st) (bT st) (am st) .none kV me pm an dL ct/\K.lookup f=some ⟨oc,od,.func fd,xm⟩/\PySem.W.codeIn K dL qual=true
 kp:PySem.W.keepIn K (.ref f)=true
section
variable {P:Program} {w:World} {K:PySem.W.Frag} {mg:Str->Option Value} {base:Heap}
theorem fQ.ok{x qual:Str}{st:Stmt}{f:Addr}{fd:FuncData}{N ps:List Str}{k:Nat}{sp:Sp}(F:fQ K x qual st f fd)(S:aG N ps (am st))(len:∀vs H Q E,sp vs H Q E->vs.length=ps.length)(vN:∀ (dL:Value) (A:Around) (outer:List Env) (s:Shared) (H:Hp) (vs:List V) (Q:VK) (E:XK),bW k (A.deeper (envOfC qual (am st) s.heap.objs.size f dL))->sp vs H Q E->
   ∃t,yj (uv aZ P w K mg base N qual (am st) f dL A outer s H E).I_ (bT st) t/\t { nx:=fun _ H'=>Q .bH H',rt:=Q } (start N vs) H):br P w K mg base aZ (k+1) f fd ps sp:=by
 obtain⟨oc,od,kV,me,pm,an,dL,ct,xm,rfl,lk,rQ⟩:=F.ex;refine Jd lk rQ S len fun A outer s H vs Q E hr Fy=>?_;obtain⟨t,h,q⟩:=vN dL A outer s H vs Q E hr Fy;exact⟨t,h.I_,q⟩
theorem fQ.binds{x qual:Str}{st:Stmt}{f:Addr}{fd:FuncData}{ps:List Str}(F:fQ K x qual st f fd)(h:∀ (kV me pm:Value) (an:Option Addr) (dL ct:Value) (us:List Value),us.length=ps.length->bindArgs (PySem.W.fnOf x qual (cQ st) (bT st) (am st) .none kV me pm an dL ct) ⟨us,[]⟩=pure (ps.zip us)):jI K fd ps []:=by
 obtain⟨oc,od,kV,me,pm,an,dL,ct,xm,rfl,lk,rQ⟩:=F.ex;exact .all (h kV me pm an dL ct)
theorem uB{x qual:Str}{st:Stmt}{f:Addr}{oc:Value}{od an:Option Addr}{xm:Array (Option Value)}{kV me pm dL ct:Value}(l:K.lookup f=some ⟨oc,od,.func (PySem.W.fnOf x qual (cQ st) (bT st) (am st) .none kV me pm an dL ct),xm⟩)(c:PySem.W.codeIn K dL qual=true)(k:PySem.W.keepIn K (.ref f)=true):fQ K x qual st f (PySem.W.fnOf x qual (cQ st) (bT st) (am st) .none kV me pm an dL ct):=⟨⟨oc,od,kV,me,pm,an,dL,ct,xm,rfl,l,c⟩,k⟩
end
section
variable {X:Cx}
theorem pv(i:Nat)(hN:X.N[i]?=some x:=by rfl)(hv:NK X.env.scope x:=by first|exact Or.inl rfl|exact Or.inr (Or.inl rfl)|exact Or.inr (Or.inr rfl))(hd:(x==("__debug__":Str))=false:=by decide)(rQ:(x==("__classdict__":Str))=false:=by decide):PE X (.Name x pos) (bb i):=Ka hN hv hd rQ
end
theorem lJ{A B:Prop}(h:B):if false=true then A else B:=by
 rw[ap cj];exact h
theorem Ge{A B:Prop}(h:A):if true=true then A else B:=by
 rw[ao rfl];exact h
theorem bL{c A B:Prop}[Decidable c](h1:c->A)(h2:¬ c->B):if c then A else B:=by
 by_cases h:c
 .rw[ao h];exact h1 h
 .rw[ap h];exact h2 h
def aE(H H':Hp):Prop:=∀b o,H b=some o->H' b=some o
theorem aE.refl(H:Hp):aE H H:=fun _ _ h=>h
theorem aE.trans(a:aE H H1)(b:aE H1 H2):aE H H2:=fun c o h=>b c o (a c o h)
theorem aE.free(e:aE H H')(h:H' l=Option.none):H l=Option.none:=by
 cases q:H l with
 |none=>rfl
 |some o=>
  rw[e l o q] at h;cases h
def Je(src:List (Option Nat))(σ:St):St:=src.map fun o=>match o with|some j=>σ.getD j none|none=>none
theorem Gf{src:List (Option Nat)}{σ:St}{i:Nat}{v:V}(h:(Je src σ)[i]?=some (some v)):∃j,src[i]?=some (some j)/\σ[j]?=some (some v):=by
 unfold Je at h;rw[bn] at h;cases e:src[i]? with
 |none=>rw[e] at h;cases h
 |some o=>
  rw[e] at h;cases o with
  |none=>cases h
  |some j=>
   refine⟨j,rfl,?_⟩;have h':σ.getD j none=some v:=bR h;rw[bO] at h';cases e2:σ[j]? with
   |none=>rw[e2] at h';cases h'
   |some o=>rw[e2] at h';rw[show o=some v from h']
structure gz(NB:List Str)(src:List (Option Nat))(scope:Scope)(X:Cx):Prop where
 kind:scope.kind=.function
 nd:NB.Nodup
 len:src.length=NB.length
 cells:∀y∈scope.names,y.2=.cell->scope.names.lookup y.1=some .cell
 names:∀y∈scope.names,y.2=.local->scope.names.lookup y.1=some .local
 free:∀y∈scope.names,y.2=.free->X.env.scope.names.lookup y.1=some .cell\/X.env.scope.names.lookup y.1=some .free
 src:∀ (i:Nat) (x:Str) (j:Nat),NB[i]?=some x->src[i]?=some (some j)->X.N[j]?=some x/\scope.names.lookup x=some .free
def uC(scope:Scope)(x:Str):Bool:=match scope.names.lookup x with
 |some .cell=>true
 |_=>false
theorem vV:uC scope x=true↔scope.names.lookup x=some .cell:=by
 unfold uC;split
 .rename_i h;exact⟨fun _=>h,fun _=>rfl⟩
 .rename_i h;exact⟨fun z=>(by cases z),fun z=>absurd z h⟩
def zV(X:Cx)(NB:List Str)(scope:Scope)(cl:List (Str×Addr))(C:Addr)(s₃:Shared)(H₃:Hp)(fp:List Addr):Cx:=
 { X with N:=NB,s₀:=s₃,H₀:=H₃,env:=compEnvC scope cl C X.env,outer:=X.stack,stack:=X.stack,ex:=fp,fn:=uC scope,pn:=[],xe:=fun _ _=>False }
theorem lK:∀ (names:List (Str×NameKind)) (dF:List (Str×Addr)),(∀y∈names,y.2=NameKind.free->∃c,env.cells.lookup y.1=some c)->(∀x c,dF.lookup x=some c->env.cells.lookup x=some c)->
  ∃cl,(forIn names dF fun x r=>(if (x.2==NameKind.free)=true then (do let a <- cellOf env x.1;pure (ForInStep.yield ((x.1,a)::r))) else pure (ForInStep.yield r):Sem (ForInStep (List (Str×Addr)))))=(pure cl:Sem (List (Str×Addr)))/\
   (∀x c,cl.lookup x=some c->env.cells.lookup x=some c)/\(∀x c,dF.lookup x=some c->∃c',cl.lookup x=some c')/\∀x,(x,NameKind.free)∈names->∃c,cl.lookup x=some c
 |[],dF,_,ha=>⟨dF,by rw[List.forIn_nil],ha,fun x c h=>⟨c,h⟩,fun x h=>nomatch h⟩
 |(n,k)::r,dF,hf,ha=>by
  by_cases hk:k=NameKind.free
  .subst hk;obtain⟨c,hc⟩:=hf (n,NameKind.free) b9 rfl;have TW:∀x c',((n,c)::dF).lookup x=some c'->env.cells.lookup x=some c':=fun x c' h=>by
    rw[fu] at h;cases hx:x==n with
    |true=>
     rw[hx] at h;cases h;have:x=n:=by simpa using hx
     rw[this];exact hc
    |false=>rw[hx] at h;exact ha x c' h
   obtain⟨cl,e1,e2,e3,e4⟩:=lK r ((n,c)::dF) (fun y hy=>hf y (cC _ hy)) TW;refine⟨cl,?_,e2,fun x c' h=>?_,fun x h=>?_⟩
   .rw[List.forIn_cons];have ec:cellOf env n=pure c:=by unfold cellOf;rw[hc]
    have e0:(if ((n,NameKind.free).2==NameKind.free)=true then (do let a <- cellOf env (n,NameKind.free).1;pure (ForInStep.yield (((n,NameKind.free).1,a)::dF))) else pure (ForInStep.yield dF):Sem (ForInStep (List (Str×Addr))))=pure (ForInStep.yield ((n,c)::dF)):=by
     rw[ao (show (NameKind.free==NameKind.free)=true by decide)];show cellOf env n >>= _=_;rw[ec];rfl
    rw[e0];exact e1
   .cases hx:x==n with
    |true=>exact e3 x c (by rw[fu,hx])
    |false=>exact e3 x c' (by rw[fu,hx];exact h)
   .rcases bK.mp h with h|h
    .cases h;exact e3 n c (by rw[fu];simp)
    .exact e4 x h
  .obtain⟨cl,e1,e2,e3,e4⟩:=lK r dF (fun y hy=>hf y (cC _ hy)) ha;refine⟨cl,?_,e2,e3,fun x h=>?_⟩
   .rw[List.forIn_cons];have hb:(k==NameKind.free)=false:=by simpa using hk
    have e0:(if ((n,k).2==NameKind.free)=true then (do let a <- cellOf env (n,k).1;pure (ForInStep.yield (((n,k).1,a)::dF))) else pure (ForInStep.yield dF):Sem (ForInStep (List (Str×Addr))))=pure (ForInStep.yield dF):=by
     rw[ap (by show ¬ (k==NameKind.free)=true;rw[hb];decide)]
    rw[e0];exact e1
   .rcases bK.mp h with h|h
    .cases h;exact absurd rfl hk
    .exact e4 x h
theorem lL(ok:X.Ok)(S:gz NB src scope X):
  ∃cl,closureFor scope X.env=pure cl/\(∀x c,cl.lookup x=some c->X.env.cells.lookup x=some c)/\∀x,(x,NameKind.free)∈scope.names->∃c,cl.lookup x=some c:=by
 obtain⟨cl,e1,e2,_,e4⟩:=lK (env:=X.env) scope.names [] (fun y hy hk=>ok.has y.1 (S.free y hy hk)) (fun x c h=>nomatch h);refine⟨cl,?_,e2,e4⟩;unfold closureFor;simp only[bind_pure];exact e1
theorem uD(h:scope.names.lookup x=some .free):(relabel scope env).names.lookup x=some .cell\/(relabel scope env).names.lookup x=some .free:=by
 have go:∀names:List (Str×NameKind),names.lookup x=some .free->
   (names.map fun (n,k)=>if (k==NameKind.free&&env.scope.kind==.function&&env.kindOf n==some .cell) then (n,NameKind.cell) else (n,k)).lookup x=some .cell\/
   (names.map fun (n,k)=>if (k==NameKind.free&&env.scope.kind==.function&&env.kindOf n==some .cell) then (n,NameKind.cell) else (n,k)).lookup x=some .free:=by
  intro names;induction names with
  |nil=>intro h;simp at h
  |cons y r ih=>
   intro h;obtain⟨n,k⟩:=y;rw[fu] at h;rw[cW];cases hx:x==n with
   |true=>
    rw[hx] at h;cases h;by_cases hc:(NameKind.free==NameKind.free&&env.scope.kind==.function&&env.kindOf n==some .cell)=true
    .left;show List.lookup x ((if _ then _ else _)::_)=_;rw[ao hc,fu,hx]
    .right;show List.lookup x ((if _ then _ else _)::_)=_;rw[ap hc,fu,hx]
   |false=>
    rw[hx] at h;by_cases hc:(k==NameKind.free&&env.scope.kind==.function&&env.kindOf n==some .cell)=true
    .show List.lookup x ((if _ then _ else _)::_)=_\/List.lookup x ((if _ then _ else _)::_)=_;rw[ao hc,fu,hx];exact ih h
    .show List.lookup x ((if _ then _ else _)::_)=_\/List.lookup x ((if _ then _ else _)::_)=_;rw[ap hc,fu,hx];exact ih h
 exact go scope.names h
theorem mh(h:(relabel scope env).names.lookup x=some k)(hk:k=.cell\/k=.free):(x,NameKind.free)∈scope.names\/(x,NameKind.cell)∈scope.names:=by
 have m:=jp h;obtain⟨⟨n,k'⟩,hm,e⟩:=bP.mp m;by_cases q:(k'==NameKind.free&&env.scope.kind==.function&&env.kindOf n==some .cell)=true
 .have e':(n,NameKind.cell)=(x,k):=by simpa [q] using e
  have k1:k'=NameKind.free:=by
   simp only[eK,gX] at q;exact q.1.1
  cases e';left;rw[<-k1];exact hm
 .have e':(n,k')=(x,k):=by simpa [q] using e
  cases e';rcases hk with z|z
  .subst z;exact .inr hm
  .subst z;exact .inl hm
theorem nB:∀ (names:List (Str×NameKind)) (h:Heap) (dF:List (Str×Addr)) (x:Str) (c:Addr),(cellsFrom h.objs.size names dF).lookup x=some c->dF.lookup x=some c\/(h.objs.size<=c/\(pushCells h names).IsCell c none)
 |[],_,_,_,_,e=>.inl e
 |(name,kind)::r,h,dF,x,c,e=>by
  unfold cellsFrom at e;unfold pushCells;split at e
  .rename_i hk;rw[ao hk];have hsz:(h.push { cls:=.type "cell",data:=.cell none }).objs.size=h.objs.size+1:=iH ..;rw[<-hsz] at e;rcases nB r _ _ x c e with z|⟨z1,z2⟩
   .rw[fu] at z;cases hx:x==name with
    |true=>
     rw[hx] at z;cases z;exact .inr ⟨aL _,_,pushCells_keeps r _ _ _ (cV _ rfl),rfl⟩
    |false=>rw[hx] at z;exact .inl z
   .exact .inr ⟨by lia,z2⟩
  .rename_i hk;rw[ap hk];exact nB r h dF x c e
theorem sj:∀ (names:List (Str×NameKind)) (n:Nat) (dF:List (Str×Addr)) (x:Str),(x,NameKind.cell)∈names->∃c,n<=c/\(cellsFrom n names dF).lookup x=some c:=by
 have up:∀ (names:List (Str×NameKind)) (n m:Nat) (dF:List (Str×Addr)) (x:Str) (c:Addr),dF.lookup x=some c->m<=c->m<=n->∃c',m<=c'/\(cellsFrom n names dF).lookup x=some c':=by
  intro names;induction names with
  |nil=>intro n m dF x c e h _;exact⟨c,h,e⟩
  |cons y r ih=>
   intro n m dF x c e h hm;obtain⟨name,kind⟩:=y;unfold cellsFrom;split
   .cases hx:x==name with
    |true=>exact ih (n+1) m _ x n (by rw[fu,hx]) hm (by lia)
    |false=>exact ih (n+1) m _ x c (by rw[fu,hx];exact e) h (by lia)
   .exact ih n m dF x c e h hm
 intro names;induction names with
 |nil=>intro n dF x h;cases h
 |cons y r ih=>
  intro n dF x h;obtain⟨name,kind⟩:=y;unfold cellsFrom;rcases bK.mp h with z|z
  .cases z;rw[ao (by decide)];exact up r (n+1) n _ x n (by rw[fu];simp) (aL _) (by lia)
  .split
   .obtain⟨c,h1,h2⟩:=ih (n+1) ((name,n)::dF) x z;exact⟨c,by lia,h2⟩
   .exact ih n dF x z
theorem j5:∀ (names:List (Str×NameKind)) (n:Nat) (dF:List (Str×Addr)) (x:Str) (c:Addr),dF.lookup x=some c->(x,NameKind.cell)∉names->(cellsFrom n names dF).lookup x=some c
 |[],_,_,_,_,e,_=>e
 |(name,kind)::r,n,dF,x,c,e,h=>by
  have hr:(x,NameKind.cell)∉r:=fun z=>h (cC _ z);unfold cellsFrom;split
  .rename_i hk;have jn:(x==name)=false:=by
    cases hx:x==name with
    |false=>rfl
    |true=>
     have e1:x=name:=by simpa using hx
     have e2:kind=.cell:=by simpa using hk
     exact absurd (by rw[e1,e2];exact b9) h
   exact j5 r (n+1) _ x c (by rw[fu,jn];exact e) hr
  .exact j5 r n dF x c e hr
theorem nC:∀ (names:List (Str×NameKind)) (n:Nat) (dF:List (Str×Addr)),(∀x y c,dF.lookup x=some c->dF.lookup y=some c->x=y)->(∀x c,dF.lookup x=some c->c<n)->∀x y c,(cellsFrom n names dF).lookup x=some c->(cellsFrom n names dF).lookup y=some c->x=y
 |[],_,_,hi,_=>hi
 |(name,kind)::r,n,dF,hi,hl=>by
  unfold cellsFrom;split
  .refine nC r (n+1) _ (fun x y c h1 h2=>?_) (fun x c h=>?_)
   .rw[fu] at h1 h2;cases hx:x==name <;> cases hy:y==name <;> rw[hx] at h1 <;> rw[hy] at h2
    .exact hi x y c h1 h2
    .cases h2;exact absurd (hl x _ h1) (jg _)
    .cases h1;exact absurd (hl y _ h2) (jg _)
    .have e1:x=name:=by simpa using hx
     have e2:y=name:=by simpa using hy
     rw[e1,e2]
   .rw[fu] at h;cases hx:x==name <;> rw[hx] at h
    .exact e_ (hl x c h)
    .cases h;exact jw _
  .exact nC r n dF hi hl
section
variable {X:Cx} {ae:List (Addr×Obj)} {σ:St} {H:Hp} {s:Shared} {NB:List Str} {src:List (Option Nat)} {scope:Scope} {cl:List (Str×Addr)} {fp:List Addr} {h₁:Heap} {t₁:Nat}
theorem Gg(I:aK X ae σ H s)(S:gz NB src scope X)(c1:∀x c,cl.lookup x=some c->X.env.cells.lookup x=some c)(c2:∀x,(x,NameKind.free)∈scope.names->∃c,cl.lookup x=some c)(hf:∀b∈fp,kB X ae H b)(KA:∀b∈fp,b<s.heap.objs.size){m:Str->Option Value}(hn:h₁.Ns s.heap.objs.size m)(hk:∀b o,s.heap.get? b=some o->h₁.get? b=some o)(nA:∀x c,(cellsFrom (s.heap.objs.size+1) scope.names cl).lookup x=some c->cl.lookup x=some c\/(s.heap.objs.size<c/\h₁.IsCell c none)):
  aK (zV X NB scope (cellsFrom (s.heap.objs.size+1) scope.names cl) s.heap.objs.size s H fp) [] (Je src σ) H { s with heap:=h₁,toks:=t₁ }:=by
 have M_:∀b∈A5 X.stack,b∈X.env.locals::X.fs:=I.pY;have qd:∀x c,cl.lookup x=some c->∃v,s.heap.IsCell c v:=fun x c e=>I.cell x c (c1 x c e);have TX:∀x c,cl.lookup x=some c->c<s.heap.objs.size:=fun x c e=>by obtain⟨v,o,ho,_⟩:=qd x c e;exact aY ho
 refine⟨⟨I.ok.mod,S.kind,I.ok.glob,I.ok.blt,aL _,nC _ _ _ (fun x y c e1 e2=>I.ok.inj x y c (c1 x c e1) (c1 y c e2)) (fun x c e=>e_ (TX x c e)),fun x hx=>?_,fun x c z e=>?_,I.ok.hd,I.ok.frames,.inl rfl,fun b hb=>⟨?_,fun x c e=>?_⟩,I.bs,bB I.ok.Cg I.sz,fun b o e hb=>?_,fun b hb=>?_,I.stack,I.oT⟩,
  rfl,I.bare,Un.kept hk,⟨m,hn,fun i x v e1 e2 e3=>?_⟩,fun x c e=>?_,I.bA.fresh (aL _),fun x c e=>?_,fun p hp=>absurd (show p∈([]:List (Addr×Obj)) from hp) (by simp),I.bA.kept hk,?_⟩
 .have TY:(x,NameKind.free)∈scope.names\/(x,NameKind.cell)∈scope.names:=by
   rcases hx with hx|hx
   .exact mh hx (.inl rfl)
   .exact mh hx (.inr rfl)
  by_cases hc:(x,NameKind.cell)∈scope.names
  .obtain⟨c,_,e⟩:=sj scope.names (s.heap.objs.size+1) cl x hc;exact⟨c,e⟩
  .rcases TY with z|z
   .obtain⟨c,e⟩:=c2 x z;exact⟨c,j5 _ _ _ _ _ e hc⟩
   .exact absurd z hc
 .have hm:=jp (vV.mp z);obtain⟨c',h1,h2⟩:=sj scope.names (s.heap.objs.size+1) cl x hm;have e':(cellsFrom (s.heap.objs.size+1) scope.names cl).lookup x=some c:=e;rw[h2] at e';cases e';exact Nat.le_of_succ_le h1
 .exact aX (KA b hb)
 .rcases nA x c e with z|⟨z,_⟩
  .exact(hf b hb).2.2.2.2.1 x c (c1 x c z)
  .exact jA (pU (KA b hb) z)
 .rcases(hf b hb).2.2.2.1 with z|z
  .exact I.ok.CJ b o e z
  .exact absurd (bV (aY e) (bB I.ok.Cg z)) (jg _)
 .intro z;rcases bK.mp (M_ b z) with e|e
  .exact(hf b hb).2.1 e
  .exact(hf b hb).2.2.1 e
 .obtain⟨j,hj,hv⟩:=Gf e2;obtain⟨hN,hF⟩:=S.src i x j e1 hj;obtain⟨m0,hn0,Zq⟩:=I.loc;have Gh:=jp hF;have kx:=S.free _ Gh rfl;have Tn:NK X.env.scope x:=by
   rcases kx with z|z
   .exact .inr (.inl z)
   .exact .inr (.inr z)
  obtain⟨u,r,l⟩:=Zq j x v hN hv Tn;refine⟨u,r,.inr ⟨uD hF,?_⟩⟩;obtain⟨c,hc⟩:=c2 x Gh;have Zr:(x,NameKind.cell)∉scope.names:=fun z=>by
   have:=S.cells _ z rfl;rw[hF] at this;cases this
  refine⟨c,j5 _ _ _ _ _ hc Zr,?_⟩;rcases l with ⟨Zt,_⟩|⟨_,c',e,z⟩
  .have On:X.env.scope.names.lookup x=some .local:=Zt;rcases kx with z|z <;> (rw[z] at On;cases On)
  .rw[c1 x c hc] at e;cases e;obtain⟨o,ho,hd⟩:=z;exact⟨o,hk _ _ ho,hd⟩
 .rcases nA x c e with z|⟨_,z⟩
  .obtain⟨v,o,ho,hd⟩:=qd x c z;exact⟨v,o,hk _ _ ho,hd⟩
  .exact⟨none,z⟩
 .rcases nA x c e with z|⟨z,_⟩
  .exact I.jD x c (c1 x c z)
  .exact I.bA.fresh (dG z)
 .show (Je src σ).length=NB.length;unfold Je;rw[aO];exact S.len
theorem aK.Oo(I:aK X ae σ H s)(J:aK (zV X NB scope cl C s H fp) [] σB H' s')(hf:∀b∈fp,kB X ae H b):aK X ae σ H' s':=by
 refine I.IY (ch:=fp) J.os J.base J.bA J.bare fun b hb=>?_;obtain⟨_,f1,_,f3,f4,f5⟩:=hf b hb;exact⟨f3,f1,f4,f5⟩
end
def Nb(X:Cx)(zW:List Expr)(t:TT):Prop:=
 ∀ (ae:List (Addr×Obj)) (s:Shared) (σ:St) (H:Hp) (Q:Bool->Hp->Prop),aK X ae σ H s->t σ H Q->
  wpAny (model X.prog X.w) X.A (forIn zW true fun c r=>if r=true then do let ok <- isTrue c X.env (eval c X.env);pure (ForInStep.yield ok) else pure (ForInStep.yield r)) (TP X ae σ Q) X.xe s
def TZ:TT:=fun _ H Q=>Q true H
theorem ff:Nb X [] TZ:=fun _ _ _ H _ I h=>wpAny_tests_nil ⟨H,I,h⟩
theorem fg(h:PT X c t):Nb X [c] t:=fun ae s σ H Q I q=>wpAny_tests_one (h ae s σ H Q I q)
def gZ(J:It)(g:TG)(tt:TT)(te:TE)(D:Addr)(fin:Hp->Prop)(σB:St)(H1:Hp):Prop:=
 ∃W:Nat->Nat->St->Hp->Prop,(∃m,W 0 m σB H1)/\∀i m σ H,W i m σ H->(J.stop i H/\fin H)\/(J.go i H/\∀x H',J.Ja i H x H'->g x σ H' fun σ2 H2=>tt σ2 H2 fun b H3=>
  if b=true then te σ2 H3 fun v H4=>∃ys,H4 D=some (.lst ys)/\ys.length<sizeLine/\∃m',m'<m/\W (i+1) m' σ2 (upd H4 D (.lst (ys++[v]))) else ∃m',m'<m/\W (i+1) m' σ2 H3)
def yD(G:Hp->Prop)(J:It)(g:TG)(tt:TT)(te:TE)(D:Addr)(fin:Hp->Prop)(σB:St)(H1:Hp):Prop:=
 ∃W:Nat->Nat->St->Hp->Prop,(∃m,W 0 m σB H1)/\∀i m σ H,W i m σ H->G H/\((J.stop i H/\fin H)\/(J.go i H/\∀x H',J.Ja i H x H'->g x σ H' fun σ2 H2=>tt σ2 H2 fun b H3=>
  if b=true then te σ2 H3 fun v H4=>∃ys,H4 D=some (.lst ys)/\ys.length<sizeLine/\∃m',m'<m/\W (i+1) m' σ2 (upd H4 D (.lst (ys++[v]))) else ∃m',m'<m/\W (i+1) m' σ2 H3))
theorem gZ.g{J:It}{g:TG}{tt:TT}{te:TE}{D:Addr}{fin:Hp->Prop}{σB:St}{H1:Hp}(h:gZ J g tt te D fin σB H1):yD (fun _=>True) J g tt te D fin σB H1:=let ⟨W,a,b⟩:=h;⟨W,a,fun i m σ H w=>⟨trivial,b i m σ H w⟩⟩
theorem Bi(hx:B.xe=fun _ _=>False)(hc:∀H,G H->B.calm=true\/J.RB B.A H)(T:uj B.prog B.w B.K tg J fp it tn)(hg:PG B tg g)(ht:Nb B zW tt)(he:PE B Cj te)(I:aK B [] σB H1 s)(st:tn 0 s.heap)(hf:∀b∈fp,kB B [] H1 b)(hw:yD G J g tt te D fin σB H1)(hR:∀σ' H' s',aK B [] σ' H' s'->fin H'->R (.ok .next) s'):
  codeAny (model B.prog B.w) B.A (.compLoop (.ListComp Cj [⟨tg,jj,zW,0⟩] scope pos) 0 (.ref it) (.ref D) B.env) R s:=by
 obtain⟨W,⟨m0,w0⟩,CO⟩:=hw;have yp:∀ {H':Hp},(∀b∈fp,H' b=none)->∀b∈fp,kB B [] H' b:=fun hn b hb=>⟨hn b hb,(hf b hb).2⟩
 refine codeAny_loop rfl (fun n s'=>∃i σ' H',aK B [] σ' H' s'/\tn i s'.heap/\(∀b∈fp,H' b=none)/\W i n σ' H') ?_ m0 ⟨0,σB,H1,I,st,fun b hb=>(hf b hb).1,w0⟩;rintro n s3 ⟨i,σ3,H3,I3,uo,Ki,w3⟩;show wpAny _ B.A ((compTurn (.ListComp Cj [⟨tg,jj,zW,0⟩] scope pos) 0 (.ref it) (.ref D) B.env).onRaise (fun x=>do noteFrame x B.env;theTreesLotGoes x)) _ _ s3;refine wpAny_noted ?_;rw[compTurn_list];have nx:∀ {α:Type} {t:Sem α} {Q:α->Shared->Prop} {E':Value->Shared->Prop} {s:Shared},wpAny (model B.prog B.w) B.A t Q B.xe s->wpAny (model B.prog B.w) B.A t Q E' s:=fun h=>
  h9 h (fun _ _ q=>q) fun _ _ z=>by rw[hx] at z;exact z.elim
 obtain⟨hG,Op⟩:=CO i n σ3 H3 w3;rcases Op with ⟨stop,qn⟩|⟨go,step⟩
 .refine aI (pV (aI (bZ (T.done B rfl rfl rfl i [] s3 σ3 H3 _ (hc _ hG) I3 (yp Ki) uo stop) fun r s4 ⟨hr,I4⟩=>?_)));subst hr;exact wpAny_pure (hR σ3 H3 s4 I4 qn)
 .refine aI (pV (aI (bZ (T.item B rfl rfl rfl i [] s3 σ3 H3 _ (hc _ hG) I3 (yp Ki) uo go) fun r s4 ⟨u,hr,h4⟩=>?_)));subst hr;refine aI (bZ h4 fun _ s5 ⟨x,H5,I5,r5,y5,zJ,Tt⟩=>?_);have Tv:=I5.pinned (yp Tt) (T.obj _ _ zJ);refine aI (nx (bZ (hg _ s5 σ3 H5 x u _ Tv r5 (step x H5 y5)) fun _ s6 ⟨σ6,H6,I6,q6⟩=>?_));have back:∀ {σ7:St} {H7:Hp} {s7:Shared} {m':Nat},aK B ([]++qa fp s5.heap) σ7 H7 s7->m'<n->W (i+1) m' σ7 H7->∃m,m<n/\∃i σ' H',aK B [] σ' H' s7/\tn i s7.heap/\(∀b∈fp,H' b=none)/\W i m σ' H':=fun {σ7 H7 s7 m'} I7 hm w7=>by
   refine⟨m',hm,i+1,σ7,H7,I7.l7,T.keep _ _ _ zJ fun b hb o e=>(I7.pin (b,o) (ik _ (ik _ (iP hb e)))).1,fun b hb=>?_,w7⟩;obtain⟨o,e,d⟩:=T.obj _ _ zJ b hb;exact(I7.pin (b,o) (ik _ (ik _ (iP hb e)))).2.1
  refine aI (nx (bZ (ht _ s6 σ6 H6 _ I6 q6) fun ok s7 ⟨H7,I7,q7⟩=>?_));cases ok with
  |false=>
   rw[ap cj] at q7;obtain⟨m',hm,w7⟩:=q7;exact wpAny_pure ⟨rfl,back I7 hm w7⟩
  |true=>
   rw[ao rfl] at q7;refine aI (aI (nx (bZ (he _ s7 σ6 H7 _ I7 q7) fun v s8 ⟨y,H8,I8,r8,ys,hD,hl,m',hm,w8⟩=>?_)));refine aI (nx (bZ (dh _ s8 σ6 H8 (.ref D) [y] (.ref D) [v] (fun _ H9=>H9=upd H8 D (.lst (ys++[y]))) I8 rfl (.cons r8 .nil) ⟨D,ys,y,rfl,rfl,hD,hl,rfl⟩) fun _ s9 ⟨_,H9,I9,_,e9⟩=>?_));subst e9;exact wpAny_pure (wpAny_pure ⟨rfl,back I9 hm w8⟩)
theorem uE(hQ:Q { scope:=scope,locals:=s.heap.objs.size,globals:=globals,cells:=cellsFrom (s.heap.objs.size+1) scope.names cl,qual:=qual,func:=none,code:=outer.code,frame:=outer.frame,builtins:=outer.builtins }
   { s with heap:=pushCells (s.heap.push { cls:=.type "dict",data:=.dict #[] }) scope.names }):
  wpAny M A (newFunctionEnv scope globals cl [] qual none .none (some outer)) Q E s:=by
 simp only[newFunctionEnv,Option.isSome_some,iL];refine aI (wpAny_alloc ?_);refine aI (wpAny_layCells _ (fun name kind cells=>by cases Zu:kind==NameKind.cell <;> simp[Zu]) _ _ _ _ ?_);rw[show ({ s with heap:=s.heap.push { cls:=.type "dict",data:=.dict #[] } }:Shared).heap.objs.size=s.heap.objs.size+1 from iH ..];refine aI ?_;rw[List.forIn_nil];exact wpAny_pure (wpAny_pure hQ)
section
variable {X:Cx} {Cj tg jj:Expr} {zW:List Expr} {scope:Scope} {pos:Pos} {wi:TI} {g:TG} {tt:TT} {te:TE} {NB:List Str} {src:List (Option Nat)}
def Jf(src:List (Option Nat))(wi:TI)(g:TG)(tt:TT)(te:TE):TE:=fun σ H Q=>wi σ H fun J H1=>∀D,H1 D=none->gZ J g tt te D (fun H'=>Q (.ref D) H') (Je src σ) (upd H1 D (.lst []))
theorem qe{ae:List (Addr×Obj)}{σ:St}{H2:Hp}{s2:Shared}{J:It}{fp:List Addr}{it:Addr}{tn:Nat->Heap->Prop}{cl:List (Str×Addr)}{fin:Addr->Hp->Prop}{E':Value->Shared->Prop}{RR:Value->Addr->Result->Shared->Prop}{G:Hp->Prop}(S:gz NB src scope X)(hc:∀H,G H->X.calm=true\/J.RB X.A H)(c1:∀x c,cl.lookup x=some c->X.env.cells.lookup x=some c)(c2:∀x,(x,NameKind.free)∈scope.names->∃c,cl.lookup x=some c)(hg:∀cl C s₃ H₃ fp,PG (zV X NB scope cl C s₃ H₃ fp) tg g)(ht:∀cl C s₃ H₃ fp,Nb (zV X NB scope cl C s₃ H₃ fp) zW tt)(he:∀cl C s₃ H₃ fp,PE (zV X NB scope cl C s₃ H₃ fp) Cj te)(I2:aK X ae σ H2 s2)(T:uj X.prog X.w X.K tg J fp it tn)(gR:tn 0 s2.heap)(f2:∀b∈fp,kB X ae H2 b)(hw:∀D,H2 D=none->yD G J g tt te D (fin D) (Je src σ) (upd H2 D (.lst [])))(hR:∀D C H' s',kB X ae H' C->aK X ae σ H' s'->(∃m,s'.heap.Ns C m)->fin D H'->RR (.ref D) C (.ok .next) s'):
  wpAny (model X.prog X.w) X.A (newList []) (fun dF s₃=>wpAny (model X.prog X.w) X.A (newFunctionEnv scope X.env.globals cl [] X.env.qual none .none (some X.env)) (fun Oq s₄=>
   codeAny (model X.prog X.w) X.A (.compStart (.ListComp Cj [⟨tg,jj,zW,0⟩] scope pos) 0 (.ref it) dF { Oq with scope:=relabel scope X.env }) (RR dF Oq.locals) s₄) E' s₃) E' s2:=by
 refine pR (uE ?_);have I3:=I2.Oj (ys:=[]) (its:=[]) (t':=s2.toks) .nil (df _);have hD:H2 s2.heap.objs.size=none:=I2.fresh;have fo:∀b∈fp,b<s2.heap.objs.size:=fun b hb=>by obtain⟨o,e,_⟩:=T.obj _ _ gR b hb;exact aY e
 have up:∀ {b:Addr},b∈fp->upd H2 s2.heap.objs.size (.lst []) b=H2 b:=fun {b} hb=>ak (aX (fo b hb));have f3:∀b∈fp,kB X ae (upd H2 s2.heap.objs.size (.lst [])) b:=fun b hb=>⟨by rw[up hb];exact(f2 b hb).1,(f2 b hb).2⟩
 have hsz:(s2.heap.push { cls:=.type "list",data:=.seq ([]:List Value).toArray }).objs.size=s2.heap.objs.size+1:=by rw[iH]
 generalize Zv:({ s2 with heap:=s2.heap.push { cls:=.type "list",data:=.seq ([]:List Value).toArray } }:Shared)=s3 at I3 |-;have Xp:s3.heap=s2.heap.push { cls:=.type "list",data:=.seq ([]:List Value).toArray }:=by rw[<-Zv]
 have Xq:∀b∈fp,b<s3.heap.objs.size:=fun b hb=>by rw[Xp,hsz];exact e_ (fo b hb)
 have Os:(s3.heap.push { cls:=.type "dict",data:=.dict #[] }).objs.size=s3.heap.objs.size+1:=iH ..;have nA:∀x c,(cellsFrom (s3.heap.objs.size+1) scope.names cl).lookup x=some c->cl.lookup x=some c\/(s3.heap.objs.size<c/\(pushCells (s3.heap.push { cls:=.type "dict",data:=.dict #[] }) scope.names).IsCell c none):=fun x c e=>by
  rw[<-Os] at e;rcases nB _ _ _ _ _ e with z|⟨z1,z2⟩
  .exact .inl z
  .exact .inr ⟨by rw[Os] at z1;exact z1,z2⟩
 have Ot:=(Heap.Ns.new s3.heap (.type "dict")).keeps (pushCells_keeps scope.names _);have keep:∀b o,s3.heap.get? b=some o->(pushCells (s3.heap.push { cls:=.type "dict",data:=.dict #[] }) scope.names).get? b=some o:=fun b o e=>pushCells_keeps _ _ b o (cq _ e);generalize hh1:pushCells (s3.heap.push { cls:=.type "dict",data:=.dict #[] }) scope.names=h₁ at nA Ot keep |-;have IB:aK (zV X NB scope (cellsFrom (s3.heap.objs.size+1) scope.names cl) s3.heap.objs.size s3 (upd H2 s2.heap.objs.size (.lst [])) fp) [] (Je src σ) (upd H2 s2.heap.objs.size (.lst [])) { s3 with heap:=h₁,toks:=s3.toks }:=
  Gg I3 S c1 c2 f3 Xq Ot keep nA
 have Xr:tn 0 h₁:=T.keep 0 s2.heap h₁ gR fun b hb o e=>keep b o (by rw[Xp];exact cq _ e);have fB:∀b∈fp,kB (zV X NB scope (cellsFrom (s3.heap.objs.size+1) scope.names cl) s3.heap.objs.size s3 (upd H2 s2.heap.objs.size (.lst [])) fp) [] (upd H2 s2.heap.objs.size (.lst [])) b:=fun b hb=>by
  refine⟨(f3 b hb).1,aX (Xq b hb),fun z=>?_,.inl hb,fun x c e=>(IB.ok.S8 b hb).2 x c e,fun p hp=>absurd (show p∈([]:List (Addr×Obj)) from hp) (by simp)⟩;rcases bK.mp (I3.pY b z) with e|e
  .exact(f3 b hb).2.1 e
  .exact(f3 b hb).2.2.1 e
 have loop:codeAny (model X.prog X.w) X.A (.compLoop (.ListComp Cj [⟨tg,jj,zW,0⟩] scope pos) 0 (.ref it) (.ref s2.heap.objs.size) (compEnvC scope (cellsFrom (s3.heap.objs.size+1) scope.names cl) s3.heap.objs.size X.env)) (RR (.ref s2.heap.objs.size) s3.heap.objs.size)
   { s3 with heap:=h₁,toks:=s3.toks }:=by
  refine Bi (B:=zV X NB scope (cellsFrom (s3.heap.objs.size+1) scope.names cl) s3.heap.objs.size s3 (upd H2 s2.heap.objs.size (.lst [])) fp) rfl hc T (hg _ _ _ _ _) (ht _ _ _ _ _) (he _ _ _ _ _) IB Xr fB (hw _ hD) fun σ' H' s' J' q=>?_;obtain⟨m,hm,_⟩:=J'.loc;exact hR _ _ H' s' (I3.vG (aL _) J'.free) (I3.Oo J' f3) ⟨m,hm⟩ q
 exact codeAny_compStart_list loop (T.self _ 0 _ _ _ Xr loop)
theorem cR(S:gz NB src scope X)(hc:X.calm=true)(hi:PI X tg jj wi)(hg:∀cl C s₃ H₃ fp,PG (zV X NB scope cl C s₃ H₃ fp) tg g)(ht:∀cl C s₃ H₃ fp,Nb (zV X NB scope cl C s₃ H₃ fp) zW tt)(he:∀cl C s₃ H₃ fp,PE (zV X NB scope cl C s₃ H₃ fp) Cj te)(hs:∀x,foldedSetIterable jj X.env x=pure x:=by intro _;rfl):PE X (.ListComp Cj [⟨tg,jj,zW,0⟩] scope pos) (Jf src wi g tt te):=by
 intro ae s σ H Q I h;obtain⟨cl,Jg,c1,c2⟩:=lL I.ok S;rw[eval_ListComp];refine wpAny_comprehension_free (use:=none) (cl:=cl) rfl hs Jg S.kind S.names (bZ (hi ae s σ H _ I h) fun v s1 h1=>bZ h1 fun RD s2 h2=>?_);obtain⟨it,fp,tn,J,H2,e,I2,T,gR,f2,hw⟩:=h2;subst e;refine qe (RR:=fun dF C=>compPost (model X.prog X.w) X.A X.xe none (EP X ae σ Q) dF C) S (G:=fun _=>True) (fun _ _=>.inl hc) c1 c2 hg ht he I2 T gR f2 (fun D hD=>(hw D hD).g) fun D C H' s' fC I' hm q=>?_;obtain⟨m,hm⟩:=hm;refine⟨m,hm,fun h' sb=>⟨.ref D,H',?_,rfl,q⟩⟩;obtain⟨g0,g1,_,g3,g4,g5⟩:=fC;exact I'.turned (t':=s'.toks) (fun b o hb e=>(sb.2 b hb).trans e) g0 g1 g3 g4 g5
theorem gA{i:Nat}{y:Str}{py Ou:Pos}(S:gz NB src scope X)(hc:X.calm=true)(hi:PI X tg jj wi)(hg:∀cl C s₃ H₃ fp,PG (zV X NB scope cl C s₃ H₃ fp) tg g)(ht:∀cl C s₃ H₃ fp,Nb (zV X NB scope cl C s₃ H₃ fp) zW tt)(he:∀cl C s₃ H₃ fp,PE (zV X NB scope cl C s₃ H₃ fp) Cj te)(hN:X.N.Nodup)(Zw:X.N[i]?=some y)(hy:X.env.scope.names.lookup y=some .local)(Zx:swapsWith (.ListComp Cj [⟨tg,jj,zW,0⟩] scope pos) (some (.Name y py)) Ou.line X.env=pure true)(hs:∀x,foldedSetIterable jj X.env x=pure x:=by intro _;rfl):
  PS X (.Assign [.Name y py] (.ListComp Cj [⟨tg,jj,zW,0⟩] scope pos) Ou) (Kg (Jf src wi g tt te) (bC i)):=by
 intro ae s σ H D0 I h;obtain⟨cl,Jg,c1,c2⟩:=lL I.ok S;rw[exec_Assign_Name_used _ _ _ _ Zx];refine aI (pV (aI ?_));show wpAny _ X.A (do let _ <- comprehension (.ListComp Cj [⟨tg,jj,zW,0⟩] scope pos) scope X.env _ (newList []) false (eval jj X.env) (some (assign (.Name y py) X.env))) _ _ s;refine aI (h9 (wpAny_comprehension_free (use:=some (assign (.Name y py) X.env)) (Q:=fun _ s'=>SP X ae D0 .next s') (cl:=cl) rfl hs Jg S.kind S.names
  (bZ (hi ae s σ H _ I h) fun v s1 h1=>bZ h1 fun RD s2 h2=>?_)) (fun _ s' hq=>wpAny_pure (wpAny_pure hq)) fun _ _ e=>e)
 obtain⟨it,fp,tn,J,H2,e,I2,T,gR,f2,hw⟩:=h2;subst e;refine qe (RR:=fun dF C=>compPost (model X.prog X.w) X.A X.xe (some (assign (.Name y py) X.env)) (fun _ s'=>SP X ae D0 .next s') dF C) S (G:=fun _=>True) (fun _ _=>.inl hc) c1 c2 hg ht he I2 T gR f2 (fun D hD=>(hw D hD).g) fun D C H' s' fC I' hm q=>?_;obtain⟨m,hm⟩:=hm;obtain⟨g0,g1,_,g3,g4,g5⟩:=fC;show wpAny _ X.A (assign (.Name y py) X.env (.ref D)) _ _ _;refine wpAny_assign_Name (rP I' hN Zw (.inl hy) (v:=.ref D) rfl (fun Oc Zy sb=>?_) (.inr hy));obtain⟨a,sb,ha⟩:=sb;have jn:C≠a:=by
  rcases ha with z|z
  .rw[z];exact g1
  .exact fun z'=>g4 y a z z'.symm
 refine⟨m,hm.sameBut sb jn,fun h' Zz=>⟨_,H',Zy.turned (t':=Oc.toks) (fun b o hb e=>(Zz.2 b hb).trans e) g0 g1 g3 g4 g5,q⟩⟩
end
section
variable {P:Program} {w:World} {K:PySem.W.Frag} {mg:Str->Option Value} {base:Heap} {N:List Str} {qual:Str} {scope:Scope} {f:Addr} {cd:Value} {A:Around} {outer:List Env} {s:Shared} {H:Hp} {E:XK}
end
open PySem PySem.Spec PyProof.Rows PySem.W
abbrev ZA:List Value:=[.type "ValueError",.type "Exception",.type "BaseException",.type "object"]
structure Bj(K:PySem.W.Frag)(C:Addr):Prop where
 ex:PySem.W.excIn K C ZA "ValueError.__new__"=true
 kp:PySem.W.keepIn K (.ref C)=true
 ga:PySem.W.findIn K (.ref C) "__getattribute__"=some (some (.builtin "BaseException.__getattribute__"))
 gt:PySem.W.findIn K (.ref C) "__getattr__"=some none
 cl:PySem.W.findIn K (.ref C) "__class__"=some (some (.builtin "object.__class__"))
 mo:PySem.W.mroIn K C (.type "object")=some true
 mb:PySem.W.mroIn K C (.type "BaseException")=some true
 ty:(PySem.W.clsIn K C).isSome=true
def T4(p:Addr)(C:Value)(h:Heap):Prop:=∃o,h.get? p=some o/\o.cls=C/\∃vs,o.data=.fields vs/\vs[2]?=some .none
abbrev T5(p:Addr)(C:Value):HO:=.ext (T4 p C)
theorem bQ.get(x:bQ P w H h a o):∃u,h.get? a=some u:=by
 cases o with
 |lst xs=>obtain⟨_,_,_,_,e⟩:=x;exact⟨_,e⟩
 |tup xs=>obtain⟨_,_,_,ob,e,_⟩:=x;exact⟨_,e⟩
 |dK kvs=>obtain⟨_,_,_,_,o,_,_,e,_⟩:=x;exact⟨_,e⟩
 |dT kvs=>obtain⟨_,_,_,_,o,_,_,e,_⟩:=x;exact⟨_,e⟩
 |set S n=>obtain⟨o,_,_,_,e,_⟩:=x;exact⟨_,e⟩
 |ins C dx fs=>obtain⟨_,_,_,e,_⟩:=x;exact⟨_,e⟩
 |own y=>exact x
 |xd fs=>obtain⟨_,⟨_,_,_,e,_⟩,_⟩:=x;exact⟨_,e⟩
 |CF lo hi=>obtain⟨_,_,_,e⟩:=x;exact⟨_,e⟩
 |iF ob u=>obtain⟨e,_⟩:=x;exact⟨_,e⟩
 |m6 ps=>exact⟨_,(show h.get? a=some _ from x)⟩
 |met f y=>exact⟨_,(show h.get? a=some _ from x)⟩
 |ext φ=>exact x.2.1
theorem iM.uF(x:iM P w H h)(e:h.get? a=none):H a=none:=by
 cases q:H a with
 |none=>rfl
 |some u=>obtain⟨o,z⟩:=(x a u q).get;rw[e] at z;cases z
theorem aK.vW(I:aK X ae σ H s)(k:∀b u,s.heap.get? b=some u->h'.get? b=some u)(hp:s.heap.get? a=none)(new:bQ X.prog X.w (upd H a o) h' a o):
  aK X ae σ (upd H a o) { s with heap:=h',toks:=t' }:=by
 have hn:=I.bA.uF hp;have ne:∀b u,s.heap.get? b=some u->b≠a:=fun b u e z=>by rw[z,hp] at e;cases e
 refine I.un ⟨fun b u e _ _ _=>k b u e,fun b u e _ _ _=>⟨u.slots,k b u e⟩,fun b u e n _=>by rw[ak (ne b u e)];exact n,fun b u e _=>⟨u,k b u e⟩,fun b xs e=>by rw[ak (ai e hn)];exact e,fun b u v e=>by rw[ak (ai e hn)];exact e,fun b ps e=>⟨#[],by rw[ak (ai e hn),e];simp⟩⟩ fun b u e=>?_;by_cases hb:b=a
 .subst hb;rw[af] at e;cases e;exact new
 .rw[ak hb] at e;exact(I.bA b u e).oC (fun c v _ q=>k c v q) (fun c q=>by rw[ak (ai q hn)];exact q) fun c xs q=>by rw[ak (ai q hn)];exact q
section
variable {prog:Program} {w:World} {A:Around} {E:Value->Shared->Prop} {s:Shared} {K:PySem.W.Frag} {x C:Addr} {ox:Obj}
theorem zX(hx:h.get? x=some ox)(hc:ox.cls=.ref C):PySem.W.Looks M h (typeOf (.ref x)) (.ref C):=hc ▸ (PySem.W.Looks.ld hx).andThen .now
open Builtin Builtin.ObjectAttr Builtin.Getset_descriptor in
theorem yE(X:K.In s.heap)(hx:s.heap.get? x=some ox)(hc:ox.cls=.ref C)(hm:PySem.W.mroIn K C (.type "object")=some true)(h:R (.ok (.ret (.ref C))) s):codeAny (model prog w) A (.call (.builtin "getset_descriptor.__get__") ⟨[.builtin "object.__class__",.ref x,tp],[]⟩) R s:=by
 obtain⟨hh,g,dr,t,os⟩:=s;have L0:=zX (M:=model prog w) hx hc;have L1:=looks_mroIn (M:=model prog w) X hm;refine xS KF.slot_gs.plain KF.entry_gs (KF.slot_gs.check _ _ _ _ _ _ _ _ KF.type_class (KF.args_gs _ _ _) ?_);unfold Builtin.«getset_descriptor.__get__» descrGet;rw[dga_obj];refine aI (wpAny_pure ?_);unfold descrGetter descrCheckInstance descrNameAndClass isInstance;simp only[KF.owner_class];repeat lk
 refine⟨Code.quiet_builtin _ (by decide +kernel),lq KF.entry_class ?_⟩;unfold Builtin.«object.__class__» shownTypeOf;repeat lk
 exact h
theorem Bk{g d t os}(T:Bj K C)(X:K.In h)(hx:h.get? x=some ox)(hc:ox.cls=.ref C)(hq:Q (.done (.ret (.ref C))) ⟨h,g,d,t,os⟩):
  wpAny (model prog w) A (Builtin.«object.__getattribute__» ⟨[.ref x,.str "__class__" tk],[]⟩) Q E ⟨h,g,d,t,os⟩:=by
 have f5:=F.typeOf_bexc_args;have hT5:(⟨h,g,d,t,os⟩:Shared).TypeIs (.builtin "object.__class__") "getset_descriptor":=Cv;have f5':=Cv;have f6:=F.slot_gs_get.lookup;have f7:=F.slot_gs_set.lookup;have L1:=looks_findIn (M:=model prog w) X T.cl;repeat (any_goals (first|assumption|(with_reducible refine yd hx ?_;rw[hc])|with_reducible refine L1.at ?_|wp_step))
 refine yE (s:=⟨h,g,d,t,os⟩) X hx hc T.mo ?_;repeat (any_goals (first|assumption|wp_step))
theorem Bm{g d t os}(T:Bj K C)(X:K.In h)(hx:h.get? x=some ox)(hc:ox.cls=.ref C)(hq:Q () ⟨h,g,d,t,os⟩):
  wpAny M A (checkBuiltinCall "BaseException.__getattribute__" ⟨[.ref x,Ov],[]⟩) Q E ⟨h,g,d,t,os⟩:=by
 have hk:builtinKind "BaseException.__getattribute__"=some .slot:=by decide +kernel
 have KB:splitId "BaseException.__getattribute__"=some ("BaseException","__getattribute__"):=by decide +kernel
 have ha:=F.args_bexc_ga (.ref x) Ov;have L1:=looks_mroIn (M:=M) X T.mb;simp only[checkBuiltinCall,hk,KB];refine aI ?_
 .unfold isInstance;repeat (first|(with_reducible refine yd hx ?_;rw[hc])|with_reducible refine L1.at ?_|wp_step)
  exact hq
theorem KC{tk:Tok}{fill FX:Bool}{Q:Value->Shared->Prop}{h:Heap}{g d t os}(T:Bj K C)(X:K.In h)(hx:h.get? x=some ox)(hc:ox.cls=.ref C)(hq:Q (.ref C) ⟨h,g,d,t,os⟩):
  wpAny (model prog w) A (getAttrBy (.ref x) (.str "__class__" tk) fill FX) Q E ⟨h,g,d,t,os⟩:=by
 have f3:=F.attr_ValueError.ga.bind (.ref x);have hx0:(FX&&onTheHeap (Value.builtin "BaseException.__getattribute__"))=false:=by cases FX <;> rfl
 have RL:(Value.builtin "BaseException.__getattribute__"==Value.builtin "object.__getattribute__")=false:=by decide +kernel
 have hx1:(onTheHeap (Value.ref C)&&Value.builtin "BaseException.__getattribute__"==Value.builtin "object.__getattribute__")=false:=by rw[RL];rfl
 have L1:=looks_findIn (M:=model prog w) X T.ga;have L2:=looks_findIn (M:=model prog w) X T.gt;repeat (any_goals (first|assumption|(with_reducible refine yd hx ?_;rw[hc])|with_reducible refine L1.at ?_|with_reducible refine L2.at ?_|wp_step))
 refine xS F.attr_ValueError.ga.plain F.entry_bexc_ga (Bm T X hx hc (Bk T X hx hc ?_));repeat (any_goals (first|assumption|wp_step))
theorem C_{Q:Option Value->Shared->Prop}{h:Heap}{g d t os}(T:Bj K C)(X:K.In h)(hx:h.get? x=some ox)(hc:ox.cls=.ref C)(hq:Q (some (.ref C)) ⟨h,g,d,t+1,os⟩):
  wpAny (model prog w) A (getAttr? (.ref x) "__class__") Q E ⟨h,g,d,t,os⟩:=by
 unfold getAttr?;repeat (any_goals (first|assumption|with_reducible apply KC T X hx hc|wp_step))
theorem Da(T:Bj K C):PySem.W.KitX K (.ref x) (.ref C) (T4 x (.ref C)) where
 ty:=fun _ _ _ ⟨o,e,c,_⟩=>zX e c
 it:=fun _ _ X _=>by
  obtain⟨ZB,FZ⟩:=pD.mp T.ty;unfold clsIn at FZ;split at FZ
  .rename_i c' d' ZC Ta ho;intro A' Q' E' s' k q;unfold isType loadHead;exact aI (wpAny_loadPart (k _ _ (X _ _ ho)) (wpAny_pure q))
  .cases FZ
 ne:=fun h tp dd its n sl X ZD=>by
  obtain⟨ZB,FZ⟩:=pD.mp T.ty;refine tS.mpr fun q=>?_;have e:C=tp:=Value.ref.inj (gX.mp q);subst e;unfold clsIn at FZ;split at FZ
  .rename_i c' d' ZC Ta ho;have z:=(X _ _ ho).symm.trans ZD;cases z
  .cases FZ
 ca:=fun {_ _ _ _ _ s} X ⟨o,e,c,_⟩ k=>by
  obtain⟨h,g,d,t,os⟩:=s;exact C_ T X e c k
end
section
variable {X:Cx}
inductive Ow (K:PySem.W.Frag) (H:Hp):V->Value->Prop where
 |of {v:V} {t:Value} (h:ny K H v t):Ow K H v t
 |exc {p C:Addr} (T:Bj K C) (e:H p=some (T5 p (.ref C))):Ow K H (.ref p) (.ref C)
def KD(K:PySem.W.Frag):List V->Hp->VK->Prop:=fun xs H Q=>∃x c cv t b,xs=[x,c]/\(c=.ty cv/\PySem.W.kitOne K t (.type cv)=some b)/\Ow K H x t/\Q (.bl b) H
theorem eQ:eN X (.builtin "isinstance") (KD X.K):=by
 intro ae s σ H xs us Q I r h;obtain⟨x,c,cv,t,b,rfl,⟨rfl,e⟩,ty,q⟩:=h;obtain⟨u1,u2,rfl,r1,r2⟩:=r.two;obtain rfl:u2=Value.type cv:=r2;cases ty with
 |of ty=>exact A_ I r1 ty e fun tk=>⟨.bl b,H,I.tok tk,rfl,q⟩
 |@exc p C T ea=>
  obtain rfl:u1=Value.ref p:=r1;have p1:T4 p (.ref C) s.heap:=(I.bA p _ ea).1;exact je (Da T) I.ng p1 e (fun z=>nomatch z) fun tk=>⟨.bl b,H,I.tok tk,rfl,q⟩
end
section
variable {X:Cx} {x:Str} {C:Addr} {np uA pos:Pos} {e:Expr} {es:List Expr} {t:TA}
end
section
variable {X:Cx} {CX:vK} {k:Nat} {f C:Addr} {fd:FuncData} {ps:List Str} {sp:Sp} {re:List V} {ds:List Value} {E:St->XK} {x m:Str} {p pos uu:Pos} {e o:Expr} {es:List Expr} {ta:TE} {t:TA}
end
section
variable {X:Cx} {CX:vK} {k:Nat} {f:Addr} {fd:FuncData} {ps:List Str} {sp:Sp} {re:List V} {ds:List Value} {E:XK} {x:Str} {p pos:Pos} {e:Expr} {es:List Expr} {t:TA}
end
section
variable {P:Program} {w:World} {K:PySem.W.Frag} {mg:Str->Option Value} {base:Heap}
end
section
variable {X:Cx} {ae:List (Addr×Obj)} {σ:St} {H:Hp} {s:Shared}
end
section
variable {X:Cx} {CX:vK} {k:Nat} {f:Addr} {fd:FuncData} {ps:List Str} {sp:Sp} {re:List V} {ds:List Value} {E:XK} {x:Str} {p pos:Pos} {e:Expr} {es:List Expr} {t:TA}
end
section
variable {P:Program} {w:World} {K:PySem.W.Frag} {mg:Str->Option Value} {base:Heap}
end
theorem Gi{h:Heap}{a:Addr}{m m':Str->Option Value}(x:h.Ns a m)(y:h.Ns a m'):m=m':=by
 obtain⟨o,es,ep,e,d,_,q⟩:=x;obtain⟨o',vq,J_,e',d',_,q'⟩:=y;rw[e] at e';cases e';rw[d] at d';cases d';funext z;rw[<-q z,q' z]
theorem aK.Ox{X:Cx}{ae:List (Addr×Obj)}{σ:St}{H:Hp}{s:Shared}{h':Heap}{m:Str->Option Value}{D:Addr}{o:HO}{t':Nat}(I:aK X ae σ H s)(F:Fr X.base X.env.locals s.heap m)(F':Fr X.base X.env.locals h' m)(N':News X.base X.env.locals h' (iN X.base s.heap X.env.locals))(hD:s.heap.get? D=none)(new:bQ X.prog X.w (upd H D o) h' D o):aK X ae σ (upd H D o) { s with heap:=h',toks:=t' }:=by
 have hn:=I.bA.uF hD;have ne:∀b u,s.heap.get? b=some u->b≠D:=fun b u e z=>by rw[z,hD] at e;cases e
 have keep:∀b u,b≠X.env.locals->s.heap.get? b=some u->h'.get? b=some u:=fun b u hb e=>by
  cases q:X.base.get? b with
  |some v=>
   have:=I.bk b v q;rw[e] at this;cases this;exact F'.keep b _ q
  |none=>exact(N' (b,u) (jC hb q e)).1
 refine I.step (g':=s.gens) (d':=s.drawn) (ch:=[]) (fun _ z=>absurd z (by simp)) (fun b u hb _ _ e _=>keep b u hb e) (fun b u hb _ _ e _=>⟨u.slots,keep b u hb e⟩) (fun b u _ e n=>by rw[ak (ne b u e)];exact n) (fun b u _ e=>?_)
  (fun b xs e=>by rw[ak (ai e hn)];exact e) (fun b u v e=>by rw[ak (ai e hn)];exact e) (fun b ps e=>⟨#[],by rw[ak (ai e hn),e];simp⟩) (fun m1 hm=>by rw[Gi hm F.ns];exact F'.ns) (fun b u e=>?_) I.bare
 .by_cases hb:b=X.env.locals
  .obtain⟨o',_,_,q,_⟩:=F'.ns;exact⟨o',by rw[hb];exact q⟩
  .exact⟨u,keep b u hb e⟩
 .by_cases hb:b=D
  .subst hb;rw[af] at e;cases e;exact new
  .rw[ak hb] at e;refine(I.bA b u e).oC (fun c v hc q=>keep c v ?_ q) (fun c q=>by rw[ak (ai q hn)];exact q) fun c xs q=>by rw[ak (ai q hn)];exact q
   rintro rfl;rcases hc with z|hc
   .have f:=I.free;rw[z,e] at f;cases f
   .rw[I.free] at hc;cases hc
theorem rC(I:aK X ae σ H s)(N:News X.base X.env.locals h' ((D,o)::iN X.base s.heap X.env.locals))(et:∀q∈iN X.base s.heap X.env.locals,q.1<D):s.heap.get? D=none:=by
 cases e:s.heap.get? D with
 |none=>rfl
 |some u=>
  obtain⟨_,n1,n2⟩:=N (D,o) b9;exact absurd (et (D,u) (jC n1 n2 e)) (jg _)
def Db(K:PySem.W.Frag)(H:Hp)(a:Addr)(y:Int×Int):Prop:=cx K H a [.int y.1,.int y.2]
section
variable {X:Cx}
theorem yF(I:aK X ae σ H s)(h:Db X.K H a y):∃o n t u,s.heap.get? a=some o/\o.cls=.type "tuple"/\o.data=.seq #[.int y.1 t,.int y.2 u] n:=by
 obtain⟨its,r,p,_⟩:=I.tuple h;obtain⟨u1,u2,rfl,r1,r2⟩:=r.two;obtain⟨t,rfl⟩:=r1;obtain⟨t',rfl⟩:=r2;obtain⟨o,e,c,n,d⟩:=p;exact⟨o,n,t,t',e,c,d⟩
end
def KE(hs:Array Int)(i:Nat):Int:=(hs[i]?).getD 0
def fJ(hs:Array Int)(t:SetTable)(h:Int):Option (Array Int×SetTable):=
 if t.gaveWay then none else
 match t.probe (KE hs) h (t.probeStart h) with
 |some (.empty j none)=>
  let q:=t.put j
  let Jh:=SetTable.insertAt hs q.2 h
  if q.1.fits Jh.size&&decide (Jh.size<=4096) then
   if q.1.tooFull then
    (match q.1.relaid Jh (SetTable.grown (hs.size+1)) with
    |some (t2,jh)=>
     let p_:=jh.filterMap (Jh[·]?)
     if p_.size==Jh.size&&t2.fits p_.size&&decide (SetTable.sizeAbove (SetTable.grown (hs.size+1))<=4096) then some (p_,t2) else none
    |none=>none)
   else some (Jh,q.1)
  else none
 |_=>none
def uG(led:Bool):List Int->Option (Array Int×SetTable):=fun l=>l.foldlM (fun q h=>fJ q.1 q.2 h) (#[],SetTable.fresh 0 0 led)
def jJ(h:Heap)(S:Addr)(hs:Array Int)(t:SetTable):Prop:=∃o es ep,h.get? S=some o/\o.cls=.type "set"/\(o.dict=none/\o.slots=#[])/\o.data=.set es ep t/\es.map (·.1)=hs/\t.fits es.size=true
section
variable {prog:Program} {w:World} {A:Around} {E:Value->Shared->Prop} {s:Shared} {S:Addr}
theorem KG(es:Array (Int×Value)):(fun i=>(es[i]?.map (·.1)).getD 0)=KE (es.map (·.1)):=by
 funext i;unfold KE;rw[Array.getElem?_map]
theorem ml(es:Array (Int×Value))(p:Nat)(x:Int×Value):(SetTable.insertAt es p x).map (·.1)=SetTable.insertAt (es.map (·.1)) p x.1:=by
 unfold SetTable.insertAt;simp
theorem nE(es:Array (Int×Value))(jh:Array Nat):(jh.filterMap (es[·]?)).map (·.1)=jh.filterMap ((es.map (·.1))[·]?):=by
 apply Array.ext';rw[pP,tE,tE,List.map_filterMap];congr 1;funext i;rw[Array.getElem?_map]
theorem yG(hS:jJ s.heap S hs t)(hg:t.gaveWay=false)(hp:t.probe (KE hs) h (t.probeStart h)=some (.empty j none))(q:Q (.free j false) s):
  wpAny (model prog w) A (setSearch S x h true) Q E s:=by
 obtain⟨o,es,ep,ho,hc,Xs,hd,hm,hf⟩:=hS;unfold setSearch setSearchFrom;refine aI (tT ho hd hf ?_);dsimp only;rw[hg,ap cj];have Ji:t.probe (fun i=>(es[i]?.map (·.1)).getD 0) h (t.probeStart h)=some (.empty j none):=by rw[KG,hm];exact hp
 refine aI (wpAny_pure ?_);erw[Ji];exact wpAny_pure q
theorem Bn(ho:s.heap.get? a=some o)(hc:o.cls=.type "tuple")(hd:o.data=.seq #[.int x t,.int y u] n)(q:Q true s):
  wpAny (model prog w) A (hashByValue 8 (.ref a)) Q E s:=by
 have hT:s.TypeIs (.ref a) "tuple":=⟨_,ho,hc⟩
 unfold hashByValue;refine aI (wpAny_specialOf hT PySem.F.slot_tuple_hash.lookup ?_);refine aI (ua ho hd ?_);refine aI ?_;show wpAny _ _ (forIn #[Value.int x t,Value.int y u] _ _) _ _ s;rw[<-Array.forIn_toList];refine wpAny_forIn_list _ (fun oF r s'=>r.1=none/\s'=s/\∀v∈oF,∃z k,v=Value.int z k) _ ?_ ?_ _ _ ⟨rfl,rfl,fun v hv=>?_⟩
 .rintro v oF r s' ⟨hr,rfl,rB⟩;obtain⟨z,k,rfl⟩:=rB v b9;refine aI (wpAny_pure ?_);exact wpAny_pure ⟨rfl,rfl,fun u' vX=>rB u' (cC _ vX)⟩
 .rintro⟨r1,r2⟩ s' ⟨hr,rfl,_⟩;have vv:r1=none:=hr;subst vv;exact wpAny_pure q
 .rcases bK.mp hv with z|z
  .exact⟨_,_,z⟩
  .rcases bK.mp z with z|z
   .exact⟨_,_,z⟩
   .cases z
theorem zY(hS:jJ s.heap S hs t)(hf:t'.fits vq.size=true)(hz:vq.size<=4096)(q:∀h',Heap.SameBut S s.heap h'->jJ h' S (vq.map (·.1)) t'->Q () { s with heap:=h' }):wpAny (model prog w) A (storeSet S vq t') Q E s:=by
 obtain⟨o,es,ep,ho,hc,Xs,hd,hm,_⟩:=hS;refine wpAny_storeSet_of ho hd (q _ (Heap.SameBut.update s.heap S (Obj.putSet vq t')) ?_) (bB hz (by decide));have g:=tO (Obj.putSet vq t') ho (by rw[putSet_of vq t' hd];rfl);rw[putSet_of vq t' hd] at g;exact⟨_,vq,ep+1,g,hc,Xs,rfl,rfl,hf⟩
theorem Gj(hu:A.units<cLine)(hS:jJ s.heap S hs t)(ho:s.heap.get? a=some o)(hc:o.cls=.type "tuple")(hd:o.data=.seq #[.int x tx,.int y ty] n)(jn:a≠S)(nq:fJ hs t (tupleKeyHash (intKind prog w) [x,y])=some (hs',t'))(q:∀h' tk,Heap.SameBut S s.heap h'->jJ h' S hs' t'->Q true { s with heap:=h',toks:=tk }):wpAny (model prog w) A (setAdd S (.ref a)) Q E s:=by
 have hk:IsTupleKey (intKind prog w) s.heap [x,y] a:=⟨o,_,n,ho,hc,hd,.cons (intKind_is _ _ _ _) (.cons (intKind_is _ _ _ _) .nil)⟩
 unfold setAdd;refine ju (aI (wpAny_pyHash_tuple hu hk ?_));generalize TC:s.toks+([x,y].length+1)=tk;generalize hh:tupleKeyHash (intKind prog w) [x,y]=h at nq |-;have Xt:=hS;obtain⟨ob,es,ep,hb,T6,hbd,Fv,hm,hf⟩:=hS;unfold setAddHashed setAddHashedIn;refine ju (aI (tT (s:={ s with toks:=tk }) hb Fv hf ?_));dsimp only;have Nc:byScan (.ref a) es=false:=by unfold byScan;rfl
 rw[Nc,ap cj];unfold fJ at nq;cases hg:t.gaveWay with
 |true=>rw[hg,ao rfl] at nq;cases nq
 |false=>
  rw[hg,ap cj] at nq;split at nq
  .rename_i j hp;dsimp only at nq;split at nq
   .rename_i RM;rw[eK,pN] at RM;refine aI (yG (s:={ s with toks:=tk }) Xt hg hp ?_);dsimp only;refine aI (tT (s:={ s with toks:=tk }) hb Fv hf ?_);dsimp only;have ZE:∀ {kk:Bool->Sem Bool},wpAny (model prog w) A (kk true) Q E { s with toks:=tk }->wpAny (model prog w) A (if (t.put j).1.plain=true then hashByValue 8 (.ref a) >>= kk else pure true >>= kk) Q E { s with toks:=tk }:=fun {kk} hP=>by
     split
     .exact aI (Bn (s:={ s with toks:=tk }) ho hc hd hP)
     .exact aI (wpAny_pure hP)
    refine ZE ?_;simp only[iL];have hsz:(SetTable.insertAt es (t.put j).2 (h,Value.ref a)).size=(SetTable.insertAt hs (t.put j).2 h).size:=by
     rw[<-hm,<-ml es (t.put j).2 (h,Value.ref a),iG]
    refine aI (zY (s:={ s with toks:=tk }) Xt (by rw[hsz];exact RM.1) (by rw[hsz];exact RM.2) fun h1 zZ S1=>?_);rw[ml,hm] at S1;split at nq
    .rename_i T7;rw[show (!false&&(t.put j).1.tooFull)=true by rw[T7];rfl,ao rfl];split at nq
     .rename_i t2 jh hr;split at nq
      .rename_i hq;rw[eK,eK,pN,gX] at hq;obtain⟨⟨Jj,RN⟩,Xu⟩:=hq;cases nq;have ZF:es.size=hs.size:=by rw[<-hm,iG]
       refine aI ?_;unfold setRelay;obtain⟨o1,Gk,ep1,g1,g2,g3,g4,g5,g6⟩:=id S1;refine aI (tT (s:={ s with heap:=h1,toks:=tk }) g1 g4 g6 ?_);dsimp only;rw[ZF];rw[ap (by (have h4:(4096:Nat)<=sizeLine:=by decide);lia)];refine aI ?_;rw[g5,hr];have yH:(jh.filterMap (Gk[·]?)).size=Gk.size:=by
        have e1:=congrArg Array.size (nE Gk jh);rw[iG,g5] at e1;rw[e1,Jj,<-g5,iG]
       refine wpAny_of_eq (show _=(pure (jh.filterMap (Gk[·]?),t'):Sem (Array (Int×Value)×SetTable)) from ?_) ?_
       .show (do
         let vq:=jh.filterMap (Gk[·]?)
         if vq.size != Gk.size then unsupported "internal:set-table-lost-an-element"
         pure (vq,t'):Sem (Array (Int×Value)×SetTable))=_
        simp[yH]
       dsimp only;have T8:Gk.size<=4096:=by
        have e1:=congrArg Array.size g5;rw[iG] at e1;rw[e1];exact RM.2
       have ZG:(jh.filterMap (Gk[·]?)).size=(jh.filterMap ((SetTable.insertAt hs (t.put j).2 h)[·]?)).size:=by
        have e1:=congrArg Array.size (nE Gk jh);rw[iG,g5] at e1;exact e1
       refine zY (s:={ s with heap:=h1,toks:=tk }) S1 (by rw[ZG];exact RN) (by rw[yH];exact T8) fun h2 Dc S2=>?_;rw[nE,g5] at S2;exact wpAny_pure (q h2 tk (zZ.trans Dc) S2)
      .cases nq
     .cases nq
    .rename_i T7;cases nq;have T9:(t.put j).1.tooFull=false:=by simpa using T7
     rw[show (!false&&(t.put j).1.tooFull)=false by rw[T9];rfl,ap cj];exact wpAny_pure (q h1 tk zZ S1)
   .cases nq
  .cases nq
end
section
variable {prog:Program} {w:World} {A:Around} {E:Value->Shared->Prop} {s:Shared} {S Ia l:Addr} {R:Result->Shared->Prop}
def iS(h:Heap)(vs:List Value)(ys:List (Int×Int)):Prop:=vs.length=ys.length/\∀i v,vs[i]?=some v->∃a o n t u,v=.ref a/\h.get? a=some o/\o.cls=.type "tuple"/\o.data=.seq #[.int (ys.getD i (0,0)).1 t,.int (ys.getD i (0,0)).2 u] n
theorem iS.keeps(p:iS h vs ys)(k:∀b o,(∃xs n,o.data=.seq xs n)->h.get? b=some o->h'.get? b=some o):iS h' vs ys:=
 ⟨p.1,fun i v e=>let ⟨a,o,n,t,u,e1,e2,c,d⟩:=p.2 i v e;⟨a,o,n,t,u,e1,k a o ⟨_,_,d⟩ e2,c,d⟩⟩
def fh(prog:Program)(w:World)(y:Int×Int):Int:=tupleKeyHash (intKind prog w) [y.1,y.2]
theorem Dd(hh:A.handled=none)(hu:A.units+1<cLine)(ZH:l≠S)(T_:l≠Ia)(Ua:S≠Ia):
  ∀ (k i:Nat) (s:Shared) (hs:Array Int) (t:SetTable),vs.length-i=k->i<=vs.length->s.heap.IsListIter Ia l i->s.heap.IsList l vs.toArray->iS s.heap vs ys->jJ s.heap S hs t->
   ((ys.drop i).map (fh prog w)).foldlM (fun q h=>fJ q.1 q.2 h) (hs,t)=some (hsN,tN)->
   (∀h' tk,(∀b o,b≠S->b≠Ia->s.heap.get? b=some o->h'.get? b=some o)->jJ h' S hsN tN->R (.ok (.ret .none)) { s with heap:=h',toks:=tk })->
   codeAny (model prog w) A (.builtin "set.update.loop" ⟨[.ref S,.ref Ia],[]⟩) R s:=by
 intro k;induction k with
 |zero=>
  intro i s hs t hk hi rc hl hp hS hf hR;have e:i=vs.length:=by lia
  refine lq Cr ?_;rw[pL xr _];show wpAny _ A.in1 (pyNext (.ref Ia) >>= _) _ _ s;refine aI (xP (show A.in1.handled=none from hh) rc hl (by simp;lia) fun h' eb=>?_);show wpAny _ A.in1 (ret Value.none) _ _ _;have hd:ys.drop i=[]:=by rw[List.drop_eq_nil_iff];have:=hp.1;lia
  rw[hd] at hf;cases hf;obtain⟨o,es,ep,q1,q2⟩:=hS;exact wpAny_pure (hR h' s.toks (fun b o hb Gm e=>eb b o Gm e) ⟨o,es,ep,eb S o Ua q1,q2⟩)
 |succ k ih=>
  intro i s hs t hk hi rc hl hp hS hf hR;have et:i<vs.length:=by lia
  refine lq Cr ?_;rw[pL xr _];show wpAny _ A.in1 (pyNext (.ref Ia) >>= _) _ _ s;have hv:vs[i]?=some vs[i]:=cm et;refine aI (xK rc hl (x:=vs[i]) (by simpa using hv) fun h1 KH zZ=>?_);obtain⟨a,o,n,tx,ty,ea,eo,ec,ed⟩:=hp.2 i _ hv;rw[ea];have Oy:∀b ob,(∃xs n,ob.data=.seq xs n)->s.heap.get? b=some ob->b≠Ia:=fun b ob ⟨xs,m,z⟩ e z'=>by
   obtain⟨oi,e1,_,d1⟩:=rc;rw[z',e1] at e;cases e;rw[d1] at z;cases z
  have Oz:iS h1 vs ys:=hp.keeps fun b ob hb e=>(zZ.2 b (Oy b ob hb e)).trans e;have Xv:jJ h1 S hs t:=by
   obtain⟨oS,es,ep,q1,q2⟩:=hS;exact⟨oS,es,ep,(zZ.2 S Ua).trans q1,q2⟩
  have Go:h1.IsList l vs.toArray:=by
   obtain⟨ol,q1,q2⟩:=hl;exact⟨ol,(zZ.2 l T_).trans q1,q2⟩
  have OA:h1.get? a=some o:=(zZ.2 a (Oy a o ⟨_,_,ed⟩ eo)).trans eo;have Xw:∀b ob,(∃xs n,ob.data=.seq xs n)->h1.get? b=some ob->b≠S:=fun b ob ⟨xs,m,z⟩ e z'=>by
   obtain⟨oS,es,ep,q1,_,_,q4,_⟩:=Xv;rw[z',q1] at e;cases e;rw[q4] at z;cases z
  have Bo:i<ys.length:=by have:=hp.1;lia
  have Ub:ys.drop i=ys[i]::ys.drop (i+1):=tm Bo;have ZI:ys.getD i (0,0)=ys[i]:=by rw[bO,cm Bo];rfl
  rw[Ub,cW,List.foldlM_cons] at hf;cases nq:fJ hs t (fh prog w ys[i]) with
  |none=>rw[nq] at hf;cases hf
  |some q=>
   obtain⟨p_,t2⟩:=q;rw[nq] at hf;have Xx:((ys.drop (i+1)).map (fh prog w)).foldlM (fun q h=>fJ q.1 q.2 h) (p_,t2)=some (hsN,tN):=hf;show wpAny _ A.in1 (holding [Value.ref a] (setAdd S (.ref a)) >>= _) _ _ _;refine aI (ju (Gj (s:={ s with heap:=h1 }) (by show A.units+1<cLine;exact hu) Xv OA ec ed (Xw a o ⟨_,_,ed⟩ OA) (hs':=p_) (t':=t2) (by rw[ZI];exact nq) fun h2 tk Dc S2=>?_));refine wpAny_pure ⟨plainId_quiet xr _,?_⟩;refine ih (i+1) { s with heap:=h2,toks:=tk } p_ t2 (by lia) et ?_ ?_ (Oz.keeps fun b ob hb e=>(Dc.2 b (Xw b ob hb e)).trans e) S2 Xx fun h3 Uc k3 S3=>?_
   .obtain⟨oi,q1,q2⟩:=KH;exact⟨oi,(Dc.2 Ia (Ne.symm Ua)).trans q1,q2⟩
   .obtain⟨ol,q1,q2⟩:=Go;exact⟨ol,(Dc.2 l ZH).trans q1,q2⟩
   .exact hR h3 Uc (fun b ob hb Gm e=>k3 b ob hb Gm ((Dc.2 b hb).trans ((zZ.2 b Gm).trans e))) S3
theorem Df{vs:List Value}{ys:List (Int×Int)}{hsN:Bool->Array Int}{tN:Bool->SetTable}{Q:Value->Shared->Prop}(hh:A.handled=none)(hu:A.units+8<cLine)(hl:s.heap.IsList l vs.toArray)(hp:iS s.heap vs ys)(Bp:∀led,uG led (ys.map (fh prog w))=some (hsN led,tN led))(h:∀ (led:Bool) (h':Heap) (tk:Nat),jJ h' s.heap.objs.size (hsN led) (tN led)->(∀b o,b<s.heap.objs.size->s.heap.get? b=some o->h'.get? b=some o)->Q (.ref s.heap.objs.size) { s with heap:=h',toks:=tk }):
  wpAny (model prog w) A (call (.type "set") [.ref l]) Q E s:=by
 obtain⟨c,tl,ZJ⟩:=n8.mro;have c1:=n8.made;have c2:=n8.sub;refine m4 (codeAny_of_tree ?_);show wpAny _ _ (callAny (.type "set") _) _ _ _;refine wpAny_pure ⟨Code.quiet_builtin _ (by decide +kernel),lq PySem.F.entry_type_call ?_⟩;rw[Around.under_plain (weight_type_call_type "set" [.ref l] []) rfl];have c3:=n8.notType;have c4:=n8.canCreate;have c5:=PySem.F.typeCall_set_1 (.ref l);repeat (any_goals (first|assumption|wp_step))
 refine lA (code_set_new_1 (.ref l) (E:=E) (Q₁:=fun obj s₁=>∃led:Bool,obj=.ref s.heap.objs.size/\s₁={ s with heap:=s.heap.push { cls:=.type "set",dict:=none,data:=.set #[] 0 (.fresh 0 0 led) } }) fun led=>⟨led,rfl,rfl⟩) fun r s₁ hr=>?_;cases r with
 |error e=>exact hr
 |ok fl=>
  cases fl with
  |next=>exact hr.elim
  |brk=>exact hr.elim
  |cont=>exact hr.elim
  |ret obj=>
   obtain⟨led,rfl,rfl⟩:=hr;generalize Ud:s.heap.push { cls:=.type "set",dict:=none,data:=.set #[] 0 (.fresh 0 0 led) }=hS;have hsz:hS.objs.size=s.heap.objs.size+1:=by rw[<-Ud,iH]
   have gS:hS.get? s.heap.objs.size=some { cls:=.type "set",dict:=none,data:=.set #[] 0 (.fresh 0 0 led) }:=by rw[<-Ud];exact cV _ rfl
   have up:∀b o,s.heap.get? b=some o->hS.get? b=some o:=fun b o e=>by rw[<-Ud];exact cq _ e
   have hT:Shared.TypeIs { s with heap:=hS } (.ref s.heap.objs.size) "set":=⟨_,gS,rfl⟩
   have c6:=n8.init.lookup;have c7:=n8.init.bind (.ref s.heap.objs.size);repeat (any_goals (first|assumption|wp_step))
   refine lA (xS (R:=wants (fun r s₂=>r=.none/\∃h' tk,s₂={ s with heap:=h',toks:=tk }/\jJ h' s.heap.objs.size (hsN led) (tN led)/\
     (∀b o,b<s.heap.objs.size->s.heap.get? b=some o->h'.get? b=some o)) E) n8.init.plain PySem.F.entry_set_init (check_set_init_1 hT ?_)) fun r₂ s₂ OB=>?_
   .obtain⟨ol,Jk,Jg,nl,RP⟩:=hl;obtain⟨ZK,Xy,Xz,Ue⟩:=ol;simp only at Jg RP;subst Jg;subst RP;have Uf:=up _ _ Jk;have c8:=PySem.F.sub_list_set;have c9:=PySem.F.sub_list_frozenset;have c10:(Value.type "list"==Value.type "dict")=false:=by decide
    have Go:hS.IsList l vs.toArray:=⟨_,Uf,rfl,nl,rfl⟩
    unfold Builtin.«set.__init__» noKeywords Builtin.Frozenset.updateFrom;generalize ZL:pyIter=PI
    wp_walk
    subst ZL;refine pQ Go ?_;refine aI (wpAny_runValue ?_);have et:l<s.heap.objs.size:=aY Jk;refine Dd (l:=l) (vs:=vs) (ys:=ys) (hsN:=hsN led) (tN:=tN led) (by simp[hh]) (by simp;lia) (aX et) (by rw[hsz];exact aX (e_ et)) (by rw[hsz];exact aX (jw _))
     (vs.length-0) 0 _ #[] (.fresh 0 0 led) rfl (df _) ⟨_,cV _ rfl,rfl,rfl⟩ (Go.push _) (hp.keeps fun b o _ e=>cq _ (up b o e)) ⟨_,#[],0,cq _ gS,rfl,⟨rfl,rfl⟩,rfl,by simp,rfl⟩ (Bp led) fun h' tk k S'=>?_
    show wpAny _ _ _ _ _ _;refine wpAny_pure ?_;show wpAny _ _ (ret Value.none) _ _ _;refine wpAny_pure ⟨rfl,h',tk,rfl,S',fun b o hb e=>?_⟩;exact k b o (aX hb) (by rw[hsz];exact aX (e_ hb)) (cq _ (up b o e))
   .cases r₂ with
    |error e=>exact OB
    |ok ZM=>
     cases ZM with
     |next=>exact OB.elim
     |brk=>exact OB.elim
     |cont=>exact OB.elim
     |ret r=>
      obtain⟨rfl,h',tk,rfl,S',k⟩:=OB;repeat (any_goals (first|assumption|wp_step))
      exact h led h' tk S' k
end
open PySem
def Dg(l:List Nat):Nat:=l.foldl (fun a x=>a ||| (1 <<< x)) 0
theorem Bq(l:List Nat)(a j:Nat):(l.foldl (fun a x=>a ||| (1 <<< x)) a).testBit j=(a.testBit j||l.contains j):=by
 induction l generalizing a with
 |nil=>simp
 |cons x xs ih=>
  rw[tW,ih,Nat.testBit_or,List.contains_cons];have:(1 <<< x).testBit j=(j==x):=by
   rw[Nat.one_shiftLeft,Nat.testBit_two_pow];by_cases h:x=j
   .simp[h]
   .have h':¬ j=x:=fun e=>h e.symm;simp[h,h']
  rw[this,Bool.or_assoc]
theorem oa(h:Dg l=2 ^ n-1)(hj:j<n):j∈l:=by
 have e:=Bq l 0 j;have h':l.foldl (fun a x=>a ||| (1 <<< x)) 0=2 ^ n-1:=h;rw[h',Nat.testBit_two_pow_sub_one] at e;simp[hj] at e;exact e
def Dh(M:Nat):Nat->Nat->Nat
 |0,i=>i
 |n+1,i=>Dh M n ((i*5+1) % M)
theorem oY(M a:Nat):∀b i,Dh M (b+a) i=Dh M a (Dh M b i)
 |0,i=>by rw[pT];rfl
 |b+1,i=>by
  rw[show b+1+a=(b+a)+1 by lia];show Dh M (b+a) _=Dh M a (Dh M b _);exact oY M a b _
def KI(M:Nat):Nat->Nat->List Nat
 |0,_=>[]
 |n+1,i=>i::KI M n ((i*5+1) % M)
theorem qg:∀ {n i},j∈KI M n i->∃k,k<n/\Dh M k i=j
 |0,_,h=>by cases h
 |n+1,i,h=>by
  rcases bK.mp h with z|z
  .exact⟨0,by lia,z.symm⟩
  .obtain⟨k,a,b⟩:=qg z;exact⟨k+1,by lia,b⟩
structure sk(M:Nat):Prop where
 all:Dg (KI M M 0)=2 ^ M-1
 back:Dh M M 0=0
theorem Ug:sk 8:=⟨by decide +kernel,by decide +kernel⟩
theorem Jl:sk 32:=⟨by decide +kernel,by decide +kernel⟩
theorem Di:sk 128:=⟨by decide +kernel,by decide +kernel⟩
theorem Dj:sk 512:=⟨by decide +kernel,by decide +kernel⟩
theorem sk.cover(R:sk M)(hi:i<M)(hj:j<M):∃n,n<M/\Dh M n i=j:=by
 obtain⟨a,ha,ea⟩:=qg (oa R.all hi);obtain⟨b,hb,eb⟩:=qg (oa R.all hj);by_cases h:a<=b
 .refine⟨b-a,by lia,?_⟩;rw[<-ea,<-oY,show a+(b-a)=b by lia,eb]
 .refine⟨M+b-a,by lia,?_⟩;rw[<-ea,<-oY,show a+(M+b-a)=M+b by lia,oY,R.back,eb]
def gk(mask:Nat):Nat->Nat×Nat->Nat×Nat
 |0,q=>q
 |n+1,q=>gk mask n (SetTable.leap mask q.1 q.2)
theorem sn(m a:Nat):∀b q,gk m (b+a) q=gk m a (gk m b q)
 |0,q=>by rw[pT];rfl
 |b+1,q=>by
  rw[show b+1+a=(b+a)+1 by lia];exact sn m a b _
theorem vY:∀ {n:Nat} {q:Nat×Nat},q.1<m+1->(gk m n q).1<m+1
 |0,_,h=>h
 |n+1,q,h=>vY (n:=n) (ud _ (Nat.succ_pos _))
theorem z4:∀ {n:Nat} {q:Nat×Nat},(gk m n q).2=q.2 / 32 ^ n
 |0,_=>by simp[gk]
 |n+1,q=>by
  show (gk m n _).2=_;rw[z4];show q.2 / 32 / 32 ^ n=_;rw[Nat.div_div_eq_div_mul,Nat.pow_succ,Nat.mul_comm]
theorem sq:∀ {n i:Nat},gk m n (i,0)=(Dh (m+1) n i,0)
 |0,_=>rfl
 |n+1,i=>by
  show gk m n (SetTable.leap m i 0)=_;unfold SetTable.leap;simp only[Nat.zero_div,hX];exact sq
theorem oe(R:sk (m+1))(hi:i<m+1)(hp:p<2 ^ 64)(hj:j<m+1):∃n,n<m+14/\(gk m n (i,p)).1=j:=by
 have h1:=vY (m:=m) (n:=13) (q:=(i,p)) hi;have h2:(gk m 13 (i,p)).2=0:=by
  rw[z4];exact Nat.div_eq_of_lt (bV hp (by decide))
 obtain⟨n,hn,e⟩:=R.cover h1 hj;refine⟨13+n,by lia,?_⟩;rw[sn];have:gk m 13 (i,p)=((gk m 13 (i,p)).1,0):=Prod.ext rfl h2;rw[this,sq];exact e
theorem z5(h:Int):SetTable.bits h<2 ^ 64:=by
 unfold SetTable.bits;have a:=l5 h (show (2 ^ 64:Int)≠0 by decide);have b:=l0 h (show (0:Int)<2 ^ 64 by decide);lia
theorem OC{M:Nat}{l:List Nat}(h:l.length<M):∃j,j<M/\j∉l:=by
 have key:∀ (a b:List Nat),a.Nodup->(∀x∈a,x∈b)->a.length<=b.length:=by
  intro a;induction a with
  |nil=>intro b _ _;exact df _
  |cons x xs ih=>
   intro b hn hs;obtain⟨h1,h2⟩:=dQ.mp hn;have hx:x∈b:=hs x b9;have:=ih (b.erase x) h2 fun y hy=>(xH (fun (e:y=x)=>h1 (e ▸ hy))).mpr (hs y (cC _ hy));rw[xz hx] at this;have:0<b.length:=tD hx;rw[cw];lia
 apply tq;intro KJ;have:=key (List.range M) l kN fun x hx=>tq fun sr=>KJ ⟨x,bN.mp hx,sr⟩;rw[fK] at this;lia
def yI(mask i p:Nat):SetTable.Probe:={ j:=i,more:=SetTable.runEnd mask i-i,i:=i,perturb:=p,dummy:=none }
theorem KL(mask i:Nat):SetTable.runEnd mask i-i<=9:=by unfold SetTable.runEnd;split <;> lia
theorem uH{t:SetTable}(hd:t.dummies=#[])(j:Nat):t.slot j=.empty\/∃i,t.slot j=.live i/\t.place[i]?=some j:=by
 unfold SetTable.slot;dsimp only;split
 .rename_i h;exact .inr ⟨_,rfl,by simpa using h⟩
 .left;rw[hd];rfl
theorem yJ{t:SetTable}(hd:t.dummies=#[]){j:Nat}(h:j∉t.place.toList):t.slot j=.empty:=by
 rcases uH hd j with e|⟨i,_,e2⟩
 .exact e
 .exact absurd (by rw[<-kK] at e2;exact dP e2) h
section
variable {t:SetTable} {hashAt:Nat->Int} {h:Int}
theorem Dk(hd:t.dummies=#[])(hh:∀i,i<t.place.size->hashAt i≠h)(i p:Nat):∀ (r:Nat) (j fR:Nat),
  (∃j',SetTable.probe.go t hashAt h (fR+r+1) { j:=j,more:=r,i:=i,perturb:=p,dummy:=none }=some (.empty j' none))\/
  SetTable.probe.go t hashAt h (fR+r+1) { j:=j,more:=r,i:=i,perturb:=p,dummy:=none }=SetTable.probe.go t hashAt h fR (yI t.mask (SetTable.leap t.mask i p).1 (SetTable.leap t.mask i p).2)
 |0,j,fR=>by
  rcases uH hd j with e|⟨k,e,e2⟩
  .exact .inl ⟨j,by unfold SetTable.probe.go;rw[e]⟩
  .right;have hk:k<t.place.size:=(Cy.mp e2).1;conv=>lhs;unfold SetTable.probe.go
   rw[e];simp only[gX,hh k hk,fz];rfl
 |r+1,j,fR=>by
  rcases uH hd j with e|⟨k,e,e2⟩
  .exact .inl ⟨j,by rw[show fR+(r+1)+1=(fR+r+1)+1 by lia];unfold SetTable.probe.go;rw[e]⟩
  .have hk:k<t.place.size:=(Cy.mp e2).1;have st:SetTable.probe.go t hashAt h (fR+(r+1)+1) { j:=j,more:=r+1,i:=i,perturb:=p,dummy:=none }=SetTable.probe.go t hashAt h (fR+r+1) { j:=j+1,more:=r,i:=i,perturb:=p,dummy:=none }:=by
    rw[show fR+(r+1)+1=(fR+r+1)+1 by lia];conv=>lhs;unfold SetTable.probe.go
    rw[e];simp only[gX,hh k hk,fz];rfl
   rw[st];exact Dk hd hh i p r (j+1) fR
theorem z6(hd:t.dummies=#[])(hh:∀i,i<t.place.size->hashAt i≠h):∀ (m:Nat) (i p fR:Nat),10*(m+1)<=fR->t.slot (gk t.mask m (i,p)).1=.empty->
  ∃j',SetTable.probe.go t hashAt h fR (yI t.mask i p)=some (.empty j' none)
 |0,i,p,fR,hf,e=>by
  obtain⟨f,rfl⟩:∃f,fR=f+1:=⟨fR-1,by lia⟩
  refine⟨i,?_⟩;have e':t.slot i=.empty:=e;unfold SetTable.probe.go yI;dsimp only;rw[e']
 |m+1,i,p,fR,hf,e=>by
  have hr:=KL t.mask i;obtain⟨f,Br⟩:∃f,fR=f+(SetTable.runEnd t.mask i-i)+1:=⟨fR-(SetTable.runEnd t.mask i-i)-1,by lia⟩
  rcases Dk (hashAt:=hashAt) (h:=h) hd hh i p (SetTable.runEnd t.mask i-i) i f with z|z
  .rw[Br];exact z
  .rw[Br];show ∃j',SetTable.probe.go t hashAt h _ { j:=i,more:=_,i:=i,perturb:=p,dummy:=none }=_;rw[z];exact z6 hd hh m _ _ f (by lia) e
theorem yK(R:sk (t.mask+1))(hd:t.dummies=#[])(hs:t.place.size<=t.mask)(hh:∀i,i<t.place.size->hashAt i≠h):∃j,t.probe hashAt h (t.probeStart h)=some (.empty j none):=by
 obtain⟨j,hj,hn⟩:=OC (M:=t.mask+1) (l:=t.place.toList) (by simpa using Nat.lt_succ_of_le hs);obtain⟨m,hm,e⟩:=oe R (ud (SetTable.bits h) (Nat.succ_pos t.mask)) (z5 h) hj;refine z6 hd hh m _ _ _ ?_ (by rw[e];exact yJ hd hn);unfold SetTable.turns;lia
end
theorem Dl{α β:Type}{f:α->Option β}:∀ {l:List α},(∀q∈l,(f q).isSome=true)->(l.filterMap f).length=l.length
 |[],_=>rfl
 |q::l,h=>by
  have hq:=h q b9;cases e:f q with
  |none=>rw[e] at hq;cases hq
  |some b=>rw[CC e,cw,cw,Dl fun x hx=>h x (cC _ hx)]
theorem j6:∀ (m fR i p:Nat),m<fR->owner.getD (gk mask m (i,p)).1 (some 0)=none->∃j,SetTable.layClean.free mask owner fR i p=some j/\owner.getD j (some 0)=none
 |m,0,_,_,h,_=>by lia
 |m,fR+1,i,p,h,e=>by
  unfold SetTable.layClean.free;cases hf:(List.range (SetTable.runEnd mask i+1-i)).find? fun k=>(owner.getD (i+k) (some 0)).isNone with
  |some k=>
   refine⟨i+k,rfl,?_⟩;have:=List.find?_some hf;simpa using this
  |none=>
   cases m with
   |zero=>
    have h0:(0:Nat)∈List.range (SetTable.runEnd mask i+1-i):=bN.mpr (by unfold SetTable.runEnd;split <;> lia);have:=List.find?_eq_none.mp hf 0 h0;have e':owner.getD i (some 0)=none:=e;rw[hX,e'] at this;exact absurd rfl this
   |succ m=>
    exact j6 m fR _ _ (by lia) e
structure vZ(M:Nat)(owner:Array (Option Nat))(k:Nat):Prop where
 size:owner.size=M
 cnt:owner.toList.countP Option.isSome=k
 lt:∀x,some x∈owner.toList->x<k
theorem yL{l:List (Option Nat)}{j:Nat}{x:Nat}(hj:l[j]?=some none):(l.set j (some x)).countP Option.isSome=l.countP Option.isSome+1:=by
 induction l generalizing j with
 |nil=>cases hj
 |cons a l ih=>
  cases j with
  |zero=>
   obtain rfl:a=none:=by simpa using hj
   simp
  |succ j=>
   rw[List.set_cons_succ,mV,mV,ih (by simpa using hj)];lia
theorem vZ.one{mask:Nat}{owner:Array (Option Nat)}{k:Nat}(L:vZ (mask+1) owner k)(R:sk (mask+1))(hk:k<mask+1)(h:Int):
  ∃j,SetTable.layClean.free mask owner (SetTable.turns mask) (SetTable.bits h % (mask+1)) (SetTable.bits h)=some j/\vZ (mask+1) (owner.setIfInBounds j (some k)) (k+1):=by
 have KJ:∃j,j<mask+1/\owner.toList[j]?=some none:=by
  apply tq;intro KJ;have rB:∀x∈owner.toList,x.isSome=true:=by
   intro x hx;obtain⟨j,hj,e⟩:=mS.mp hx;cases x with
   |some _=>rfl
   |none=>
    refine absurd ⟨j,?_,?_⟩ KJ
    .rw[<-L.size];simpa using hj
    .rw[cm hj,e]
  have:=List.countP_eq_length.mpr rB;rw[L.cnt,im,L.size] at this;lia
 obtain⟨j0,ZN,e0⟩:=KJ;obtain⟨m,hm,em⟩:=oe R (ud (SetTable.bits h) (Nat.succ_pos mask)) (z5 h) ZN;obtain⟨j,ej,en⟩:=j6 (mask:=mask) (owner:=owner) m (SetTable.turns mask) (SetTable.bits h % (mask+1)) (SetTable.bits h) (by unfold SetTable.turns;lia)
  (by rw[em,tf,<-kK,e0];rfl)
 refine⟨j,ej,?_⟩;have ZO:owner.toList[j]?=some none:=by
  rw[tf,<-kK] at en;cases hq:owner.toList[j]? with
  |none=>rw[hq] at en;cases en
  |some v=>rw[hq] at en;rw[show v=none from en]
 have Gp:(owner.setIfInBounds j (some k)).toList=owner.toList.set j (some k):=by simp
 refine⟨by simp[L.size],by rw[Gp,yL ZO,L.cnt],fun x hx=>?_⟩;rw[Gp] at hx;rcases List.mem_or_eq_of_mem_set hx with z|z
 .exact e_ (L.lt x z)
 .cases z;exact jw _
theorem z7(R:sk (mask+1)):∀ (l:List Int) (owner:Array (Option Nat)) (k:Nat),vZ (mask+1) owner k->k+l.length<=mask->
  ∃Dm,l.foldl (fun dF h=>do
   let (owner,k) <- dF
   let j <- SetTable.layClean.free mask owner (SetTable.turns mask) (SetTable.bits h % (mask+1)) (SetTable.bits h)
   pure (owner.setIfInBounds j (some k),k+1)) (some (owner,k))=some (Dm,k+l.length)/\vZ (mask+1) Dm (k+l.length)
 |[],owner,k,L,_=>⟨owner,rfl,L⟩
 |h::l,owner,k,L,hl=>by
  rw[cw] at hl;obtain⟨j,ej,L'⟩:=L.one R (by lia) h;obtain⟨o',e,L2⟩:=z7 R l _ _ L' (by lia);refine⟨o',?_,by rw[cw,show k+(l.length+1)=k+1+l.length by lia];exact L2⟩;rw[tW];have:(do
   let (owner,k) <- some (owner,k)
   let j <- SetTable.layClean.free mask owner (SetTable.turns mask) (SetTable.bits h % (mask+1)) (SetTable.bits h)
   pure (owner.setIfInBounds j (some k),k+1):Option (Array (Option Nat)×Nat))=some (owner.setIfInBounds j (some k),k+1):=by
   show (SetTable.layClean.free mask owner (SetTable.turns mask) (SetTable.bits h % (mask+1)) (SetTable.bits h)).bind _=_;rw[ej];rfl
  rw[this,e,cw,show k+(l.length+1)=k+1+l.length by lia]
theorem v_(R:sk (mask+1))(hs:Array Int)(h:hs.size<=mask):∃owner,SetTable.layClean mask hs=some owner/\vZ (mask+1) owner hs.size:=by
 have L0:vZ (mask+1) (Array.replicate (mask+1) none) 0:=⟨by simp,by simp[List.countP_replicate],fun x hx=>by simp at hx⟩
 obtain⟨o,e,L⟩:=z7 R hs.toList _ 0 L0 (by simpa using h);refine⟨o,?_,by simpa using L⟩;unfold SetTable.layClean;rw[<-Array.foldl_toList];have e':=congrArg (Option.map (·.1)) e;exact e'
theorem yM(L:vZ M owner n):
  ((List.range M).filterMap fun j=>(owner.getD j none).map (j,·)).length=n/\∀q∈(List.range M).filterMap (fun j=>(owner.getD j none).map (j,·)),q.2<n:=by
 constructor
 .rw[<-L.cnt];have e:owner.toList=(List.range M).map fun j=>owner.getD j none:=by
   apply List.ext_getElem
   .simp[L.size]
   .intro i h1 h2;simp only[xY,List.getElem_range,xJ];rw[tf,xx (by simpa using h1)];rfl
  conv=>rhs;rw[e]
  rw[List.countP_map];generalize List.range M=l;induction l with
  |nil=>rfl
  |cons a l ih=>
   rw[mV,<-ih];cases hq:owner.getD a none with
   |none=>rw[List.filterMap_cons_none (by rw[hq];rfl),show (Option.isSome ∘ fun j=>owner.getD j none) a=false by show (owner.getD a none).isSome=false;rw[hq];rfl];simp
   |some x=>rw[CC (b:=(a,x)) (by rw[hq];rfl),show (Option.isSome ∘ fun j=>owner.getD j none) a=true by show (owner.getD a none).isSome=true;rw[hq];rfl];simp
 .intro q hq;obtain⟨j,_,e⟩:=mT.mp hq;cases hx:owner.getD j none with
  |none=>rw[hx] at e;cases e
  |some x=>
   rw[hx] at e;cases e;refine L.lt x ?_;rw[tf,<-kK] at hx;cases hy:owner.toList[j]? with
   |none=>rw[hy] at hx;cases hx
   |some v=>rw[hy] at hx;obtain rfl:v=some x:=hx;exact dP hy
structure wa(hs:Array Int)(t:SetTable):Prop where
 dm:t.dummies=#[]
 sz:t.place.size=hs.size
 ms:(t.mask=7/\hs.size<=4)\/(t.mask=31/\hs.size<=18)\/(t.mask=127/\hs.size<=76)\/(t.mask=511/\hs.size<=306)
theorem wa.ZP(T:wa hs t):sk (t.mask+1):=by
 rcases T.ms with ⟨e,_⟩|⟨e,_⟩|⟨e,_⟩|⟨e,_⟩ <;> rw[e]
 .exact Ug
 .exact Jl
 .exact Di
 .exact Dj
theorem kQ(xs:Array α)(p:Nat)(x:α):(SetTable.insertAt xs p x).size=xs.size+1:=by
 unfold SetTable.insertAt;simp;lia
theorem mn(h:y∈(SetTable.insertAt xs p x).toList):y=x\/y∈xs.toList:=by
 unfold SetTable.insertAt at h;rw[n6,ja,xI,xI] at h;rcases bp.mp h with z|z
 .rcases bp.mp z with z|z
  .right;rw[List.extract_eq_drop_take] at z;exact tI (mR z)
  .left;simpa using z
 .right;rw[List.extract_eq_drop_take] at z;exact tI (mR z)
theorem yN{hs:Array Int}{t:SetTable}{h:Int}(T:wa hs t)(hn:h∉hs.toList)(hl:hs.size<300):∃hs' t',fJ hs t h=some (hs',t')/\wa hs' t'/\hs'.size=hs.size+1/\∀x∈hs'.toList,x=h\/x∈hs.toList:=by
 have T8:t.place.size<=t.mask:=by rw[T.sz];rcases T.ms with ⟨e,z⟩|⟨e,z⟩|⟨e,z⟩|⟨e,z⟩ <;> lia
 have hh:∀i,i<t.place.size->KE hs i≠h:=by
  intro i hi e;rw[T.sz] at hi;unfold KE at e;rw[xx hi] at e;exact hn (by rw[<-e];simp)
 obtain⟨j,hp⟩:=yK (hashAt:=KE hs) (h:=h) T.ZP T.dm T8 hh;have hg:t.gaveWay=false:=by
  unfold SetTable.gaveWay;rcases T.ms with ⟨e,_⟩|⟨e,_⟩|⟨e,_⟩|⟨e,_⟩ <;> rw[e] <;> rfl
 have q1:(t.put j).1.place=SetTable.insertAt t.place (SetTable.below t.place j) j:=rfl;have q2:(t.put j).1.dummies=#[]:=by
  show (if SetTable.has t.dummies j=true then _ else t.dummies)=_;rw[T.dm];rfl
 have q3:(t.put j).1.mask=t.mask:=rfl;have s1:(SetTable.insertAt hs (t.put j).2 h).size=hs.size+1:=kQ _ _ _;have s2:(t.put j).1.place.size=hs.size+1:=by rw[q1,kQ,T.sz]
 have fl:(t.put j).1.fill=hs.size+1:=by unfold SetTable.fill;rw[s2,q2];rfl
 have ZQ:(t.put j).1.fits (SetTable.insertAt hs (t.put j).2 h).size=true:=by
  unfold SetTable.fits;rw[s1,s2,fl,q3];simp;rcases T.ms with ⟨e,z⟩|⟨e,z⟩|⟨e,z⟩|⟨e,z⟩ <;> lia
 unfold fJ;rw[hg,ap cj,hp];dsimp only;rw[ao (by rw[ZQ,s1];simp;lia)];by_cases hf:(t.put j).1.tooFull=true
 .rw[ao hf];have Br:=hf;unfold SetTable.tooFull at Br;rw[fl,q3] at Br;have Xx:(hs.size+1)*5>=t.mask*3:=by simpa using Br
  have gr:SetTable.grown (hs.size+1)=(hs.size+1)*4:=by unfold SetTable.grown;rw[ap (by lia)]
  obtain⟨m2,XA,Uh,R2⟩:∃m2,SetTable.sizeAbove (SetTable.grown (hs.size+1))=m2+1/\((m2=31/\hs.size+1<=18)\/(m2=127/\hs.size+1<=76)\/(m2=511/\hs.size+1<=306))/\sk (m2+1):=by
   rw[gr];rcases T.ms with ⟨e,z⟩|⟨e,z⟩|⟨e,z⟩|⟨e,z⟩
   .have:hs.size=4:=by lia
    exact⟨31,by rw[this];rfl,.inl ⟨rfl,by lia⟩,Jl⟩
   .have:hs.size=18:=by lia
    exact⟨127,by rw[this];rfl,.inr (.inl ⟨rfl,by lia⟩),Di⟩
   .have:hs.size=76:=by lia
    exact⟨511,by rw[this];rfl,.inr (.inr ⟨rfl,by lia⟩),Dj⟩
   .lia
  have XB:(SetTable.insertAt hs (t.put j).2 h).size<=m2:=by rw[s1];rcases Uh with ⟨e,z⟩|⟨e,z⟩|⟨e,z⟩ <;> lia
  obtain⟨owner,eo,L⟩:=v_ R2 (SetTable.insertAt hs (t.put j).2 h) XB;obtain⟨OD,Ui⟩:=yM L;rw[s1] at OD Ui;generalize OE:(List.range (m2+1)).filterMap (fun j=>(owner.getD j none).map (j,·))=live at OD Ui;have er:(t.put j).1.relaid (SetTable.insertAt hs (t.put j).2 h) (SetTable.grown (hs.size+1))=some ({ mask:=m2,place:=(live.map (·.1)).toArray,dummies:=#[],finger:=(t.put j).1.finger,led:=(t.put j).1.led,moves:=(t.put j).1.movedTo m2,plain:=(t.put j).1.plain },(live.map (·.2)).toArray):=by
   unfold SetTable.relaid SetTable.laid;rw[XA];simp only[Nat.add_sub_cancel];rw[eo];show some _=some _;rw[<-OE]
  rw[er];dsimp only;have yH:((live.map (·.2)).toArray.filterMap ((SetTable.insertAt hs (t.put j).2 h)[·]?)).size=hs.size+1:=by
   rw[<-im,tE];show ((live.map (·.2)).filterMap _).length=_;rw[<-OD,List.filterMap_map];refine Dl fun q hq=>?_;show ((SetTable.insertAt hs (t.put j).2 h)[q.2]?).isSome=true;rw[xx (by rw[s1];exact Ui q hq)];rfl
  have ZR:∀x,({ mask:=m2,place:=(live.map (·.1)).toArray,dummies:=#[],finger:=(t.put j).1.finger,led:=(t.put j).1.led,moves:=(t.put j).1.movedTo m2,plain:=(t.put j).1.plain }:SetTable).fits x=(decide (hs.size+1=x)&&decide (hs.size+1<=m2)):=by
   intro x;unfold SetTable.fits SetTable.fill;simp[OD];rw[l6];simp
  rw[ao (by
   rw[yH,s1,ZR,XA];have:hs.size+1<=m2:=by rw[<-s1];exact XB
   simp[this];rcases Uh with ⟨e,z⟩|⟨e,z⟩|⟨e,z⟩ <;> lia)]
  refine⟨_,_,rfl,⟨rfl,?_,?_⟩,yH,fun x hx=>?_⟩
  .rw[yH];simp[OD]
  .rw[yH];exact .inr Uh
  .rw[tE] at hx;obtain⟨k,_,ek⟩:=mT.mp hx;refine mn (p:=(t.put j).2) ?_;rw[<-kK] at ek;exact dP ek
 .rw[ap hf];refine⟨_,_,rfl,⟨q2,by rw[s2,s1],?_⟩,s1,fun x hx=>mn hx⟩;have Br:¬ (hs.size+1)*5>=t.mask*3:=by
   intro z;refine hf ?_;unfold SetTable.tooFull;rw[fl,q3];simpa using z
  rw[s1,q3];rcases T.ms with ⟨e,z⟩|⟨e,z⟩|⟨e,z⟩|⟨e,z⟩ <;> lia
theorem oh:∀ (l:List Int) (hs:Array Int) (t:SetTable),wa hs t->(∀x∈l,x∉hs.toList)->l.Nodup->hs.size+l.length<=300->∃hs' t',l.foldlM (fun q h=>fJ q.1 q.2 h) (hs,t)=some (hs',t')/\hs'.size=hs.size+l.length
 |[],hs,t,_,_,_,_=>⟨hs,t,rfl,rfl⟩
 |h::l,hs,t,T,hn,nd,hl=>by
  rw[cw] at hl;obtain⟨n1,n2⟩:=dQ.mp nd;obtain⟨Jh,t1,e1,T1,z1,m1⟩:=yN T (hn h b9) (by lia);obtain⟨p_,t2,e2,z2⟩:=oh l Jh t1 T1 (fun x hx hy=>by
   rcases m1 x hy with e|e
   .exact n1 (e ▸ hx)
   .exact hn x (cC _ hx) e) n2 (by lia)
  refine⟨p_,t2,?_,by rw[z2,z1,cw];lia⟩;rw[List.foldlM_cons];show (fJ hs t h).bind _=_;rw[e1];exact e2
theorem Bs(led:Bool)(nd:l.Nodup)(hl:l.length<=300):∃hs t,uG led l=some (hs,t)/\hs.size=l.length:=by
 obtain⟨hs,t,e,z⟩:=oh l #[] (SetTable.fresh 0 0 led) ⟨rfl,rfl,.inl ⟨rfl,by decide⟩⟩ (fun x _ h=>by simp at h) nd (by simpa using hl);exact⟨hs,t,e,by simpa using z⟩
def z8:List Nat->Nat->Bool
 |[],_=>true
 |x::xs,dF=>bif Nat.testBit dF x then false else z8 xs (dF ||| (1 <<< x))
theorem wb:∀ (l:List Nat) (dF:Nat),z8 l dF=true->l.Nodup/\∀x∈l,dF.testBit x=false
 |[],_,_=>⟨jf,fun x h=>(nomatch h)⟩
 |x::xs,dF,h=>by
  unfold z8 at h;cases hb:dF.testBit x with
  |true=>rw[hb] at h;cases h
  |false=>
   rw[hb] at h;obtain⟨nd,hx⟩:=wb xs _ h;have XC:∀y∈xs,dF.testBit y=false/\y≠x:=by
    intro y hy;have:=hx y hy;rw[Nat.testBit_or,Nat.one_shiftLeft,Nat.testBit_two_pow] at this;rw[Bool.or_eq_false_iff] at this;exact⟨this.1,fun e=>by have:=this.2;simp[e] at this⟩
   refine⟨dQ.mpr ⟨fun hm=>(XC x hm).2 rfl,nd⟩,fun y hy=>?_⟩;rcases bK.mp hy with z|z
   .rw[z];exact hb
   .exact(XC y z).1
def qh:List (Int×Int):=(List.range 32).flatMap fun a=>(List.range 32).map fun b=>(Int.ofNat a,Int.ofNat b)
def Jm(h:Int):Nat:=(h % 6554).toNat
theorem Bt(P:Program)(w:World):z8 (qh.map fun y=>Jm (fh P w y)) 0=true:=by kernel_rfl
theorem z9(h1:0<=y.1/\y.1<32)(h2:0<=y.2/\y.2<32):y∈qh:=by
 unfold qh;refine List.mem_flatMap.mpr ⟨y.1.toNat,bN.mpr (by lia),bP.mpr ⟨y.2.toNat,bN.mpr (by lia),Prod.ext ?_ ?_⟩⟩
 .show ((y.1.toNat:Nat):Int)=y.1;lia
 .show ((y.2.toNat:Nat):Int)=y.2;lia
theorem kR:∀ {l:List α},(l.map f).Nodup->∀x∈l,∀y∈l,f x=f y->x=y
 |[],_,_,h,_,_,_=>by cases h
 |a::l,h,x,hx,y,hy,e=>by
  rw[cW] at h;obtain⟨h1,h2⟩:=dQ.mp h;rcases bK.mp hx with z|z <;> rcases bK.mp hy with z'|z'
  .rw[z,z']
  .exact absurd (bP.mpr ⟨y,z',by rw[<-e,z]⟩) h1
  .exact absurd (bP.mpr ⟨x,z,by rw[e,z']⟩) h1
  .exact kR h2 x z y z' e
theorem uI(hx:(0<=x.1/\x.1<32)/\(0<=x.2/\x.2<32))(hy:(0<=y.1/\y.1<32)/\(0<=y.2/\y.2<32))(e:fh P w x=fh P w y):x=y:=
 kR (wb _ _ (Bt P w)).1 x (z9 hx.1 hx.2) y (z9 hy.1 hy.2) (congrArg Jm e)
theorem nF:∀ {l:List α},l.Nodup->(∀x∈l,∀y∈l,f x=f y->x=y)->(l.map f).Nodup
 |[],_,_=>jf
 |a::l,h,hf=>by
  obtain⟨h1,h2⟩:=dQ.mp h;rw[cW];refine dQ.mpr ⟨fun z=>?_,nF h2 fun x hx y hy=>hf x (cC _ hx) y (cC _ hy)⟩;obtain⟨y,hy,e⟩:=bP.mp z;have:=hf y (cC _ hy) a b9 e;exact h1 (this ▸ hy)
theorem wc{P:Program}{w:World}(led:Bool){ys:List (Int×Int)}(nd:ys.Nodup)(hr:∀y∈ys,(0<=y.1/\y.1<32)/\(0<=y.2/\y.2<32))(hl:ys.length<=300):
  ∃hs t,uG led (ys.map (fh P w))=some (hs,t)/\hs.size=ys.length:=by
 obtain⟨hs,t,e,z⟩:=Bs led (nF nd fun x hx y hy e=>uI (P:=P) (w:=w) (hr x hx) (hr y hy) e) (by rw[aO];exact hl);exact⟨hs,t,e,by rw[z,aO]⟩
theorem uJ:∀ {as:List Addr} {its:List Value},aW (as.map V.ref) its->its=as.map Value.ref
 |[],_,r=>by cases r;rfl
 |a::as,_,r=>by
  cases r with
  |cons r rr=>
   obtain rfl:=(show _=Value.ref a from r)
   rw[uJ rr];rfl
def Gq(D:Addr)(n:Nat):HO:=.ext fun h=>∃hs t,jJ h D hs t/\hs.size=n
section
variable {X:Cx}
def OG(K:PySem.W.Frag):List V->Hp->VK->Prop:=fun xs H Q=>∃ (l:Addr) (as:List Addr) (ys:List (Int×Int)),xs=[.ref l]/\aU K H l (as.map V.ref)/\as.length=ys.length/\
 (∀i,i<ys.length->Db K H (as.getD i 0) (ys.getD i (0,0)))/\ys.Nodup/\(∀y∈ys,(0<=y.1/\y.1<32)/\(0<=y.2/\y.2<32))/\ys.length<=300/\∀D,H D=none->Q (.ref D) (upd H D (Gq D ys.length))
theorem Bu(hc:X.calm=true)(hu:X.A.units+8<cLine):eN X (.type "set") (OG X.K):=by
 intro ae s σ H xs us Q I r h;obtain⟨l,as,ys,rfl,hl,dY,hp,nd,rg,h3,q⟩:=h;obtain⟨u1,rfl,r1⟩:=r.one;obtain rfl:u1=Value.ref l:=r1;obtain⟨its,rv,pl,hz⟩:=I.list hl;have e:=uJ rv;subst e;have ZS:iS s.heap (as.map Value.ref) ys:=⟨by rw[aO,dY],fun i v hv=>by
  rw[bn] at hv;cases ea:as[i]? with
  |none=>rw[ea] at hv;cases hv
  |some a=>
   rw[ea] at hv;obtain rfl:Value.ref a=v:=bR hv;have hi:i<as.length:=(cK.mp ea).1;obtain⟨o,n,t,u,e1,c,d⟩:=yF I (hp i (by lia));have eg:as.getD i 0=a:=by rw[bO,ea];rfl
   rw[eg] at e1;exact⟨a,o,n,t,u,rfl,e1,c,d⟩⟩
 have Bp:∀led,∃q:Array Int×SetTable,uG led (ys.map (fh X.prog X.w))=some q/\q.1.size=ys.length:=fun led=>
  let ⟨hs,t,e,z⟩:=wc (P:=X.prog) (w:=X.w) led nd rg h3;⟨(hs,t),e,z⟩
 refine Df (I.ok.hd hc) hu pl.isList ZS (hsN:=fun led=>(Bp led).choose.1) (tN:=fun led=>(Bp led).choose.2) (fun led=>(Bp led).choose_spec.1) fun led h' tk S' k=>?_;refine⟨.ref s.heap.objs.size,_,I.vW (t':=tk) (o:=Gq s.heap.objs.size ys.length) (fun b u e=>k b u (aY e) e) (k_ (aL _)) ⟨⟨_,_,S',(Bp led).choose_spec.2⟩,?_,fun h1 h2 ⟨hs,t,⟨o,es,ep,q1,q2⟩,z⟩ kk=>⟨hs,t,⟨o,es,ep,kk o q1,q2⟩,z⟩⟩,rfl,q _ I.fresh⟩;obtain⟨o,_,_,q1,_⟩:=S';exact⟨o,q1⟩
theorem wd:eN X (.builtin "len") (fun xs H Q=>∃D n,xs=[.ref D]/\H D=some (Gq D n)/\n<=4096/\Q (.int n) H):=by
 intro ae s σ H xs us Q I r h;obtain⟨D,n,rfl,e,hn,q⟩:=h;obtain⟨u1,rfl,r1⟩:=r.one;obtain rfl:u1=Value.ref D:=r1;obtain⟨⟨hs,t,⟨o,es,ep,q1,q2,q3,q4,q5,q6⟩,z⟩,_⟩:=(show bQ X.prog X.w H s.heap D (Gq D n) from I.bA D _ e)
 have hsz:es.size=n:=by rw[<-z,<-q5,iG]
 exact call_len_set q1 ⟨q2,q3.1,q3.2⟩ q4 q6 (by rw[hsz];lia) ⟨.int n,H,I.tok _,⟨_,by rw[hsz]⟩,q⟩
theorem we:eN X (.type "range") (fun xs H Q=>∃n,xs=[.int n]/\∀p,H p=none->Q (.ref p) (upd H p (.CF 0 n))):=by
 intro ae s σ H xs us Q I r h;obtain⟨n,rfl,q⟩:=h;obtain⟨u1,rfl,t,rfl⟩:=r.one;refine call_range_1 ⟨.ref s.heap.objs.size,_,I.laid (o:=.CF 0 n) (fun b u e=>cq _ e) (aL _) ⟨_,_,_,cV _ rfl⟩,rfl,q _ I.fresh⟩
theorem yO(hc:X.calm=true):eN X (.type "list") (fun xs H Q=>∃ (p:Addr) (n:Nat),xs=[.ref p]/\H p=some (.CF 0 n)/\n<=1000/\∀l,H l=none->Q (.ref l) (upd H l (.lst ((List.range n).map fun (i:Nat)=>V.int i)))):=by
 intro ae s σ H xs us Q I r h;obtain⟨p,n,rfl,e,hn,q⟩:=h;obtain⟨u1,rfl,r1⟩:=r.one;obtain rfl:u1=Value.ref p:=r1;obtain⟨t,u,v,hp⟩:=(show bQ X.prog X.w H s.heap p (.CF 0 n) from I.bA p _ e)
 refine call_list_range (n:=n) (I.ok.hd hc) (show IsRange s.heap p 0 n 1 t u v from hp) (small_one (by lia) (by lia) (by lia) (by lia)) (by rw[rangeSize_one];split <;> lia) (by lia) fun h' tk dF c k g it=>?_;obtain⟨i1,i2⟩:=it;refine⟨.ref s.heap.objs.size,_,I.vW (t':=tk) (o:=.lst ((List.range n).map fun (i:Nat)=>V.int i)) (fun b u e=>k b u e) (k_ (aL _)) ⟨?_,dF.toList,c,?_,by simpa using g⟩,rfl,q _ I.fresh⟩
 .rw[aO,fK];exact bB hn (by decide)
 .have go:∀ (m:Nat) (l:List Value),l.length=m->(∀ (j:Nat) v,l[j]?=some v->∃t,v=Value.int (0+(j:Int)*1) t)->aW ((List.range m).map fun (i:Nat)=>V.int i) l:=by
   intro m;induction m with
   |zero=>intro l hl _;cases l with
    |nil=>exact .nil
    |cons _ _=>cases hl
   |succ m ih=>
    intro l hl hv;have jn:l≠[]:=by intro z;rw[z] at hl;cases hl
    have el:l=l.dropLast++[l.getLast jn]:=(List.dropLast_concat_getLast jn).symm;rw[jx,cD,el];have RP:l.dropLast.length=m:=by rw[List.length_dropLast,hl];rfl
    refine aW.append (ih _ RP fun j v hj=>hv j v ?_) (.cons ?_ .nil)
    .rw[el];have ZT:j<l.dropLast.length:=(cK.mp hj).1;rw[i8 ZT];exact hj
    .obtain⟨t,ht⟩:=hv m (l.getLast jn) (by
      rw[List.getLast_eq_getElem,cm (by lia:m<l.length)];simp[hl])
     exact⟨t,by rw[ht];simp⟩
  exact go n dF.toList (by simpa using i1) fun j v hj=>i2 j v (by simpa using hj)
end
def oj(e:V->V->Bool):List V->List V->Bool
 |[],[]=>true
 |x::xs,y::ys=>e x y&&oj e xs ys
 |_,_=>false
theorem om:∀ {xs ys:List V},xs.length=ys.length->oj e xs ys=(List.range xs.length).all fun i=>e (xs.getD i .bH) (ys.getD i .bH)
 |[],[],_=>rfl
 |x::xs,y::ys,h=>by
  have h':xs.length=ys.length:=by simpa using h
  rw[oj,om h',cw,tw,lu,List.all_map];rfl
 |[],_::_,h=>by simp at h
 |_::_,[],h=>by simp at h
theorem sv:∀ {xs ys:List V},xs.length≠ys.length->oj e xs ys=false
 |[],[],h=>absurd rfl h
 |x::xs,y::ys,h=>by
  have h':xs.length≠ys.length:=fun z=>h (by simp[z]);rw[oj,sv h',tY]
 |[],_::_,_=>rfl
 |_::_,[],_=>rfl
section
variable {X:Cx}
def OH(X:Cx)(H:Hp)(e:V->V->Bool)(x y:V):Prop:=∀ (ae:List (Addr×Obj)) (s:Shared) (σ:St) (A:Around) (u v:Value),aK X ae σ H s->A.units+1<cLine->be x u->be y v->SeqAt.EqAt A s u v (e x y)
def Uj(X:Cx)(Og:Bool)(e:V->V->Bool):R2:=fun x y H Q=>∃p q xs ys,x=.ref p/\y=.ref q/\aU X.K H p xs/\aU X.K H q ys/\(∀i,i<xs.length->i<ys.length->OH X H e (xs.getD i .bH) (ys.getD i .bH))/\Q (.bl (if Og then !oj e xs ys else oj e xs ys)) H
theorem Dn(I:aK X ae σ H s)(hu:A.units+1<cLine)(rx:aW xs us)(ry:aW ys vs)(he:∀i,i<xs.length->i<ys.length->OH X H e (xs.getD i .bH) (ys.getD i .bH)):∀j (h1:j<us.toArray.size) (h2:j<vs.toArray.size),SeqAt.EqAt A s us.toArray[j] vs.toArray[j] (e (xs.getD j .bH) (ys.getD j .bH)):=by
 intro j h1 h2;have j1:j<xs.length:=by rw[rx.length];simpa using h1
 have j2:j<ys.length:=by rw[ry.length];simpa using h2
 have e1:xs[j]?=some (xs.getD j .bH):=by rw[bO,cm j1];rfl
 have e2:ys[j]?=some (ys.getD j .bH):=by rw[bO,cm j2];rfl
 obtain⟨u,mP,ru⟩:=rx.get e1;obtain⟨v,Uk,rv⟩:=ry.get e2;have eu:us.toArray[j]=u:=by
  have:us[j]?=some us.toArray[j]:=by simp at h1 |-
  rw[mP] at this;exact(bR this).symm
 have ev:vs.toArray[j]=v:=by
  have:vs[j]?=some vs.toArray[j]:=by simp at h2 |-
  rw[Uk] at this;exact(bR this).symm
 rw[eu,ev];exact he j j1 j2 ae s σ A u v I hu ru rv
theorem Do{e:V->V->Bool}(hu:X.A.units+2<cLine):l9 X (compareOp .NotEq) (Uj X true e):=by
 intro ae s σ H x y v u Q I rx ry h;obtain⟨p,q,xs,ys,rfl,rfl,hp,hq,he,k⟩:=h;obtain rfl:v=Value.ref p:=rx;obtain rfl:u=Value.ref q:=ry;obtain⟨us,r1,p1,_⟩:=I.list hp;obtain⟨vs,r2,p2,_⟩:=I.list hq;by_cases hl:xs.length=ys.length
 .refine SeqAt.RcNeAt.lists (e:=fun i=>e (xs.getD i .bH) (ys.getD i .bH)) p1.isList p2.isList (by simp only[cu];rw[<-r1.length,<-r2.length];exact hl) (by lia) (Dn I (by show X.A.units+1+1<cLine;lia) r1 r2 he) _ _ _ _ ⟨.bl _,H,I,rfl,?_⟩;rw[show us.toArray.size=xs.length by rw[cu,r1.length],<-om hl];exact k
 .refine SeqAt.RcNeAt.lists_lengths p1.isList p2.isList (by simp only[cu];rw[<-r1.length,<-r2.length];simpa using hl) (by lia) _ _ _ _ ⟨.bl _,H,I,rfl,?_⟩;have k':=k;rw[sv hl] at k';exact k'
theorem Bv(hc:X.calm=true):eN X (.builtin "any") (fun xs H Q=>∃ (p:Addr) (bs:List Bool),xs=[.ref p]/\aU X.K H p (bs.map V.bl)/\Q (.bl (bs.any id)) H):=by
 intro ae s σ H xs us Q I r h;obtain⟨p,bs,rfl,hp,q⟩:=h;obtain⟨u1,rfl,r1⟩:=r.one;obtain rfl:u1=Value.ref p:=r1;obtain⟨its,rv,pl,hz⟩:=I.list hp;have yP:its=bs.map Value.bool:=by
  have go:∀ (bs:List Bool) (its:List Value),aW (bs.map V.bl) its->its=bs.map Value.bool:=by
   intro bs;induction bs with
   |nil=>intro its r;cases r;rfl
   |cons b bs ih=>
    intro its r;cases r with
    |cons r rr=>
     obtain rfl:=(show _=Value.bool b from r)
     rw[ih _ rr];rfl
  exact go bs its rv
 subst yP;obtain⟨ob,Ul,_⟩:=id pl.isList;have et:p<s.heap.objs.size:=aY Ul;refine call_any_walk (pQ pl.isList ⟨s.heap.objs.size,_,_,_,_,_,fun i=>bs.getD i false,rfl,Walks.list (show X.A.in1.handled=none from I.ok.hd hc) _ p (aX et) _,⟨⟨_,cV _ rfl,rfl,rfl⟩,pl.isList.push _⟩,fun i v s1 Q' E' hv hq=>?_,fun h' tk k=>?_⟩)
 .have yt:(bs.map Value.bool)[i]?=some v:=by simpa using hv
  rw[bn] at yt;cases eb:bs[i]? with
  |none=>rw[eb] at yt;cases yt
  |some b=>
   rw[eb] at yt;obtain rfl:Value.bool b=v:=bR yt;have:bs.getD i false=b:=by rw[bO,eb];rfl
   have F2:Q' b s1:=by rw[<-this];exact hq
   exact wpAny_pure F2
 .have keep:∀b o,s.heap.get? b=some o->h'.get? b=some o:=fun b o e=>k b o (by simpa using aX (aY e)) (cq _ e);refine⟨.bl (bs.any id),H,I.kept (t':=tk) keep,?_,q⟩;show Value.bool _=Value.bool _;congr 1;have go:∀ (bs:List Bool),((List.range bs.length).any fun i=>bs.getD i false)=bs.any id:=by
   intro bs;induction bs with
   |nil=>rfl
   |cons b bs ih=>
    rw[cw,tw,jy,List.any_map,jy,<-ih];rfl
  rw[<-go bs];simp
end
def oq(c:Addr)(qual:Str):HO:=.ext fun h=>h.CodeRec (.ref c) qual
theorem Dp(x:h.CodeRec (.ref c) qual):bQ P w H h c (oq c qual):=by
 refine⟨x,?_,?_⟩
 .obtain⟨c',o,vs,t,e,ho,_⟩:=x;cases e;exact⟨o,ho⟩
 .rintro h1 h2 ⟨c',o,vs,t,e,ho,r⟩ k;cases e;exact⟨c,o,vs,t,rfl,k o ho,r⟩
def Jn(f:Addr)(qual:Str)(params:Arguments)(body:Expr)(scope:Scope)(cells:List (Str×Addr))(c:Addr)(h:Heap):Prop:=
 ∃ (dk:List (Str×Addr)) (pm uK:Value),(∀x a,dk.lookup x=some a->cells.lookup x=some a)/\(∀x,(x,NameKind.free)∈scope.names->∃a,dk.lookup x=some a)/\
  h.get? f=some (PySem.W.kla_obj "<lambda>" qual params body scope dk pm c uK)
def qk(f:Addr)(qual:Str)(params:Arguments)(body:Expr)(scope:Scope)(cells:List (Str×Addr))(c:Addr):HO:=.ext (Jn f qual params body scope cells c)
theorem z_(x:Jn f qual params body scope cells c h):
  bQ P w H h f (qk f qual params body scope cells c):=by
 refine⟨x,?_,?_⟩
 .obtain⟨_,_,_,_,_,e⟩:=x;exact⟨_,e⟩
 .rintro h1 h2 ⟨dk,pm,uK,a,b,e⟩ k;exact⟨dk,pm,uK,a,b,k _ e⟩
def jK(lp:Pos)(qual:Str)(P:Addr)(H:Hp):Prop:=H P=some (.m6 #[])\/∃c,H P=some (.m6 #[rawInt lp.line,rawInt lp.col,.ref c])/\H c=some (oq c qual)
structure Gr(X:Cx)(c P:Addr):Prop where
 code:X.env.code=.ref c
 hd:PySem.W.CodeHd X.base c P
 bm:∃bm o,X.mg "__builtins__"=some (.ref bm)/\bm≠builtinsNs/\bm≠mainGlobals/\X.base.get? bm=some o/\o.cls=.type "module"/\o.dict=some builtinsNs/\o.data=.plain
def Um(lp:Pos)(qual:Str)(P:Addr)(params:Arguments)(body:Expr)(scope:Scope)(cells:List (Str×Addr)):TE:=fun _ H Q=>jK lp qual P H/\
 ∀ (f c:Addr) (H2:Hp),jK lp qual P H2->(∀b o,H b=some o->b≠P->H2 b=some o)->H2 c=some (oq c qual)->H2 f=some (qk f qual params body scope cells c)->Q (.ref f) H2
theorem wf{lp:Pos}{c:Addr}:TriplesOk (#[rawInt lp.line,rawInt lp.col,.ref c]:Array Value).toList:=trivial
theorem Bw:codeAmong lp (#[rawInt lp.line,rawInt lp.col,.ref c]:Array Value).toList=some (.ref c):=by
 show (if ((lp.line:Int)==(lp.line:Int)&&(lp.col:Int)==(lp.col:Int))=true then some (Value.ref c) else _)=_;simp
section
variable {X:Cx} {c P:Addr} {params:Arguments} {body:Expr} {scope:Scope} {lp:Pos} {NB:List Str} {src:List (Option Nat)}
theorem Gr.at(C:Gr X c P)(I:aK X ae σ H s)(hP:H P=some (.m6 ps)):s.heap.BuiltinsAt X.mg P:=by
 obtain⟨bm,o,b1,b2,b3,b4,b5,b6,b7⟩:=C.bm;refine⟨bm,o,b1,b2,b3,fun z=>?_,I.bk _ _ b4,b5,b6,b7⟩;have:=(I.bs _ _ b4).2;rw[z,hP] at this;cases this
theorem aK.Jo(I:aK X ae σ H s):s.heap.Ns mainGlobals X.mg:=I.mod.glob.keeps I.bk
theorem Dq(C:Gr X c P)(S:gz NB src scope X)(Uo:defaultsOf params X.env=([],[]):=by rfl):PE X (.Lambda params body scope lp) (Um lp (X.env.qual++"<lambda>") P params body scope X.env.cells):=by
 intro ae s σ H Q I h;obtain⟨ZU,h⟩:=h;obtain⟨dk,XD,c1,c2⟩:=lL I.ok S;refine PySem.W.kla_eval Uo ?_;have hsz:∀b o,s.heap.get? b=some o->b<s.heap.objs.size:=fun b o e=>aY e;rcases ZU with hP|⟨c',hP,FT⟩
 .-- ZV first time
  have OI:s.heap.get? P=some (PySem.W.tabObj #[]):=I.bA P _ hP;have ZW:X.env.locals≠P:=fun z=>by have f:=I.free;rw[z,hP] at f;cases f
  have ZX:mainGlobals≠P:=fun z=>by
   obtain⟨o,es,ep,e,d,_⟩:=I.mod.glob;have:=(I.bs _ _ e).2;rw[z,hP] at this;cases this
  refine PySem.W.kla_makeFunction (mg:=X.mg) XD I.ok.glob I.Jo C.code (C.hd.keeps I.bk) OI (by trivial) rfl ZX (C.at I hP) fun c' uK h' tk hx Gs et Up XE=>?_;have Gu:∀b o,b≠P->s.heap.get? b=some o->(h'.push (PySem.W.kla_obj "<lambda>" (X.env.qual++"<lambda>") params body scope dk ((X.mg "__name__").getD .none) c' uK)).get? b=some o:=fun b o hb e=>cq _ (hx b o hb e);have ZY:c'≠P:=jA (bV (hsz _ _ OI) Gs);have ZZ:h'.objs.size≠P:=jA (bV (hsz _ _ OI) (bB Gs (dG et)));have Z0:h'.objs.size≠c':=jA et;have nf:H h'.objs.size=none:=I.bA.fresh (by lia);have nc:H c'=none:=I.bA.fresh Gs
  let H2:Hp:=upd (upd (upd H P (.m6 #[rawInt lp.line,rawInt lp.col,.ref c'])) c' (oq c' (X.env.qual++"<lambda>"))) h'.objs.size (qk h'.objs.size (X.env.qual++"<lambda>") params body scope X.env.cells c')
  have eP:H2 P=some (.m6 #[rawInt lp.line,rawInt lp.col,.ref c']):=by
   show upd _ _ _ _=_;rw[ak ZZ.symm,ak ZY.symm,af]
  have ec:H2 c'=some (oq c' (X.env.qual++"<lambda>")):=by
   show upd _ _ _ _=_;rw[ak Z0.symm,af]
  have ef:H2 h'.objs.size=some (qk h'.objs.size (X.env.qual++"<lambda>") params body scope X.env.cells c'):=af;have eo:∀b,b≠P->b≠c'->b≠h'.objs.size->H2 b=H b:=fun b h1 h2 h3=>by
   show upd _ _ _ _=_;rw[ak h3,ak h2,ak h1]
  have old:∀b o,H b=some o->b≠P->H2 b=some o:=fun b o e hb=>by
   rw[eo b hb (ai e nc) (ai e nf)];exact e
  have I2:aK X ae σ H2 { s with heap:=h'.push (PySem.W.kla_obj "<lambda>" (X.env.qual++"<lambda>") params body scope dk ((X.mg "__name__").getD .none) c' uK),toks:=tk }:=by
   refine I.step (g':=s.gens) (d':=s.drawn) (ch:=[]) (fun _ z=>absurd z (by simp)) (fun b o _ _ _ e n=>Gu b o (fun z=>by rw[z,hP] at n;cases n) e) (fun b o _ _ _ e n=>⟨o.slots,Gu b o (fun z=>by rw[z,hP] at n;cases n) e⟩)
    (fun b o _ e n=>?_) (fun b o _ e=>?_) (fun b xs e=>old b _ e fun z=>by rw[z,hP] at e;cases e) (fun b o u e=>old b _ e fun z=>by rw[z,hP] at e;cases e) (fun b ps e=>?_) (fun m hm=>?_) (fun b o e=>?_) I.bare
   .rw[eo b (fun z=>by rw[z,hP] at n;cases n) (aX (bV (hsz b o e) Gs)) (aX (bV (hsz b o e) (bB Gs (dG et))))];exact n
   .by_cases hb:b=P
    .exact⟨_,by rw[hb];exact cq _ XE⟩
    .exact⟨o,Gu b o hb e⟩
   .by_cases hb:b=P
    .rw[hb] at e |-;rw[hP] at e;cases e;exact⟨#[rawInt lp.line,rawInt lp.col,.ref c'],by rw[eP];simp⟩
    .exact⟨#[],by rw[old b _ e hb];simp⟩
   .exact(hm.extBut hx ZW).push _
   .by_cases XF:b=h'.objs.size
    .subst XF;rw[ef] at e;cases e;exact z_ ⟨dk,_,uK,c1,c2,cV _ rfl⟩
    .by_cases T6:b=c'
     .subst T6;rw[ec] at e;cases e;refine Dp ?_;obtain⟨c₂,oc,vs,t,e2,Ry,r⟩:=Up;exact⟨c₂,oc,vs,t,e2,cq _ Ry,r⟩
     .by_cases Uq:b=P
      .subst Uq;rw[eP] at e;cases e;exact cq _ XE
      .rw[eo b Uq T6 XF] at e;refine(I.bA b o e).oC (fun d u hd q=>Gu d u ?_ q) (fun d q=>old d _ q fun z=>by rw[z,hP] at q;cases q) fun d xs q=>old d _ q fun z=>by rw[z,hP] at q;cases q
       rintro rfl;rcases hd with z|z
       .exact Uq z.symm
       .rw[hP] at z;cases z
  exact⟨.ref h'.objs.size,H2,I2,rfl,h _ c' H2 (.inr ⟨c',eP,ec⟩) old ec ef⟩
 .-- again
  have OI:s.heap.get? P=some (PySem.W.tabObj #[rawInt lp.line,rawInt lp.col,.ref c']):=I.bA P _ hP;refine PySem.W.kla_makeFunctionHit (mg:=X.mg) XD I.ok.glob I.Jo C.code (C.hd.keeps I.bk) OI wf Bw (C.at I hP) fun uK h' tk hk Gs=>?_;have nf:H h'.objs.size=none:=I.bA.fresh Gs
  let H2:Hp:=upd H h'.objs.size (qk h'.objs.size (X.env.qual++"<lambda>") params body scope X.env.cells c')
  have ef:H2 h'.objs.size=some (qk h'.objs.size (X.env.qual++"<lambda>") params body scope X.env.cells c'):=af;have old:∀b o,H b=some o->H2 b=some o:=fun b o e=>by
   show upd _ _ _ _=_;rw[ak (ai e nf)];exact e
  have Gu:∀b o,s.heap.get? b=some o->(h'.push (PySem.W.kla_obj "<lambda>" (X.env.qual++"<lambda>") params body scope dk ((X.mg "__name__").getD .none) c' uK)).get? b=some o:=fun b o e=>cq _ (hk b o e);have I2:aK X ae σ H2 { s with heap:=h'.push (PySem.W.kla_obj "<lambda>" (X.env.qual++"<lambda>") params body scope dk ((X.mg "__name__").getD .none) c' uK),toks:=tk }:=by
   refine I.step (g':=s.gens) (d':=s.drawn) (ch:=[]) (fun _ z=>absurd z (by simp)) (fun b o _ _ _ e n=>Gu b o e) (fun b o _ _ _ e n=>⟨o.slots,Gu b o e⟩)
    (fun b o _ e n=>?_) (fun b o _ e=>⟨o,Gu b o e⟩) (fun b xs e=>old b _ e) (fun b o u e=>old b _ e) (fun b ps e=>⟨#[],by rw[old b _ e];simp⟩) (fun m hm=>(hm.keeps hk).push _) (I.bA.laid Gu Gs (z_ ⟨dk,_,uK,c1,c2,cV _ rfl⟩)) I.bare
   .show upd _ _ _ _=_;rw[ak (aX (bV (hsz b o e) Gs))];exact n
  exact⟨.ref h'.objs.size,H2,I2,rfl,h _ c' H2 (.inr ⟨c',old _ _ hP,old _ _ FT⟩) (fun b o e _=>old b o e) (old _ _ FT) ef⟩
end
def Dr(X:Cx)(id:String)(ks:List Str)(r:St->List V->List V->Hp->VK->Prop):Prop:=
 ∀ (ae:List (Addr×Obj)) (s:Shared) (σ:St) (H:Hp) (vs zs:List V) (us ws:List Value) (Q:VK),aK X ae σ H s->aW vs us->aW zs ws->r σ vs zs H Q->
  wpAny (model X.prog X.w) X.A (call (.builtin id) us (ks.zip ws)) (EP X ae σ Q) X.xe s
def Ur(r:St->List V->List V->Hp->VK->Prop)(t tk:TA):TE:=fun σ H Q=>t σ H fun vs H1=>tk σ H1 fun zs H2=>r σ vs zs H2 Q
section
variable {X:Cx} {x:Str} {p pos:Pos} {e:Expr} {es:List Expr} {C2:List Keyword} {t tk:TA} {id:String} {ks:List Str} {r:St->List V->List V->Hp->VK->Prop}
theorem Bx(hc:Dr X id ks r)(hg:Gl X x)(hm:X.mg x=none)(hv:bootBuiltins x=some (.builtin id))(ha:PA X (e::es) t)(Z1:PK X C2 tk)(hn:x≠"__name__":=by decide)(Ba:(x==("__debug__":Str))=false:=by decide)(Z2:(backToKw pos (keywordEach C2 X.env)).filterMap (·.1)=ks:=by rfl)(he:backTo pos (starEach (e::es) X.env)=(false,eval e X.env)::backTo pos (starEach es X.env):=by rfl)(yC:(backTo pos (starEach (e::es) X.env)).any (·.1)=false:=by rfl)(rB:(backToKw pos (keywordEach C2 X.env)).all (·.1.isSome)=true:=by rfl)(KJ:(backToKw pos (keywordEach C2 X.env)).any (·.1.isNone)=false:=by rfl):PE X (.Call (.Name x p) (e::es) C2 pos) (Ur r t tk):=by
 intro ae s σ H Q I h;refine lc (jE I hg hm hv ?_ hn Ba);refine PyProof.Rows.callWith_kw (bZ (ha pos ae s σ H _ I h) fun us s1 ⟨vs,H1,I1,r1,q1⟩=>?_) he yC rB KJ;refine bZ (Z1 pos ae s1 σ H1 _ I1 q1) fun ws s2 ⟨zs,H2,I2,rz,q2⟩=>?_;rw[Z2];exact hc ae s2 σ H2 vs zs us ws Q I2 r1 rz q2
end
def KM(za zb:Int)(ns out:List Int):Prop:=∃ps:List (Int×Int),ps.Perm (ns.map fun z=>((z-za) % zb,z))/\out=ps.map (·.2)/\ps.Pairwise fun p q=>p.1<=q.1
def KN(X:Cx)(qual:Str)(params:Arguments)(body:Expr)(scope:Scope)(ia ib:Nat):St->List V->List V->Hp->VK->Prop:=fun σ vs zs H Q=>
 ∃ (l f c:Addr) (ns:List Int) (za zb:Int),vs=[.ref l]/\zs=[.ref f]/\aU X.K H l (ns.map V.int)/\ns.length<64/\H f=some (qk f qual params body scope X.env.cells c)/\H c=some (oq c qual)/\
  σ[ia]?=some (some (.int za))/\σ[ib]?=some (some (.int zb))/\0<zb/\∀ (r:Addr) (out:List Int),H r=none->KM za zb ns out->Q (.ref r) (upd H r (.lst (out.map V.int)))
theorem sw:∀ {ns:List Int} {vs:List Value},aW (ns.map V.int) vs->IntsAre vs ns
 |[],_,.nil=>.nil
 |_::_,_,.cons ⟨t,e⟩ r=>by subst e;exact .cons _ t (sw r)
structure OJ(X:Cx)(qual:Str)(params:Arguments)(body:Expr)(scope:Scope)(y a b:Str)(ia ib:Nat):Prop where
 bd:∃p1 p2 p3 p4 p5,body=.BinOp (.BinOp (.Name y p1) .Sub (.Name a p2) p3) .Mod (.Name b p4) p5
 bind:∀dk pm c uK v,bindArgs (PySem.W.kla_fn "<lambda>" qual params body scope dk pm (.ref c) uK) ⟨[v],[]⟩=pure [(y,v)]
 na:X.N[ia]?=some a
 nb:X.N[ib]?=some b
 ca:X.env.scope.names.lookup a=some .cell
 cb:X.env.scope.names.lookup b=some .cell
 ly:scope.names.lookup y=some .local
 fa:scope.names.lookup a=some .free
 fb:scope.names.lookup b=some .free
 ma:(a,NameKind.free)∈scope.names
 mb:(b,NameKind.free)∈scope.names
 uL:∀z∈scope.names,z.2≠.cell
 kind:scope.kind=.function
 co:scope.isCoroutine=false
 gen:scope.isGenerator=false
 dy:(y==("__debug__":Str))=false
 da:(a==("__debug__":Str))=false/\(a==("__classdict__":Str))=false
 db:(b==("__debug__":Str))=false/\(b==("__classdict__":Str))=false
theorem yQ(S:OJ X qual params body scope y a b ia ib)(hr:bW k X.A):
  Dr X "sorted" ["key"] (KN X qual params body scope ia ib):=by
 intro ae s σ H vs zs us ws Q I r rz h;obtain⟨l,f,c,ns,za,zb,rfl,rfl,hl,Us,hf,hc,sa,sb,hb0,q⟩:=h;obtain⟨u1,rfl,r1⟩:=r.one;obtain rfl:u1=Value.ref l:=r1;obtain⟨w1,rfl,Z3⟩:=rz.one;obtain rfl:w1=Value.ref f:=Z3;obtain⟨its,rv,pl,hz⟩:=I.list hl;have hI:=sw rv;obtain⟨m,F⟩:=I.fr;obtain⟨p1,p2,p3,p4,p5,rfl⟩:=S.bd;obtain⟨dk,pm,uK,c1,c2,KA⟩:=(I.bA f _ hf).1;have Ut:s.heap.CodeRec (.ref c) qual:=(I.bA c _ hc).1;obtain⟨m',Xe,XG⟩:=I.loc;have OL:∃ca ta,dk.lookup a=some ca/\s.heap.IsCell ca (some (.int za ta)):=by
  obtain⟨u,⟨ta,rfl⟩,lk⟩:=XG ia a (.int za) S.na sa (.inr (.inl S.ca));obtain⟨ca,e1⟩:=c2 a S.ma;rcases lk with ⟨z,_⟩|⟨_,ca',e2,e3⟩
  .have z':X.env.scope.names.lookup a=some .local:=z;rw[S.ca] at z';cases z'
  .have e4:=c1 a ca e1;rw[e2] at e4;cases e4;exact⟨ca,ta,e1,e3⟩
 have OM:∃cb tb,dk.lookup b=some cb/\s.heap.IsCell cb (some (.int zb tb)):=by
  obtain⟨u,⟨tb,rfl⟩,lk⟩:=XG ib b (.int zb) S.nb sb (.inr (.inl S.cb));obtain⟨cb,e1⟩:=c2 b S.mb;rcases lk with ⟨z,_⟩|⟨_,cb',e2,e3⟩
  .have z':X.env.scope.names.lookup b=some .local:=z;rw[S.cb] at z';cases z'
  .have e4:=c1 b cb e1;rw[e2] at e4;cases e4;exact⟨cb,tb,e1,e3⟩
 obtain⟨ca,ta,ea,ha⟩:=OL;obtain⟨cb,tb,eb,hb⟩:=OM;have RQ:∀b' (o:Obj),s.heap.get? b'=some o->(∀es ep,o.data≠.dict es ep)->b'≠X.env.locals:=fun b' o e d z=>by
  obtain⟨o',es,ep,e',d',_⟩:=F.ns;rw[z,e'] at e;cases e;exact d _ _ d'
 have len:(ns.map fun z=>(z-za) % zb).length=its.length:=by rw[aO,hI.length]
 refine ksk_sorted (b:=false) (f:=.ref f) (kz:=ns.map fun z=>(z-za) % zb) F CI pl.isList len (by rw[hI.length];exact Us) (ksk_s1 _ _) (fun x=>ksk_l1 _ _) (fun x=>ksk_t1 _ _) ?_ ?_
 .-- one key
  intro i v k hv hk h tk own F' N';have at_:∀b' u,b'≠X.env.locals->s.heap.get? b'=some u->h.get? b'=some u:=fun b' u jn e=>by
   cases z:X.base.get? b' with
   |some o=>
    have:=I.bk b' o z;rw[e] at this;cases this;exact F'.keep b' _ z
   |none=>exact(N' (b',u) (gW _ (jC jn z e))).1
  have Uu:=at_ f _ (RQ f _ KA (by intro es ep z;cases z)) KA;have Uv:h.CodeRec (.ref c) qual:=by
   obtain⟨c0,o,XH,t0,e0,ho,hd,Z4⟩:=Ut;refine⟨c0,o,XH,t0,e0,at_ _ _ (RQ _ _ ho (by rw[hd];intro es ep z;cases z)) ho,hd,Z4⟩
  have TW:h.IsCell ca (some (.int za ta)):=by
   obtain⟨o,ho,hd⟩:=ha;exact⟨o,at_ _ _ (RQ _ _ ho (by rw[hd];intro es ep z;cases z)) ho,hd⟩
  have oI:h.IsCell cb (some (.int zb tb)):=by
   obtain⟨o,ho,hd⟩:=hb;exact⟨o,at_ _ _ (RQ _ _ ho (by rw[hd];intro es ep z;cases z)) ho,hd⟩
  obtain⟨z,tz,rfl,rfl⟩:∃z tz,v=.int z tz/\k=(z-za) % zb:=by
   obtain⟨n,t,e⟩:=hI.all v (dP hv);refine⟨n,t,e,?_⟩;rw[bn] at hk;have hn:=hI.nums;have e1:(its.map numOf)[i]?=some n:=by rw[bn,hv,e];rfl
   rw[hn] at e1;rw[e1] at hk;exact(bR hk).symm
  have Ds:X.A.in1.in1.depth<recursionLimit:=by
   have:=hr.dp;show X.A.depth<_;lia
  refine m4 (PySem.W.kla_callFunE Ds Uu rfl S.co S.gen rfl Uv ?_);rw[S.bind];refine wpAny_pure (wpAny_newFunctionEnv S.uL (fun x hx=>by rw[bS.mp hx];exact S.ly) (fun h₁ KO ON=>⟨((I.ok.mod.nolimit).keeps F'.keep).fresh _ ON,?_⟩) S.kind);have KP:∀b o,h.get? b=some o->h₁.get? b=some o:=fun b o e=>ON.extBut b o (aX (aY e)) (cq _ e);have Z5:=TW.keeps KP;have Z6:=oI.keeps KP;refine PySem.W.kla_codeExpr ?_;refine wpAny_BinOp (wpAny_BinOp ?_);refine m5 (xR S.kind S.ly KO (v:=.int z tz) (by simp) ?_) S.dy;refine m5 (xW S.kind S.fa ea Z5 ?_ S.da.2) S.da.1;refine sub_int ?_;refine m5 (xW S.kind S.fb eb Z6 ?_ S.db.2) S.db.1;refine mod_int' (by lia) ?_;rw[Cw _ (by lia)];refine KskEnd.intro (news':=iN X.base s.heap X.env.locals++own) ⟨F'.ns.keeps KP,fun b o e=>KP b o (F'.keep b o e),F'.above⟩ (fun p hp=>⟨KP _ _ (N' p hp).1,(N' p hp).2⟩) fun p hp=>hp
 .-- ZV list
  intro D h' tk out cc F' N' et Uw;have hD:=rC I N' et;obtain⟨ps,hp,ho,hs⟩:=Uw;have Gh:∀p∈ps,∃n t,p.2=.int n t:=fun p Ji=>by
   have:=hp.mem_iff.mp Ji;exact hI.all _ (mY this).2
  have Ux:((ns.map fun z=>(z-za) % zb).zip its).map (fun p=>(p.1,numOf p.2))=ns.map fun z=>((z-za) % zb,z):=by
   have hn:=hI.nums;rw[<-hn];have go:∀ (l:List Value),((((l.map numOf).map fun z=>(z-za) % zb).zip l).map fun p=>(p.1,numOf p.2))=(l.map numOf).map fun z=>((z-za) % zb,z):=by
    intro l;induction l with
    |nil=>rfl
    |cons x l ih=>simp only[cW,List.zip_cons_cons,ih]
   exact go its
  have C8:aW ((ps.map fun p=>(p.1,numOf p.2)).map (fun p=>V.int p.2)) (ps.map Prod.snd):=by
   have go:∀ (l:List (Int×Value)),(∀p∈l,∃n t,p.2=.int n t)->aW ((l.map fun p=>(p.1,numOf p.2)).map (fun p=>V.int p.2)) (l.map Prod.snd):=by
    intro l;induction l with
    |nil=>intro _;exact .nil
    |cons x l ih=>
     intro hx;refine .cons ?_ (ih fun p hp=>hx p (cC _ hp));obtain⟨n,t,e⟩:=hx x b9;show ∃t,x.2=Value.int (numOf x.2) t;rw[e];exact⟨t,rfl⟩
   exact go ps Gh
  have By:KM za zb ns ((ps.map fun p=>(p.1,numOf p.2)).map (·.2)):=by
   refine⟨ps.map fun p=>(p.1,numOf p.2),?_,rfl,?_⟩
   .rw[<-Ux];exact hp.map _
   .refine ip.mpr (hs.imp fun {p q} z=>?_);simpa using z
  have Z7:h'.get? D=some (seqObj "list" out cc):=(N' _ b9).1;have I2:aK X ae σ (upd H D (.lst (((ps.map fun p=>(p.1,numOf p.2)).map (·.2)).map V.int))) { s with heap:=h',toks:=tk }:=by
   refine I.Ox F F' (fun p hp=>N' p (cC _ hp)) hD ⟨?_,ps.map Prod.snd,cc,?_,?_⟩
   .have h1:=hp.length_eq;rw[List.length_zip,len,Nat.min_self] at h1;simp only[aO];rw[h1,hI.length];exact bB (dG Us) (by decide)
   .have ev:=C8;simp only[fL] at ev |-;exact ev
   .rw[Z7,<-ho]
  exact⟨.ref D,_,I2,rfl,q D _ (I.bA.uF hD) By⟩
def rD(mg:Str->Option Value)(base:Heap):Prop:=∃bm o,mg "__builtins__"=some (.ref bm)/\bm≠builtinsNs/\bm≠mainGlobals/\base.get? bm=some o/\o.cls=.type "module"/\o.dict=some builtinsNs/\o.data=.plain
def Aa(ts:List Addr)(H:Hp):Prop:=(∀P∈ts,H P=some (.m6 #[]))/\∀b,H b=none\/(b∈ts/\H b=some (.m6 #[]))\/∃o xs,H b=some (.iF o (.lst xs))
theorem Bz{P:Program}{w:World}{K:PySem.W.Frag}{mg mb:Str->Option Value}{CX:vK}{k:Nat}{fa a:Addr}{fd:FuncData}{x:Str}{sp:Sp}{s₁:Shared}{vs:List Value}{ns:List Int}{ts:List Addr}(KX:K.In s₁.heap)(KO:s₁.heap.Ns mainGlobals mg)(hb:s₁.heap.Ns builtinsNs mb)(Z8:∀x:Str,x≠"__name__"->mb x=bootBuiltins x)(Uy:s₁.heap.NoLimit)(hg:s₁.gens=#[])(Z9:rD mg s₁.heap)(Ab:∀P∈ts,s₁.heap.get? P=some (PySem.W.tabObj #[]))(rQ:∀P∈ts,∃c,PySem.W.codeHdIn K c P=true)(Uz:∀P∈ts,K.lookup P=none)(ha:s₁.heap.get? a=some { cls:=.type "list",data:=.seq vs.toArray })(hi:IntsAre vs ns)(hl:ns.length<=sizeLine)(hr:bW k callerA)(F:∀base:Heap,K.In base->base.Ns mainGlobals mg->rD mg base->br P w K mg base CX k fa fd [x] sp)(OO:∀ (s:Shared) (u:Value),BindsTo s fd ⟨[u],[]⟩ [(x,u)])(Fy:∀H:Hp,Aa ts H->aU K H a (ns.map V.int)->sp [.ref a] H (fun v _=>v=.bl true) fun _ _ _=>False)(UA:∀H e s',CX [] H s₁ (fun _ _ _=>False) e s'->False):
  codeAny (model P w) callerA (.call (.ref fa) ⟨[.ref a],[]⟩) (fun r s'=>r=.ok (.ret (.bool true))/\OldK s₁.heap s'.heap/\s'.os=s₁.os/\AllBare s'.gens) s₁:=by
 have rv:=si hi;have UB:=hi.length;have XI:a∉ts:=fun z=>by
  have:=Ab a z;rw[ha] at this;cases this
 have OP:∀H:Hp,Aa ts H->aU K H a (ns.map V.int)->iM P w H s₁.heap->(∀b,H b≠none->b=a\/b∈ts)->(H a≠none->K.lookup a=none)->
   codeAny (model P w) callerA (.call (.ref fa) ⟨[.ref a],[]⟩) (fun r s'=>r=.ok (.ret (.bool true))/\OldK s₁.heap s'.heap/\s'.os=s₁.os/\AllBare s'.gens) s₁:=by
  intro H hO hS bA hA hK;have uM:∀ {b:Addr} {o:Obj},s₁.heap.get? b=some o->H b=none->(rp s₁.heap H).get? b=some o:=fun e n=>CG e n;have Na:∀ {b:Addr} {o:Obj},s₁.heap.get? b=some o->(∀v n,o.data≠.seq v n)->(∀v,o.data≠.fields v)->H b=none:=fun {b o} e d1 d2=>by
   cases q:H b with
   |none=>rfl
   |some u=>
    rcases hA b (by rw[q];simp) with e'|e'
    .subst e';rw[ha] at e;cases e;exact absurd rfl (d1 _ _)
    .rw[Ab b e'] at e;cases e;exact absurd rfl (d2 _)
  have RS:∀ {b:Addr} {m:Str->Option Value},s₁.heap.Ns b m->(rp s₁.heap H).Ns b m:=fun {b m} ⟨o,es,ep,e,d,r⟩=>⟨o,es,ep,uM e (Na e (by rw[d];intro v n z;cases z) (by rw[d];intro v z;cases z)),d,r⟩
  have XJ:K.In (rp s₁.heap H):=fun b o e=>uM (KX b o e) (by
   cases q:H b with
   |none=>rfl
   |some u=>
    rcases hA b (by rw[q];simp) with e'|e'
    .subst e';rw[hK (by rw[q];simp)] at e;cases e
    .rw[Uz b e'] at e;cases e)
  have hB:rD mg (rp s₁.heap H):=by
   obtain⟨bm,o,b1,b2,b3,b4,b5,b6,b7⟩:=Z9;exact⟨bm,o,b1,b2,b3,uM b4 (Na b4 (by rw[b7];intro v n z;cases z) (by rw[b7];intro v z;cases z)),b5,b6,b7⟩
  have hM:Mod K mg (rp s₁.heap H):=⟨XJ,RS KO,⟨mb,RS hb,Z8⟩,let ⟨mc,h1,h2⟩:=Uy;⟨mc,RS h1,h2⟩⟩
  have e0:vL P w K mg (rp s₁.heap H) callerA [] s₁ H:=⟨rfl,hM,fun b o e=>FQ e,ub (A4 _ _),trivial,fun b hb=>absurd (show b∈([]:List Addr) from hb) (by simp),bA,.of_eq hg⟩
  refine lA ((F _ XJ (RS KO) hB).run callerA [] s₁ H ⟨[.ref a],[]⟩ [.ref a] [.ref a] _ _ hr e0 (OO s₁ (.ref a)) (.cons rfl .nil) (Fy H hO hS)) fun r s' h=>?_;cases r with
  |error e=>exact(UA H e s' h).elim
  |ok fl=>
   cases fl with
   |next=>exact False.elim h
   |brk=>exact False.elim h
   |cont=>exact False.elim h
   |ret u=>
    obtain⟨v,H',os,bare,un,OQ,r',q⟩:=h;have q':v=.bl true:=q;subst q';obtain rfl:u=Value.bool true:=r';refine⟨rfl,⟨fun b o e=>?_,fun b o e=>un.there b o e (by simp)⟩,os,bare⟩;cases q:H b with
    |none=>exact .inl (un.keep b o e q (by intro z;exact absurd (show b∈([]:List Addr) from z) (by simp)) (by simp))
    |some u=>
     rcases hO.2 b with z|⟨zt,z⟩|⟨ob,xs,z⟩
     .rw[q] at z;cases z
     .obtain⟨more,z2⟩:=un.m9 b _ z;have e1:=Ab b zt;rw[e] at e1;cases e1;have e2:s'.heap.get? b=some { cls:=.none,data:=.fields (#[]++more) }:=OQ b _ z2;obtain⟨c,hc⟩:=rQ b zt;obtain⟨oc,Z_,_,_,_,_,_,_,_,g1,g2,g3,g4,_⟩:=PySem.W.codeHd_of_K KX hc;exact .inr (.inl ⟨⟨c,oc,Z_,g1,g2,g3,g4⟩,rfl,#[],more,rfl,e2⟩)
     .have z2:=un.m8 b ob _ z;obtain⟨e1,_⟩:=bA b _ z;obtain⟨e2,_⟩:=OQ b _ z2;rw[e] at e1;cases e1;exact .inl e2
 have XM:∀ (H:Hp),(∀P∈ts,H P=some (.m6 #[]))->True:=fun _ _=>trivial
 classical
 cases hk:K.lookup a with
 |some o=>
  have e:=KX a o hk;rw[ha] at e;cases e;refine OP (fun b=>if b∈ts then some (.m6 #[]) else none) ⟨fun P hP=>ao hP,fun b=>?_⟩ (.inr ⟨_,vs.toArray,_,hk,rfl,rfl,rfl,by rw[cu,UB];exact hl,by simpa using rv⟩) (fun b u z=>?_) (fun b z=>?_) fun z=>absurd (ap XI) z
  .by_cases hb:b∈ts
   .exact .inr (.inl ⟨hb,ao hb⟩)
   .exact .inl (ap hb)
  .by_cases hb:b∈ts
   .have z':=(ao hb).symm.trans z;cases z';exact Ab b hb
   .have z':=(ap hb).symm.trans z;cases z'
  .by_cases hb:b∈ts
   .exact .inr hb
   .exact absurd (ap hb) z
 |none=>
  refine OP (fun b=>if b=a then some (.iF { cls:=.type "list",data:=.seq vs.toArray } (.lst (ns.map V.int))) else if b∈ts then some (.m6 #[]) else none) ⟨fun P hP=>?_,fun b=>?_⟩ (.inl (.inr ⟨{ cls:=.type "list",data:=.seq vs.toArray },ao rfl⟩)) (fun b u z=>?_) (fun b z=>?_) fun _=>hk
  .have:P≠a:=fun z=>XI (z ▸ hP);show (if P=a then _ else if P∈ts then _ else _)=_;rw[ap this,ao hP]
  .by_cases hb:b=a
   .exact .inr (.inr ⟨_,_,ao hb⟩)
   .by_cases ht:b∈ts
    .exact .inr (.inl ⟨ht,by show (if b=a then _ else if b∈ts then _ else _)=_;rw[ap hb,ao ht]⟩)
    .exact .inl (by show (if b=a then _ else if b∈ts then _ else _)=_;rw[ap hb,ap ht])
  .by_cases hb:b=a
   .have z':=(ao hb).symm.trans z;cases z';subst hb;exact⟨ha,by rw[aO];exact hl,vs,_,rv,ha⟩
   .have z1:(if b∈ts then some (HO.m6 #[]) else none)=some u:=(ap hb).symm.trans z;by_cases ht:b∈ts
    .rw[ao ht] at z1;cases z1;exact Ab b ht
    .rw[ap ht] at z1;cases z1
  .by_cases hb:b=a
   .exact .inl hb
   .by_cases ht:b∈ts
    .exact .inr ht
    .exact absurd (by show (if b=a then _ else if b∈ts then _ else _)=_;rw[ap hb,ap ht]) z
theorem Dt{l:PySem.W.OpenLaw}{n k:Nat}{q:Program}{sg:List Str}{XP:(Str->Option Value)->Heap->Prop}{YP:World->Heap->Prop}{d:DefRec}{K:Params->PySem.W.Frag}{CX:World->vK}{sp:World->Sp}{x:Str}{ts:List Addr}(hn:l.most=some n)(RH:n<=sizeLine)(Ol:d.params.defaults=[])(hr:bW k callerA)(hY:∀ (w:World) (h:Heap),YP w h->(K w.params).In h)(hT:∀ (w:World) (h:Heap),YP w h->∀P∈ts,h.get? P=some (PySem.W.tabObj #[]))(rQ:∀ (w:World),∀P∈ts,∃c,PySem.W.codeHdIn (K w.params) c P=true)(Uz:∀ (w:World),∀P∈ts,(K w.params).lookup P=none)(F:∀ (w:World) (mg:Str->Option Value) (fa:Addr) (h:Heap),(K w.params).In h->h.Ns mainGlobals mg->mg d.name=some (.ref fa)->
   ∃fd:FuncData,(∀ (s:Shared) (u:Value),BindsTo s fd ⟨[u],[]⟩ [(x,u)])/\
    ∀base:Heap,(K w.params).In base->base.Ns mainGlobals mg->rD mg base->br l.prog w (K w.params) mg base (CX w) k fa fd [x] (sp w))(Fy:∀ (w:World) (H:Hp) (a:Addr) (ns:List Int),ns.length<=n->Aa ts H->aU (K w.params) H a (ns.map V.int)->sp w [.ref a] H (fun v _=>v=.bl true) fun _ _ _=>False)(UA:∀ (w:World) (H:Hp) (s:Shared) (e:Value) (s':Shared),CX w [] H s (fun _ _ _=>False) e s'->False):
  PySem.W.WalkO q sg XP YP l.row.toRowW d [] (fun f vs=>PySem.call f vs):=by
 refine Xo.vT hn Ol fun w s₀ s₁ mg mb fa o pm cd me a vs ns G Y ho hd aaa Om Kz C9 dY hg=>?_;have KX:=hY w _ Y;obtain⟨fd,hb,hF⟩:=F w mg fa _ KX G.T.g Om;have hB:rD mg s₁.heap:=by
  obtain⟨bm,ob,b1,b2,b3,b4,b5,b6⟩:=G.T.bmain;refine⟨bm,ob,b1,b2,fun z=>?_,b3,b4,b5,b6⟩;obtain⟨o',es,ep,e,J9,_⟩:=G.T.g;rw[z,e] at b3;cases b3;rw[J9] at b6;cases b6
 exact Bz KX G.T.g G.T.b G.T.builtins G.T.nolimit hg hB (hT w _ Y) (rQ w) (Uz w) Kz C9 (bB dY RH) hr hF hb (fun H hO hS=>Fy w H a ns dY hO hS) fun H e s'=>UA w H s₁ e s'
structure wg(K:PySem.W.Frag)(x qual:Str)(st:Stmt)(f:Addr)(fd:FuncData)(c:Addr):Prop where
 ex:∃ (oc:Value) (od:Option Addr) (kV me pm:Value) (an:Option Addr) (ct:Value) (xm:Array (Option Value)),
  fd=PySem.W.fnOf x qual (cQ st) (bT st) (am st) .none kV me pm an (.ref c) ct/\K.lookup f=some ⟨oc,od,.func fd,xm⟩/\PySem.W.codeIn K (.ref c) qual=true
 kp:PySem.W.keepIn K (.ref f)=true
theorem wg.fun{K:PySem.W.Frag}{x qual:Str}{st:Stmt}{f:Addr}{fd:FuncData}{c:Addr}(F:wg K x qual st f fd c):fQ K x qual st f fd:=by
 obtain⟨oc,od,kV,me,pm,an,ct,xm,e,lk,rQ⟩:=F.ex;exact⟨⟨oc,od,kV,me,pm,an,_,ct,xm,e,lk,rQ⟩,F.kp⟩
section
variable {P:Program} {w:World} {K:PySem.W.Frag} {mg:Str->Option Value} {base:Heap}
theorem wg.ok{x qual:Str}{st:Stmt}{f:Addr}{fd:FuncData}{c:Addr}{N ps:List Str}{k:Nat}{sp:Sp}(F:wg K x qual st f fd c)(S:aG N ps (am st))(len:∀vs H Q E,sp vs H Q E->vs.length=ps.length)(vN:∀ (A:Around) (outer:List Env) (s:Shared) (H:Hp) (vs:List V) (Q:VK) (E:XK),bW k (A.deeper (envOfC qual (am st) s.heap.objs.size f (.ref c)))->sp vs H Q E->
   ∃t,yj (uv aZ P w K mg base N qual (am st) f (.ref c) A outer s H E).I_ (bT st) t/\t { nx:=fun _ H'=>Q .bH H',rt:=Q } (start N vs) H):br P w K mg base aZ (k+1) f fd ps sp:=by
 obtain⟨oc,od,kV,me,pm,an,ct,xm,rfl,lk,rQ⟩:=F.ex;refine Jd lk rQ S len fun A outer s H vs Q E hr Fy=>?_;obtain⟨t,h,q⟩:=vN A outer s H vs Q E hr Fy;exact⟨t,h.I_,q⟩
theorem Gv{x qual:Str}{st:Stmt}{f c:Addr}{oc:Value}{od an:Option Addr}{xm:Array (Option Value)}{kV me pm ct:Value}(l:K.lookup f=some ⟨oc,od,.func (PySem.W.fnOf x qual (cQ st) (bT st) (am st) .none kV me pm an (.ref c) ct),xm⟩)(rQ:PySem.W.codeIn K (.ref c) qual=true)(kp:PySem.W.keepIn K (.ref f)=true):wg K x qual st f (PySem.W.fnOf x qual (cQ st) (bT st) (am st) .none kV me pm an (.ref c) ct) c:=⟨⟨oc,od,kV,me,pm,an,ct,xm,rfl,l,rQ⟩,kp⟩
theorem Ac(kb:K.In base)(hb:rD mg base)(hc:PySem.W.codeHdIn K c P'=true):
  Gr (uv CX P w K mg base N qual scope f (.ref c) A outer s H E).I_ c P':=⟨rfl,PySem.W.codeHd_of_K kb hc,hb⟩
end
def oZ(sc UC:Scope)(y:Str×NameKind):Bool:=match y.2 with
 |.cell=>(match sc.names.lookup y.1 with|some .cell=>true|_=>false)
 |.local=>(match sc.names.lookup y.1 with|some .local=>true|_=>false)
 |.free=>(match UC.names.lookup y.1 with|some .cell=>true|some .free=>true|_=>false)
 |_=>true
def Dv(NB:List Str)(src:List (Option Nat))(sc:Scope)(N:List Str)(i:Nat):Bool:=match NB[i]?,src[i]? with
 |some x,some (some j)=>(N[j]?==some x)&&(match sc.names.lookup x with|some .free=>true|_=>false)
 |_,_=>true
def Ad(sc:Scope):Bool:=match sc.kind with|.function=>true|_=>false
def Dw(NB:List Str)(src:List (Option Nat))(sc UC:Scope)(N:List Str):Bool:=
 Ad sc&&decide NB.Nodup&&(src.length==NB.length)&&(sc.names.all (oZ sc UC))&&(List.range NB.length).all (Dv NB src sc N)
theorem cg(h:Dw NB src sc X.env.scope X.N=true):gz NB src sc X:=by
 unfold Dw at h;simp only[eK,pN,gX,mW] at h;obtain⟨⟨⟨⟨h1,h2⟩,h3⟩,h4⟩,h5⟩:=h;refine⟨?_,h2,h3,fun y hy z=>?_,fun y hy z=>?_,fun y hy z=>?_,fun i x j e1 e2=>?_⟩
 .unfold Ad at h1;split at h1
  .assumption
  .cases h1
 .have:=h4 y hy;obtain⟨n,k⟩:=y;obtain rfl:k=.cell:=z;dsimp only[oZ] at this |-;split at this
  .assumption
  .cases this
 .have:=h4 y hy;obtain⟨n,k⟩:=y;obtain rfl:k=.local:=z;dsimp only[oZ] at this |-;split at this
  .assumption
  .cases this
 .have:=h4 y hy;obtain⟨n,k⟩:=y;obtain rfl:k=.free:=z;dsimp only[oZ] at this |-;split at this
  .exact .inl (by assumption)
  .exact .inr (by assumption)
  .cases this
 .have hi:i<NB.length:=(cK.mp e1).1;have:=h5 i (bN.mpr hi);unfold Dv at this;rw[e1,e2] at this;simp only[eK,gX] at this;refine⟨this.1,?_⟩;have t2:=this.2;split at t2
  .assumption
  .cases t2
theorem eX{K:PySem.W.Frag}{a D:Addr}{xs:List V}{g:TG}{tt:TT}{te:TE}{fin:Hp->Prop}{σB:St}{H0:Hp}(Pv:Nat->List V->St->Hp->Prop)(h0:Pv 0 [] σB H0)(hl:∀i ys σ H,i<=xs.length->Pv i ys σ H->aU K H a xs)(hs:∀i x ys σ H (Kt:V->St->Hp->Prop) (Kf:St->Hp->Prop),xs[i]?=some x->Pv i ys σ H->
   (∀v σ2 H4,H4 D=some (.lst ys)->ys.length<sizeLine->Pv (i+1) (ys++[v]) σ2 (upd H4 D (.lst (ys++[v])))->Kt v σ2 H4)->(∀σ2 H3,Pv (i+1) ys σ2 H3->Kf σ2 H3)->
   g x σ H fun σ2 H2=>tt σ2 H2 fun b H3=>if b=true then te σ2 H3 fun v H4=>Kt v σ2 H4 else Kf σ2 H3)(hd:∀ys σ H,Pv xs.length ys σ H->fin H):gZ (CP K a) g tt te D fin σB H0:=by
 refine⟨fun i m σ H=>m=xs.length-i/\i<=xs.length/\∃ys,Pv i ys σ H,⟨xs.length,by simp,df _,[],h0⟩,?_⟩;rintro i m σ H ⟨rfl,hi,ys,p⟩;have q:=hl i ys σ H hi p;by_cases et:i<xs.length
 .refine .inr ⟨⟨xs,xs[i],q,by simp[et]⟩,?_⟩;rintro x H' ⟨rfl,y⟩;exact hs i x ys σ _ (fun v σ2 H4=>∃ys,H4 D=some (.lst ys)/\ys.length<sizeLine/\∃m',m'<xs.length-i/\m'=xs.length-(i+1)/\i+1<=xs.length/\∃oJ,Pv (i+1) oJ σ2 (upd H4 D (.lst (ys++[v]))))
   (fun σ2 H3=>∃m',m'<xs.length-i/\m'=xs.length-(i+1)/\i+1<=xs.length/\∃oJ,Pv (i+1) oJ σ2 H3) (y xs q) p
   (fun v σ2 H4 z1 z2 z3=>⟨ys,z1,z2,_,by lia,rfl,et,_,z3⟩) (fun σ2 H3 z=>⟨_,by lia,rfl,et,_,z⟩)
 .have e:i=xs.length:=by lia
  subst e;exact .inl ⟨⟨xs,q,aL _⟩,hd ys σ H p⟩
theorem lM{lo:Int}{n:Nat}{D:Addr}{g:TG}{tt:TT}{te:TE}{fin:Hp->Prop}{σB:St}{H0:Hp}(Pv:Nat->List V->St->Hp->Prop)(h0:Pv 0 [] σB H0)(hs:∀i ys σ H (Kt:V->St->Hp->Prop) (Kf:St->Hp->Prop),i<n->Pv i ys σ H->
   (∀v σ2 H4,H4 D=some (.lst ys)->ys.length<sizeLine->Pv (i+1) (ys++[v]) σ2 (upd H4 D (.lst (ys++[v])))->Kt v σ2 H4)->(∀σ2 H3,Pv (i+1) ys σ2 H3->Kf σ2 H3)->
   g (.int (lo+i)) σ H fun σ2 H2=>tt σ2 H2 fun b H3=>if b=true then te σ2 H3 fun v H4=>Kt v σ2 H4 else Kf σ2 H3)(hd:∀ys σ H,Pv n ys σ H->fin H):gZ (Jb lo n) g tt te D fin σB H0:=by
 refine⟨fun i m σ H=>m=n-i/\i<=n/\∃ys,Pv i ys σ H,⟨n,by simp,df _,[],h0⟩,?_⟩;rintro i m σ H ⟨rfl,hi,ys,p⟩;by_cases et:i<n
 .refine .inr ⟨et,?_⟩;rintro x H' ⟨rfl,rfl⟩;exact hs i ys σ _ (fun v σ2 H4=>∃ys,H4 D=some (.lst ys)/\ys.length<sizeLine/\∃m',m'<n-i/\m'=n-(i+1)/\i+1<=n/\∃oJ,Pv (i+1) oJ σ2 (upd H4 D (.lst (ys++[v]))))
   (fun σ2 H3=>∃m',m'<n-i/\m'=n-(i+1)/\i+1<=n/\∃oJ,Pv (i+1) oJ σ2 H3) et p
   (fun v σ2 H4 z1 z2 z3=>⟨ys,z1,z2,_,by lia,rfl,et,_,z3⟩) (fun σ2 H3 z=>⟨_,by lia,rfl,et,_,z⟩)
 .have e:i=n:=by lia
  subst e;exact .inl ⟨aL _,hd ys σ H p⟩
section
variable {κ:Type} [DecidableEq κ]
def iz(kvs:List (κ×V))(k:κ):Option V:=(kvs.find? fun kv=>decide (kv.1=k)).map (·.2)
def fS(kvs:List (κ×V))(k:κ)(v:V):List (κ×V):=
 if (kvs.any fun kv=>decide (kv.1=k))=true then kvs.map (fun kv=>if kv.1=k then (kv.1,v) else kv) else kvs++[(k,v)]
theorem jL{p:κ×V}{r:List (κ×V)}{k:κ}(e:p.1=k):iz (p::r) k=some p.2:=by simp[iz,lj,e]
theorem jM{p:κ×V}{r:List (κ×V)}{k:κ}(e:¬ p.1=k):iz (p::r) k=iz r k:=by simp[iz,lj,e]
theorem ql(k:κ):∀kvs:List (κ×V),(kvs.any fun kv=>decide (kv.1=k))=(iz kvs k).isSome
 |[]=>rfl
 |p::r=>by
  rw[jy];by_cases e:p.1=k
  .simp only[jL e,bJ e,Bool.true_or,Option.isSome_some]
  .rw[jM e,cE e,Bool.false_or];exact ql k r
theorem g7(kvs:List (κ×V))(k:κ)(v:V):(fS kvs k v).length<=kvs.length+1:=by
 unfold fS;split
 .rw[aO];lia
 .rw[cr,cw,tV];lia
theorem mq{kvs:List (κ×V)}{k:κ}(v:V)(h:iz kvs k=none):fS kvs k v=kvs++[(k,v)]:=by
 unfold fS;rw[ql,h];exact ap (by decide)
theorem kA.nG(r:kA o u):o.isSome=u.isSome:=by
 cases o with
 |none=>cases u with
  |none=>rfl
  |some _=>exact(show False from r).elim
 |some _=>cases u with
  |none=>exact(show False from r).elim
  |some _=>rfl
theorem KV.val{kvs:List (κ×V)}{vs:List (κ×Value)}(r:KV kvs vs)(k:κ):kA (iz kvs k) (valueAt vs k):=by
 unfold KV at r;induction r with
 |nil=>exact True.intro
 |@cons p q ps qs h t ih=>
  obtain⟨h1,h2⟩:=h;by_cases e:p.1=k
  .have e':q.1=k:=h1.symm.trans e;have b:valueAt (q::qs) k=some q.2:=by simp[valueAt,lj,e']
   rw[jL e,b];exact h2
  .have e':¬ q.1=k:=fun z=>e (h1.trans z);have b:valueAt (q::qs) k=valueAt qs k:=by simp[valueAt,lj,e']
   rw[jM e,b];exact ih
theorem KV.any{kvs:List (κ×V)}{vs:List (κ×Value)}(r:KV kvs vs)(k:κ):(kvs.any fun kv=>decide (kv.1=k))=vs.any fun kv=>decide (kv.1=k):=by
 unfold KV at r;induction r with
 |nil=>rfl
 |cons h t ih=>rw[jy,jy,ih,h.1]
theorem KV.KQ{kvs:List (κ×V)}{vs:List (κ×Value)}(r:KV kvs vs)(k:κ){y:V}{u:Value}(ry:be y u):
  KV (kvs.map fun kv=>if kv.1=k then (kv.1,y) else kv) (vs.map fun kv=>if kv.1=k then (kv.1,u) else kv):=by
 unfold KV at r |-;induction r with
 |nil=>exact .nil
 |@cons p q ps qs h t ih=>
  rw[cW,cW];refine .cons ?_ ih;obtain⟨h1,h2⟩:=h;by_cases e:p.1=k
  .rw[ao e,ao (h1.symm.trans e)];exact⟨h1,ry⟩
  .rw[ap e,ap (fun z=>e (h1.trans z))];exact⟨h1,h2⟩
theorem KV.put{kvs:List (κ×V)}{vs:List (κ×Value)}(r:KV kvs vs)(k:κ){y:V}{u:Value}(ry:be y u):KV (fS kvs k y) (stored vs k u):=by
 unfold fS stored;rw[r.any k];by_cases e:(vs.any fun kv=>decide (kv.1=k))=true
 .rw[ao e,ao e];exact r.KQ k ry
 .rw[ap e,ap e];exact Paired.snoc r ⟨rfl,ry⟩
theorem KV.keys{kvs:List (κ×V)}{vs:List (κ×Value)}(r:KV kvs vs):kvs.map (·.1)=vs.map (·.1):=by
 unfold KV at r;induction r with
 |nil=>rfl
 |cons h t ih=>rw[cW,cW,ih,h.1]
theorem KV.length{kvs:List (κ×V)}{vs:List (κ×Value)}(r:KV kvs vs):kvs.length=vs.length:=Paired.length r
end
theorem sA(r:be (kV k) u):(bq P w).is k u=true:=by
 cases k with
 |inl i=>obtain⟨t,e⟩:=(show ∃t,u=Value.int i t from r);subst e;exact vy P w i t
 |inr x=>obtain⟨t,e⟩:=(show ∃t,u=Value.str x t from r);subst e;exact vz P w x t
theorem sB:∀ {ks:List dq} {us:List Value},aW (ks.map kV) us->ItemsAre (bq P w) ks us
 |[],_,r=>by rw[lw] at r;cases r;exact .nil
 |k::ks,_,r=>by
  rw[cW] at r;cases r with
  |cons h t=>exact .cons (sA h) (sB t)
abbrev KT(H:Hp):List (List dq×V)->List (List dq×Addr×Value)->Prop:=Paired fun p q=>p.1=q.1/\H q.2.1=some (.tup (p.1.map kV))/\be p.2 q.2.2
theorem KT.val{H:Hp}{kvs:List (List dq×V)}{xs:List (List dq×Addr×Value)}(r:KT H kvs xs)(k:List dq):kA (iz kvs k) ((atKey xs k).map (·.2)):=by
 induction r with
 |nil=>exact True.intro
 |@cons p q ps qs h t ih=>
  obtain⟨h1,_,h2⟩:=h;by_cases e:p.1=k
  .have e':q.1=k:=h1.symm.trans e;have b:atKey (q::qs) k=some q.2:=by simp[atKey,lj,e']
   rw[jL e,b];exact h2
  .have e':¬ q.1=k:=fun z=>e (h1.trans z);have b:atKey (q::qs) k=atKey qs k:=by simp[atKey,lj,e']
   rw[jM e,b];exact ih
theorem KT.KQ(r:KT H kvs xs)(k:List dq)(ry:be y u):
  KT H (kvs.map fun kv=>if kv.1=k then (kv.1,y) else kv) (xs.map (putAt k u)):=by
 induction r with
 |nil=>exact .nil
 |@cons p q ps qs h t ih=>
  rw[cW,cW];refine .cons ?_ ih;obtain⟨h1,h2,h3⟩:=h;unfold putAt;by_cases e:p.1=k
  .rw[ao e,ao (h1.symm.trans e)];exact⟨h1,h2,ry⟩
  .rw[ap e,ap (fun z=>e (h1.trans z))];exact⟨h1,h2,h3⟩
theorem KT.put(r:KT H kvs xs)(k:List dq)(hb:H b=some (.tup (k.map kV)))(ry:be y u):
  KT H (fS kvs k y) (storedH xs k b u):=by
 have e:(kvs.any fun kv=>decide (kv.1=k))=(atKey xs k).isSome:=by
  rw[ql,(r.val k).nG,Option.isSome_map]
 unfold fS storedH;rw[e];by_cases q:(atKey xs k).isSome=true
 .rw[ao q,ao q];exact r.KQ k ry
 .rw[ap q,ap q];exact Paired.snoc r ⟨rfl,hb,ry⟩
theorem KT.keeps(r:KT H kvs xs)(ht:∀b ys,H b=some (.tup ys)->H' b=some (.tup ys)):KT H' kvs xs:=
 Paired.J1 r fun _ _ z=>⟨z.1,ht _ _ z.2.1,z.2.2⟩
section
variable {P:Program} {w:World} {H:Hp} {h:Heap} {a:Addr}
theorem Jp(ok:iM P w H h)(e:Rd H a u):bQ P w H h a u:=e.ok ok
theorem wm(ok:iM P w H h)(e:Rd H a (.dK kvs)):kvs.length<=sizeLine/\(a==sysModules)=false/\∃vs,KV kvs vs/\h.DictOf (bq P w) a vs:=
 show bQ P w H h a (.dK kvs) from Jp ok e
theorem Dx{kvs:List (dq×V)}(ok:iM P w H h)(e:H a=some (.dK kvs)):kvs.length<=sizeLine/\(a==sysModules)=false/\∃vs,KV kvs vs/\h.DictOf (bq P w) a vs:=wm ok (.inl e)
theorem lN(ok:iM P w H h)(e:H a=some (.tup (ks.map kV))):(tupleKind (bq P w)).is h ks a:=by
 obtain⟨_,its,r,o,h1,h2,n,h3,_⟩:=(show bQ P w H h a (.tup (ks.map kV)) from ok a _ e)
 exact⟨o,its.toArray,n,h1,h2,h3,by simpa using sB r⟩
theorem Ae(ok:iM P w H h)(e:Rd H a (.dT kvs)):kvs.length<=sizeLine/\(a==sysModules)=false/\
  ∃xs,KT H kvs xs/\h.DictOfH (tupleKind (bq P w)) a xs:=by
 obtain⟨z,y,xs,r,o,es,ep,h1,h2,h3,h4,h5⟩:=(show bQ P w H h a (.dT kvs) from Jp ok e)
 refine⟨z,y,xs,r,o,es,ep,h1,h2,h3,h4,fun x hx=>?_,h5⟩;have all:∀ {l:List (List dq×V)} {m:List (List dq×Addr×Value)},KT H l m->∀x∈m,(tupleKind (bq P w)).is h x.1 x.2.1:=by
  intro l m q;induction q with
  |nil=>intro x hx;exact nomatch hx
  |@cons p q ps qs hq t ih=>
   intro x hx;rcases bK.mp hx with e|hx
   .subst e;exact lN ok (by rw[<-hq.1];exact hq.2.1)
   .exact ih x hx
 exact all r x hx
theorem OR{kvs:List (List dq×V)}(ok:iM P w H h)(e:H a=some (.dT kvs)):kvs.length<=sizeLine/\(a==sysModules)=false/\
  ∃xs,KT H kvs xs/\h.DictOfH (tupleKind (bq P w)) a xs:=Ae ok (.inl e)
end
def iT(H:Hp)(a:Addr)(y:V)(r:Option V):Prop:=
 (∃kvs k,Rd H a (.dK kvs)/\y=kV k/\r=iz kvs k)\/∃kvs k b,Rd H a (.dT kvs)/\y=.ref b/\H b=some (.tup (k.map kV))/\r=iz kvs k
def qm(H:Hp)(a:Addr)(y v:V)(H':Hp):Prop:=
 (∃kvs k,H a=some (.dK kvs)/\y=kV k/\kvs.length<sizeLine/\H'=upd H a (.dK (fS kvs k v)))\/
 ∃kvs k b,H a=some (.dT kvs)/\y=.ref b/\H b=some (.tup (k.map kV))/\kvs.length<sizeLine/\H'=upd H a (.dT (fS kvs k v))
theorem iT.k{H:Hp}{a:Addr}{kvs:List (dq×V)}{k:dq}(e:H a=some (.dK kvs)):iT H a (kV k) (iz kvs k):=.inl ⟨kvs,k,.inl e,rfl,rfl⟩
theorem iT.t(e:H a=some (.dT kvs))(eb:H b=some (.tup (k.map kV))):iT H a (.ref b) (iz kvs k):=.inr ⟨kvs,k,b,.inl e,rfl,eb,rfl⟩
theorem qm.k{H:Hp}{a:Addr}{kvs:List (dq×V)}{k:dq}{v:V}(e:H a=some (.dK kvs))(hl:kvs.length<sizeLine):qm H a (kV k) v (upd H a (.dK (fS kvs k v))):=.inl ⟨kvs,k,e,rfl,hl,rfl⟩
theorem qm.t{H:Hp}{a b:Addr}{kvs:List (List dq×V)}{k:List dq}{v:V}(e:H a=some (.dT kvs))(eb:H b=some (.tup (k.map kV)))(hl:kvs.length<sizeLine):
  qm H a (.ref b) v (upd H a (.dT (fS kvs k v))):=.inr ⟨kvs,k,b,e,rfl,eb,hl,rfl⟩
section
variable {X:Cx} {ae:List (Addr×Obj)} {σ:St} {H:Hp} {s:Shared} {a:Addr} {y v:V} {u r:Value} {o:Option V} {A:Around} {E:Value->Shared->Prop}
theorem aK.big(I:aK X ae σ H s):sysModules<s.heap.objs.size:=by
 have h:mainGlobals<s.heap.objs.size:=(I.mod.glob.keeps I.bk).lt;exact pU (by decide) h
theorem BA{Q:Value->Shared->Prop}(hu:A.units+1<cLine)(I:aK X ae σ H s)(g:iT H a y (some v))(ry:be y u)(h:∀w' s',aK X ae σ H s'->be v w'->Q w' s'):
  wpAny (model X.prog X.w) A (getItem (.ref a) u) Q E s:=by
 rcases g with ⟨kvs,k,e,ey,l⟩|⟨kvs,k,b,e,ey,eb,l⟩
 .subst ey;obtain⟨z,hd,vs,rf,dd⟩:=wm I.bA e;obtain⟨w',hw,F8⟩:=kA.some_of (v:=v) (o:=valueAt vs k) (by rw[l];exact rf.val k);exact wpAny_getItem_of (sA ry) dd.mapOf hw (h w' _ (I.tok _) F8)
 .subst ey;cases (show u=Value.ref b from ry);obtain⟨z,hd,xs,rf,dd⟩:=Ae I.bA e;obtain⟨w',hw,F8⟩:=kA.some_of (v:=v) (o:=(atKey xs k).map (·.2)) (by rw[l];exact rf.val k);obtain⟨p,hp,UD⟩:=pj.mp hw;refine wpAny_getItem_heap (x_ hu) (lN I.bA eb) dd hp ?_;rw[UD];exact h w' _ (I.tok _) F8
theorem Gw{Q:Value->Shared->Prop}(hu:A.units+1<cLine)(I:aK X ae σ H s)(g:iT H a y o)(ry:be y u)(h:∀s',aK X ae σ H s'->Q (.bool (!o.isSome)) s'):
  wpAny (model X.prog X.w) A (compareOp .NotIn u (.ref a)) Q E s:=by
 rcases g with ⟨kvs,k,e,ey,l⟩|⟨kvs,k,b,e,ey,eb,l⟩
 .subst ey;obtain⟨z,hd,vs,rf,dd⟩:=wm I.bA e;refine wpAny_notIn_of (sA ry) hd dd.mapOf ?_;rw[<-(rf.val k).nG,<-l];exact h _ (I.tok _)
 .subst ey;cases (show u=Value.ref b from ry);obtain⟨z,hd,xs,rf,dd⟩:=Ae I.bA e;refine wpAny_notIn_heap (x_ hu) (lN I.bA eb) hd dd ?_;have q:=(rf.val k).nG;rw[Option.isSome_map] at q;rw[<-q,<-l];exact h _ (I.tok _)
theorem uN{h':Heap}{t':Nat}{ob:HO}(I:aK X ae σ H s)(mu:NI (H a))(hs:Heap.SameBut a s.heap h')(he:∃q,h'.get? a=some q)(new:bQ X.prog X.w (upd H a ob) h' a ob):
  aK X ae σ (upd H a ob) { s with heap:=h',toks:=t' }:=
 I.write (x:=a) (e:=a) mu (.inl rfl) (fun b q hb z=>(hs.2 b hb).trans z) he new
theorem Dy{P:Program}{w:World}{H':Hp}{h':Heap}{kvs:List (dq×V)}{vs:List (dq×Value)}(z:kvs.length<=sizeLine)(hd:(a==sysModules)=false)(rf:KV kvs vs)(dd:h'.DictOf (bq P w) a vs):
  bQ P w H' h' a (.dK kvs):=⟨z,hd,vs,rf,dd⟩
theorem BB{H':Hp}{Q:Unit->Shared->Prop}(hu:A.units+1<cLine)(I:aK X ae σ H s)(g:qm H a y v H')(ry:be y u)(rv:be v r)(h:∀s',aK X ae σ H' s'->Q () s'):
  wpAny (model X.prog X.w) A (setItem (.ref a) u r) Q E s:=by
 rcases g with ⟨kvs,k,e,ey,l,eH⟩|⟨kvs,k,b,e,ey,eb,l,eH⟩
 .subst ey eH;obtain⟨z,hd,vs,rf,dd⟩:=Dx I.bA e;have hz:vs.length<=sizeLine:=by rw[<-rf.length];exact z
  have hl:(fS kvs k v).length<=sizeLine:=by have:=g7 kvs k v;lia
  refine wpAny_setItem_pairs (hsz:=hz) (sA ry) dd fun h' KR hs=>h _ ?_;have he:∃q,h'.get? a=some q:=let ⟨q,_,_,hq,_⟩:=KR;⟨q,hq⟩;exact uN I (by rw[e];exact True.intro) hs he (Dy hl hd (rf.put k rv) KR)
 .subst ey eH;cases (show u=Value.ref b from ry);obtain⟨z,hd,xs,rf,dd⟩:=OR I.bA e;have hz:xs.length<=sizeLine:=by rw[<-Paired.length rf];exact z
  have hl:(fS kvs k v).length<=sizeLine:=by have:=g7 kvs k v;lia
  refine wpAny_setItem_heap (hsz:=hz) (x_ hu) (lN I.bA eb) dd fun h' KR hs=>h _ ?_;obtain⟨q,es,ep,hq,h2,h3,h4,_,h5⟩:=KR;refine uN I (by rw[e];exact True.intro) hs ⟨q,hq⟩ ⟨hl,hd,_,(rf.put k eb rv).keeps fun c ys ec=>?_,q,es,ep,hq,h2,h3,h4,h5⟩;rw[ak (cX ec e (fun z=>nomatch z))];exact ec
end
section
variable {X:Cx} {ae:List (Addr×Obj)} {σ:St} {H:Hp} {s:Shared} {a:Addr} {kvs:List (dq×V)} {k:dq} {u:Value} {A:Around} {E:Value->Shared->Prop}
theorem Jq{Q:Value->Shared->Prop}(I:aK X ae σ H s)(e:Rd H a (.dK kvs))(h:∀t s',aK X ae σ H s'->Q (.int kvs.length t) s'):wpAny (model X.prog X.w) A (call (.builtin "len") [.ref a]) Q E s:=by
 obtain⟨z,hd,vs,rf,dd⟩:=wm I.bA e;refine call_len_dict hd dd (by rw[<-rf.length];rw[iJ] at z;lia) ?_;rw[<-rf.length];exact h _ _ (I.tok _)
end
def OS(i:Expr):Prop:=∀ov iv,subscripted i false ov iv=operate [ov,iv] (getItem ov iv)
theorem Gx{prog:Program}{w:World}{A:Around}{E:Value->Shared->Prop}{s:Shared}{env:Env}{value slice:Expr}{pos:Pos}{T id:String}{Q:Value->Shared->Prop}(hl:typeLookup (.type T) "__getitem__"=pure (some (.builtin id)))(hs:OS slice)(h:wpAny (model prog w) A (eval value env) (fun o s₁=>wpAny (model prog w) A (eval slice env) (fun i s₂=>s₂.TypeIs o T/\wpAny (model prog w) A (getItem o i) Q E s₂) E s₁) E s):
  wpAny (model prog w) A (eval (.Subscript value slice pos) env) Q E s:=by
 refine Subscript_ (h9 h (fun o s₁ h₁=>h9 h₁ (fun i s₂ h₂=>?_) fun _ _ x=>x) fun _ _ x=>x);obtain⟨hT,h₂⟩:=h₂;unfold subscriptTail;refine aI ?_;rw[getitemInPython_of_ne hT.not_modules];refine aI (wpAny_specialOf hT hl ?_);have fin:wpAny (model prog w) A (subscripted slice false o i) (fun r s₃=>wpAny (model prog w) A (letTemporaryGo value o r >>= fun _=>pure r) Q E s₃) E s₂:=by
  rw[hs o i];exact wpAny_operating (h9 h₂ (fun r s₃ h₃=>aI (wpAny_letTemporaryGo (wpAny_pure h₃))) fun _ _ x=>x)
 first
  |exact wpAny_pure (aI fin)
  |exact aI (wpAny_pure (aI fin))
  |exact aI fin
theorem wn{X:Cx}{ae:List (Addr×Obj)}{σ:St}{H:Hp}{s:Shared}{a:Addr}{y:V}{o:Option V}(I:aK X ae σ H s)(g:iT H a y o):s.TypeIs (.ref a) "dict":=by
 rcases g with ⟨kvs,k,e,_,_⟩|⟨kvs,k,b,e,_,_,_⟩
 .obtain⟨_,_,vs,_,dd⟩:=wm I.bA e;exact dd.typeIs
 .obtain⟨_,_,xs,_,dd⟩:=Ae I.bA e;exact dd.typeIs
def ow(td ty:TE):TE:=fun σ H Q=>td σ H fun x H1=>ty σ H1 fun y H2=>∃a v,x=.ref a/\iT H2 a y (some v)/\Q v H2
def uO(ty td:TE):TE:=fun σ H Q=>ty σ H fun y H1=>td σ H1 fun x H2=>∃a o,x=.ref a/\iT H2 a y o/\Q (.bl (!o.isSome)) H2
def OT(td ty tv:TE):TS:=fun D σ H=>tv σ H fun v H1=>td σ H1 fun x H2=>ty σ H2 fun y H3=>∃a H4,x=.ref a/\qm H3 a y v H4/\D.nx σ H4
section
variable {X:Cx} {o i e value:Expr} {pos oE Kq:Pos} {td ty tv:TE}
theorem bY(hu:X.A.units+1<cLine)(ho:PE X o td)(hi:PE X i ty)(hs:OS i):PE X (.Subscript o i pos) (ow td ty):=by
 intro ae s σ H Q I h;refine Gx PySem.F.slot_dict_getitem.lookup hs (bZ (ho ae s σ H _ I h) fun u s1 ⟨x,H1,I1,rx,q1⟩=>bZ (hi ae s1 σ H1 _ I1 q1) fun iv s2 ⟨y,H2,I2,ry,a,v,ex,g,q2⟩=>?_);subst ex;obtain rfl:u=Value.ref a:=rx;exact⟨wn I2 g,BA hu I2 g ry fun w' s3 I3 F8=>⟨v,H2,I3,F8,q2⟩⟩
theorem nI(hu:X.A.units+1<cLine)(hi:PE X i ty)(ho:PE X o td):PC X .NotIn i o (uO ty td):=by
 intro ae s σ H Q I h;refine bZ (hi ae s σ H _ I h) fun iv s1 ⟨y,H1,I1,ry,q1⟩=>bZ (ho ae s1 σ H1 _ I1 q1) fun u s2 ⟨x,H2,I2,rx,a,ov,ex,g,q2⟩=>?_;subst ex;obtain rfl:u=Value.ref a:=rx;exact Gw hu I2 g ry fun s3 I3=>⟨.bl (!ov.isSome),H2,I3,rfl,q2⟩
theorem mr(hu:X.A.units+1<cLine)(ho:PE X o td)(hi:PE X i ty)(hv:PE X value tv)(hs:swapsWith value (some (.Subscript o i oE)) pos.line X.env=pure false):
  PS X (.Assign [.Subscript o i oE] value pos) (OT td ty tv):=by
 intro ae s σ H D I h;refine wpAny_Assign_Subscript (bZ (hv ae s σ H _ I h) fun r s1 ⟨v,H1,I1,rv,q1⟩=>bZ (ho ae s1 σ H1 _ I1 q1) fun u s2 ⟨x,H2,I2,rx,q2⟩=>bZ (hi ae s2 σ H2 _ I2 q2) fun iv s3 ⟨y,H3,I3,ry,a,H4,ex,g,q3⟩=>?_) hs;subst ex;obtain rfl:u=Value.ref a:=rx;exact BB hu I3 g ry rv fun s4 I4=>⟨σ,H4,I4,q3⟩
end
theorem wo{P:Program}{w:World}{H:Hp}(h:Heap)(hb:sysModules<h.objs.size):bQ P w H (h.push { cls:=.type "dict",data:=.dict #[] }) h.objs.size (.dK []):=
 ⟨df _,kM.mpr (Ne.symm (aX hb)),[],.nil,Heap.DictOf.new h⟩
theorem DA{P:Program}{w:World}{H:Hp}(h:Heap)(hb:sysModules<h.objs.size):bQ P w H (h.push { cls:=.type "dict",data:=.dict #[] }) h.objs.size (.dT []):=
 ⟨df _,kM.mpr (Ne.symm (aX hb)),[],.nil,_,#[],0,cV _ rfl,⟨rfl,rfl,rfl⟩,rfl,rfl,jf⟩
def KS:TE:=fun _ H Q=>∀p,H p=none->Q (.ref p) (upd H p (.dK []))
def KU:TE:=fun _ H Q=>∀p,H p=none->Q (.ref p) (upd H p (.dT []))
section
variable {X:Cx} {pos:Pos}
theorem wq:PE X (.Dict [] [] pos) KS:=fun ae s σ H Q I h=>
 wpAny_Dict_empty ⟨.ref s.heap.objs.size,_,I.laid (a:=s.heap.objs.size) (o:=.dK []) (t':=s.toks) (fun _ _ q=>cq _ q) (aL _) (wo s.heap I.big),rfl,h _ (I.bA.fresh (aL _))⟩
theorem DB:PE X (.Dict [] [] pos) KU:=fun ae s σ H Q I h=>
 wpAny_Dict_empty ⟨.ref s.heap.objs.size,_,I.laid (a:=s.heap.objs.size) (o:=.dT []) (t':=s.toks) (fun _ _ q=>cq _ q) (aL _) (DA s.heap I.big),rfl,h _ (I.bA.fresh (aL _))⟩
end
def yR:List (TE×TE)->St->Hp->(List (V×V)->Hp->Prop)->Prop
 |[],_,H,Q=>Q [] H
 |(tk,tv)::r,σ,H,Q=>tk σ H fun x H1=>tv σ H1 fun y H2=>yR r σ H2 fun ps H3=>Q ((x,y)::ps) H3
abbrev VV:List (V×V)->List (Value×Value)->Prop:=Paired fun p q=>be p.1 q.1/\be p.2 q.2
def RT(X:Cx)(pos:Pos)(keys:List (Option Expr))(qo:List Expr)(Gy:List (TE×TE)):Prop:=
 ∀ (ae:List (Addr×Obj)) (s:Shared) (σ:St) (H:Hp) (Q:List (V×V)->Hp->Prop),aK X ae σ H s->yR Gy σ H Q->
  wpAny (model X.prog X.w) X.A (evalPairs (pairTrees keys qo X.env pos)) (fun vs s'=>∃ps H',aK X ae σ H' s'/\VV ps vs/\Q ps H') X.xe s
theorem Gz{X:Cx}{pos:Pos}:RT X pos [] [] []:=fun ae s σ H Q I h=>pairTrees_nil_walk ⟨[],H,I,.nil,h⟩
theorem DC{X:Cx}{pos:Pos}{k v:Expr}{ks:List (Option Expr)}{vs:List Expr}{tk tv:TE}{Gy:List (TE×TE)}(hk:PE X k tk)(hv:PE X v tv)(hr:RT X pos ks vs Gy):
  RT X pos (some k::ks) (v::vs) ((tk,tv)::Gy):=fun ae s σ H Q I h=>
 pairTrees_cons_walk (bZ (hk ae s σ H _ I h) fun u s1 ⟨x,H1,I1,rx,q1⟩=>bZ (hv ae s1 σ H1 _ I1 q1) fun w2 s2 ⟨y,H2,I2,ry,q2⟩=>
  bZ (hr ae s2 σ H2 _ I2 q2) fun ws s3 ⟨ps,H3,I3,rf,q3⟩=>⟨(x,y)::ps,H3,I3,.cons ⟨rx,ry⟩ rf,q3⟩)
def nJ(kvs more:List (dq×V)):List (dq×V):=more.foldl (fun dF kv=>fS dF kv.1 kv.2) kvs
theorem KV.merge:∀ {more:List (dq×V)} {rs:List (dq×Value)} {kvs:List (dq×V)} {vs:List (dq×Value)},KV more rs->KV kvs vs->KV (nJ kvs more) (merged vs rs):=by
 intro more rs kvs vs r;unfold KV at r;induction r generalizing kvs vs with
 |nil=>intro q;exact q
 |@cons p q ps qs h t ih=>
  intro r0;have e:KV (fS kvs p.1 p.2) (stored vs q.1 q.2):=by
   have:=r0.put p.1 h.2;rw[<-h.1];exact this
  exact ih e
theorem kS:∀ (more kvs:List (dq×V)),(nJ kvs more).length<=kvs.length+more.length
 |[],kvs=>by show kvs.length<=kvs.length+0;lia
 |p::r,kvs=>by
  have h1:=kS r (fS kvs p.1 p.2);have h2:=g7 kvs p.1 p.2;show (nJ (fS kvs p.1 p.2) r).length<=_;rw[cw];lia
theorem qp{P:Program}{w:World}:∀ {kvs:List (dq×V)} {ws:List (Value×Value)},VV (kvs.map fun kv=>(kV kv.1,kv.2)) ws->∃rs,Carries (bq P w) ws rs/\KV kvs rs
 |[],_,r=>by rw[lw] at r;cases r;exact⟨[],True.intro,.nil⟩
 |p::kvs,_,r=>by
  rw[cW] at r;cases r with
  |@cons a b as bs h t=>
   obtain⟨rs,c,q⟩:=qp (P:=P) (w:=w) t;obtain⟨b1,b2⟩:=b;exact⟨(p.1,b2)::rs,⟨sA h.1,rfl,c⟩,.cons ⟨rfl,h.2⟩ q⟩
def OU(Gy:List (TE×TE)):TE:=fun σ H Q=>∀p,H p=none->yR Gy σ (upd H p (.dK [])) fun ps H2=>H2 p=some (.dK [])/\∃kvs:List (dq×V),ps=kvs.map (fun kv=>(kV kv.1,kv.2))/\kvs.length<=15/\Q (.ref p) (upd H2 p (.dK (nJ [] kvs)))
theorem GA{X:Cx}{pos:Pos}{keys:List (Option Expr)}{qo:List Expr}{Gy:List (TE×TE)}(h:RT X pos keys qo Gy)(rB:keys.all (·.isSome)=true)(hl:keys.length=qo.length)(h0:keys≠[])(h15:keys.length<=15):PE X (.Dict keys qo pos) (OU Gy):=by
 intro ae s σ H Q I q;have hn:=I.bA.fresh (aL s.heap.objs.size);have I1:=I.laid (a:=s.heap.objs.size) (o:=.dK []) (h':=s.heap.push { cls:=.type "dict",data:=.dict #[] }) (t':=s.toks) (fun _ _ q=>cq _ q) (aL _) (wo s.heap I.big);refine wpAny_Dict_walk (knd:=bq X.prog X.w) rB hl h0 h15 (bZ (h ae _ σ _ _ I1 (q _ hn)) fun ws s2 ⟨ps,H2,I2,rf,e,kvs,ep,lk,q2⟩=>?_);subst ep;obtain⟨rs,c,rk⟩:=qp (P:=X.prog) (w:=X.w) rf;obtain⟨z,hd,XH,r0,dd⟩:=Dx I2.bA e;cases r0;refine⟨rs,c,dd,fun h' KR hs=>⟨.ref s.heap.objs.size,_,?_,rfl,q2⟩⟩;have hz:(nJ [] kvs).length<=sizeLine:=by
  have h1:=kS kvs [];rw[tV] at h1;rw[iJ];lia
 have he:∃q,h'.get? s.heap.objs.size=some q:=let ⟨q,_,_,hq,_⟩:=KR;⟨q,hq⟩;exact uN I2 (by rw[e];exact True.intro) hs he (Dy hz hd (rk.merge .nil) KR)
section
variable {X:Cx} {ae:List (Addr×Obj)} {σ:St} {H:Hp} {s:Shared} {a:Addr} {y d:V} {u r:Value} {o:Option V} {A:Around} {E:Value->Shared->Prop}
end
section
variable {X:Cx} {o e f:Expr} {uu uA:Pos} {td ty tx:TE}
end
section
variable {X:Cx} {ae:List (Addr×Obj)} {σ:St} {H:Hp} {s:Shared} {a:Addr} {kvs:List (dq×V)} {A:Around} {E:Value->Shared->Prop}
end
section
variable {X:Cx} {ae:List (Addr×Obj)} {σ:St} {H:Hp} {s:Shared} {a:Addr} {y:V} {u:Value} {A:Around} {E:Value->Shared->Prop}
end
section
variable {X:Cx}
theorem BC:eN X (.builtin "len") (fun xs H Q=>∃a kvs,xs=[V.ref a]/\H a=some (.dK kvs)/\Q (.int kvs.length) H):=by
 intro ae s σ H xs us Q I r h;obtain⟨a,kvs,rfl,ha,q⟩:=h;obtain⟨u,rfl,ru⟩:=qc r;cases ru;exact Jq I (.inl ha) fun t s' I'=>⟨.int kvs.length,H,I',⟨t,rfl⟩,q⟩
end
section
variable {κ:Type} [DecidableEq κ]
end
section
variable {X:Cx}
def GB:V->List V->Hp->VK->Prop:=fun x vs H Q=>∃ (l:Addr) (xs:List V) (j:Int) (i:Nat) (y:V),x=.ref l/\vs=[.int j,y]/\j=i/\H l=some (.lst xs)/\i<=xs.length/\xs.length<4096/\Q .bH (upd H l (.lst (xs.take i++[y]++xs.drop i)))
theorem BF:RK X "list.insert" GB:=by
 intro ae s σ H x vs v us Q I rx rv h;obtain⟨l,xs,j,i,y,rfl,rfl,hj,hH,h1,h2,q⟩:=h;cases rx;obtain⟨u1,u2,rfl,r1,r2⟩:=rv.two;obtain⟨t,rfl⟩:=r1;obtain⟨z,its,n,r,hl,e⟩:=I.vR hH;have hs:its.length<4096:=by lia
 have a0:0<=j:=by lia
 have a1:-(2 ^ 63:Int)<=j:=Int.le_trans (by decide) a0;have a2:j<2 ^ 63:=Int.lt_of_le_of_lt (show j<=4096 by lia) (by decide);have a3:its.toArray.size<=sizeLine:=by rw[cu];exact bB (dG hs) (by decide)
 have a4:¬ (!Builtin.List.listFitsIndex j)=true:=by rw[fitsIndex_both a1 a2];decide
 have M:=AutoSeq1.list_insert_list_int_val_1 l its.toArray n j t u2 a4 a3;refine lC F.slot_list_insert ⟨_,e,rfl⟩ F.entry_list_insert (F.args_list_insert_3 _ _ _) M ⟨e,?_⟩;refine⟨.bH,_,I.Kx (its':=its.take i++[u2]++its.drop i) hH e ?_ (((r.take i).append (.cons r2 .nil)).append (r.drop i)) ?_,rfl,q⟩
 .have hk:(if j<0 then (j+((its.toArray.size:Nat):Int)).toNat else min j.toNat its.toArray.size)=i:=by
   rw[ap (by lia),cu];lia
  show (its.toArray.extract 0 _).push u2++its.toArray.extract _=_;rw[hk];simp;exact xE (by rw[xX];lia)
 .simp only[cr,jc,xX,cw,tV];have:xs.length+1<=sizeLine:=bB (by lia:xs.length+1<=4096) (by decide);lia
theorem qr:∀ {xs:List V} {its:List Value},aW xs its->xs.all gh=true->its.countP (uy x)=xs.countP (fun z=>ux z x)
 |[],_,.nil,_=>rfl
 |y::xs,_,.cons (b:=u) r rr,f=>by
  have fy:gh y=true:=by rw[lu,eK] at f;exact f.1
  have fx:xs.all gh=true:=by rw[lu,eK] at f;exact f.2
  have h1:[u].any (uy x)=[y].any (fun z=>ux z x):=jZ (.cons r .nil) (by simp[fy]);have h2:uy x u=ux y x:=by simpa using h1
  rw[mV,mV,qr rr fx,h2]
def KW:V->List V->Hp->VK->Prop:=fun x vs H Q=>∃ (l:Addr) (xs:List V) (y:V),x=.ref l/\vs=[y]/\H l=some (.lst xs)/\gh y=true/\xs.all gh=true/\Q (.int (xs.countP fun z=>ux z y)) H
theorem DD:RK X "list.count" KW:=by
 intro ae s σ H x vs v us Q I rx rv h;obtain⟨l,xs,y,rfl,rfl,hH,fy,fs,q⟩:=h;cases rx;obtain⟨u,rfl,ru⟩:=rv.one;obtain⟨z,its,n,r,hl,e⟩:=I.vR hH;refine lC F.slot_list_count ⟨_,e,rfl⟩ F.entry_list_count (F.args_list_count_2 _ _) (SeqAt.list_countAt l its.toArray n none #[] u (uy y)) ⟨e,fun w hw=>iw ru fy r fs w (by simpa using hw),?_⟩;refine⟨.int _,H,I.tok _,⟨s.toks,?_⟩,q⟩;rw[show its.toArray.toList=its by simp,qr r fs]
end
def OV(K:PySem.W.Frag)(a:Addr):It:=
 ⟨fun i H=>∃xs x,aU K H a xs/\xs[i]?=some x,fun i H x H'=>∃p v,x=.ref p/\H p=none/\H'=upd H p (.tup [.int i,v])/\∀xs,aU K H a xs->xs[i]?=some v,fun i H=>∃xs,aU K H a xs/\xs.length<=i,fun _ _=>False⟩
theorem aK.Af(I:aK X ae σ H s)(fe:kB X ae H e)(fi:kB X ae H it)(k:∀b o,b≠e->b≠it->s.heap.get? b=some o->h'.get? b=some o)(ke:∃o,h'.get? e=some o)(ki:∃o,h'.get? it=some o)(hp:s.heap.objs.size<=p)(hl:xs.length<=sizeLine)(r:aW xs its)(ht:h'.get? p=some { cls:=.type "tuple",data:=.seq its.toArray }):aK X ae σ (upd H p (.tup xs)) { s with heap:=h',toks:=t' }:=by
 have hn:=I.bA.fresh hp;obtain⟨e0,e1,e2,e3,e4,e5⟩:=fe;obtain⟨i0,i1,i2,i3,i4,i5⟩:=fi;have ne:∀b o,s.heap.get? b=some o->b≠p:=fun b o q=>aX (bV (aY q) hp);have Ag:∀b o,H b=some o->b≠e/\b≠it:=fun b o q=>⟨(fun z=>by rw[z,e0] at q;cases q),(fun z=>by rw[z,i0] at q;cases q)⟩
 refine I.step (g':=s.gens) (d':=s.drawn) (ch:=[e,it]) (fun b hb=>?_) (fun b o _ _ hb q _=>?_) (fun b o _ _ hb q _=>⟨o.slots,?_⟩) (fun b o hb q n=>by rw[ak (ne b o q)];exact n) (fun b o hb q=>⟨o,?_⟩)
  (fun b ys q=>by rw[ak (ai q hn)];exact q) (fun b o u q=>by rw[ak (ai q hn)];exact q) (fun b ps q=>⟨#[],by rw[ak (ai q hn),q];simp⟩) (fun m hm=>?_) (fun b o q=>?_) I.bare
 .rcases bK.mp hb with rfl|hb
  .exact⟨e3,e1,e4,e5⟩
  .rw[bS.mp hb];exact⟨i3,i1,i4,i5⟩
 .exact k b o (fun z=>hb (z ▸ b9)) (fun z=>hb (z ▸ cC _ b9)) q
 .exact k b o (fun z=>hb (z ▸ b9)) (fun z=>hb (z ▸ cC _ b9)) q
 .exact k b o (fun z=>hb (z ▸ b9)) (fun z=>hb (z ▸ cC _ b9)) q
 .obtain⟨o,es,ep,q,d,r'⟩:=hm;exact⟨o,es,ep,k _ _ e1.symm i1.symm q,d,r'⟩
 .by_cases hb:b=p
  .subst hb;rw[af] at q;cases q;exact⟨hl,its,r,_,ht,rfl,_,rfl,rfl⟩
  .rw[ak hb] at q;refine(I.bA b o q).oC (fun c u hc z=>k c u ?_ ?_ z) (fun c z=>by rw[ak (ai z hn)];exact z) fun c ys z=>by rw[ak (ai z hn)];exact z
   .rcases hc with rfl|hc
    .exact(Ag _ _ q).1
    .exact(Ag _ _ hc).1
   .rcases hc with rfl|hc
    .exact(Ag _ _ q).2
    .exact(Ag _ _ hc).2
theorem BG{P:Program}{w:World}{K:PySem.W.Frag}{es:List Expr}{x1:Nat}{pos:Pos}(a e it:Addr)(jn:e≠it):
  uj P w K (.Tuple es x1 pos) (OV K a) [e,it] e (fun i h=>(∃old,IsEnum h e it (i:Int) old)/\h.IsListIter it a i) where
 mem:=by simp
 obj:=fun i h st b hb=>by
  obtain⟨⟨old,he⟩,⟨o,q,c,d⟩⟩:=st;rcases bK.mp hb with rfl|hb
  .exact⟨_,he,fun v z=>by
    have z':Data.fields _=Data.cell v:=z;cases z'⟩
  .rw[bS.mp hb];exact⟨o,q,fun v z=>by rw[d] at z;cases z⟩
 keep:=fun i h h' st k=>by
  obtain⟨⟨old,he⟩,hi⟩:=st;exact⟨⟨old,k e (by simp) _ he⟩,hi.at fun o q=>k it (by simp) o q⟩
 item:=by
  intro X hP hw hK i ae s σ H E uk I hf st hg;subst hP hw hK;have hc:X.calm=true:=uk.elim id fun z=>(show False from z).elim;obtain⟨xs,x,hq,hx⟩:=hg;obtain⟨its,rv,p,hz⟩:=I.list hq;obtain⟨u,hu,ru⟩:=rv.get hx;obtain⟨⟨old,he⟩,hi⟩:=st;refine wpAny_pyNext_enum_item he hi p.isList (x:=u) (by simpa using hu) jn fun h' ho lW ht hsz k=>?_;refine⟨_,rfl,wpAny_letOwnedTupleGo_enum ho fun h2 OW p_=>?_⟩;have OX:s.heap.objs.size≠e:=jA (aY he);have Bo:h2.IsListIter it a (i+1):=lW.extBut p_.extBut jn.symm;have fe:=hf e (by simp);have fi:=hf it (by simp);have I2:aK X ae σ (upd H s.heap.objs.size (.tup [.int i,x])) { s with heap:=h2,toks:=s.toks+1 }:=by
   refine I.Af (its:=[.int i s.toks,u]) fe fi (fun b o h1 h3 q=>(p_.2 b h1).trans (k b o h1 h3 q)) ⟨_,OW⟩ ?_ (aL _) (by show 2<=sizeLine;decide) (.cons ⟨_,rfl⟩ (.cons ru .nil)) ((p_.2 _ OX).trans ht);obtain⟨o,q,_⟩:=Bo;exact⟨o,q⟩
  refine⟨.ref s.heap.objs.size,_,I2,rfl,⟨_,x,rfl,I.bA.fresh (aL _),rfl,fun ys hy=>by rw[I.vF hy hq];exact hx⟩,⟨⟨u,OW⟩,Bo⟩,fun b hb=>?_⟩;have f0:=(hf b hb).1;rw[ak]
  .exact f0
  .rcases bK.mp hb with rfl|hb
   .exact OX.symm
   .rw[bS.mp hb];obtain⟨o,q,_⟩:=hi;exact aX (aY q)
 done:=by
  intro X hP hw hK i ae s σ H E uk I hf st hg;subst hP hw hK;have hc:X.calm=true:=uk.elim id fun z=>(show False from z).elim;obtain⟨xs,hq,hx⟩:=hg;obtain⟨its,rv,p,hz⟩:=I.list hq;obtain⟨f0,f1,f2,f3,f4,f5⟩:=hf it (by simp);obtain⟨⟨old,he⟩,hi⟩:=st;have hl:=rv.length;exact wpAny_pyNext_enum_end (I.ok.hd hc) he hi p.isList (by simp;lia) fun h' eb=>⟨rfl,I.turned (t':=s.toks) (fun b o hb e=>eb b o hb e) f0 f1 f3 f4 f5⟩
 self:=fun _ _ _ _ _ st h=>by
  obtain⟨⟨old,he⟩,_⟩:=st;exact tU he h
section
variable {X:Cx}
def OY(K:PySem.W.Frag)(ta:TA):TI:=fun σ H R=>ta σ H fun vs H1=>∃a xs,vs=[.ref a]/\H1 a=some (.lst xs)/\R (OV K a) H1
theorem Ah(hg:Gl X "enumerate")(hm:X.mg "enumerate"=none)(ha:PA X [a] ta)(hs:starEach [a] X.env=[(false,eval a X.env)]:=by rfl):
  PI X (.Tuple es x1 Kq) (.Call (.Name "enumerate" p) [a] [] pos) (OY X.K ta):=by
 intro ae s σ H R I h;refine Call_ (jE I hg hm (by decide +kernel:bootBuiltins "enumerate"=some (.type "enumerate")) (pC (bZ (ha pos ae s σ H _ I h) fun us s1 ⟨vs,H1,I1,r1,q1⟩=>?_) hs rfl));obtain⟨l,xs,rfl,hl,q⟩:=q1;obtain⟨u1,rfl,UE⟩:=r1.one;obtain rfl:u1=Value.ref l:=UE;obtain⟨z,its,n,r,_,e⟩:=I1.vR hl;refine call_enumerate_1 e fun h' he hi hsz k=>?_;have jn:s1.heap.objs.size+1≠s1.heap.objs.size:=Nat.succ_ne_self _;refine tU he ?_;have I2:aK X ae σ H1 { s1 with heap:=h' }:=I1.kept (t':=s1.toks) k;refine⟨s1.heap.objs.size+1,[s1.heap.objs.size+1,s1.heap.objs.size],_,_,H1,rfl,I2,BG l _ _ jn,⟨⟨_,he⟩,hi⟩,fun b hb=>?_,q⟩;have oI:s1.heap.objs.size<=b:=by
  rcases bK.mp hb with rfl|hb
  .exact Nat.le_succ _
  .rw[bS.mp hb];exact aL _
 exact I1.vG oI (I1.bA.fresh oI)
theorem wr{K:PySem.W.Frag}{a:Addr}{xs:List V}{g:TG}{tb:TS}{D:vB}{σ:St}{H:Hp}(Pv:Nat->St->Hp->Prop)(h0:Pv 0 σ H)(hl:∀i σ H,i<=xs.length->Pv i σ H->aU K H a xs)(hs:∀i x p σ H,xs[i]?=some x->Pv i σ H->H p=none->g (.ref p) σ (upd H p (.tup [.int i,x])) fun σ2 H2=>tb { D with nx:=Pv (i+1),ct:=Pv (i+1),bk:=D.nx } σ2 H2)(hd:∀σ H,Pv xs.length σ H->D.nx σ H):
  ∃W:Nat->Nat->St->Hp->Prop,(∃m,W 0 m σ H)/\∀i m σ H,W i m σ H->
   ((OV K a).stop i H/\D.nx σ H)\/((OV K a).go i H/\∃N:St->Hp->Prop,(∀σ' H',N σ' H'->∃m',m'<m/\W (i+1) m' σ' H')/\∀x H',(OV K a).Ja i H x H'->g x σ H' fun σ2 H2=>tb { D with nx:=N,ct:=N,bk:=D.nx } σ2 H2):=by
 refine⟨fun i m σ H=>m=xs.length-i/\i<=xs.length/\Pv i σ H,⟨xs.length,by simp,df _,h0⟩,?_⟩;rintro i m σ H ⟨rfl,hi,p⟩;have q:=hl i σ H hi p;by_cases et:i<xs.length
 .refine .inr ⟨⟨xs,xs[i],q,by simp[et]⟩,Pv (i+1),fun σ' H' p'=>⟨xs.length-(i+1),by lia,rfl,et,p'⟩,fun x H' y=>?_⟩;obtain⟨pp,v,rfl,hn,rfl,hv⟩:=y;exact hs i v pp σ _ (hv xs q) p hn
 .have e:i=xs.length:=by lia
  subst e;exact .inl ⟨⟨xs,q,aL _⟩,hd σ H p⟩
end
section
variable {prog:Program} {w:World} {A:Around} {E:Value->Shared->Prop} {s:Shared}
theorem yS(rc:s.heap.IsTupleIter it t i)(ht:s.heap.IsTuple t xs)(hx:xs[i]?=some x)(q:∀h',h'.IsTupleIter it t (i+1)->Heap.SameBut it s.heap h'->Q x { s with heap:=h' }):wpAny (model prog w) A (Builtin.SmallTypes.nextOf (.ref it)) Q E s:=by
 obtain⟨o,h1,h2,h3⟩:=id rc;obtain⟨p,k1,_,n,k3⟩:=ht;unfold Builtin.SmallTypes.nextOf;refine aI (tG (name:=Str.ofString "__next__") rc.typeIs F.slot_tuple_iterator_next (pS F.slot_tuple_iterator_next rc.typeIs F.entry_tuple_iterator_next ?_ (F.args_tuple_iterator_next_1 _)));change wpAny _ _ (field (.ref it) 0 >>= _) _ _ s;refine aI (iI h1 h3 (x:=.ref t) rfl ?_);change wpAny _ _ (if (Value.ref t==Value.none)=true then _ else _) _ _ s;rw[ap (by exact cj)];change wpAny _ _ (field (.ref it) 1 >>= _) _ _ s;refine aI (iI h1 h3 (x:=.int i 0) rfl ?_);change wpAny _ _ (seqItems? (.ref t) >>= _) _ _ s;refine aI (ua k1 k3 ?_);simp only[cM,hx];refine aI (wpAny_setField h1 h3 (by simp) (wpAny_pure ⟨x,rfl,wpAny_pure (q _ ?_ (Heap.SameBut.update ..))⟩));refine⟨_,tO _ h1 (Obj.isFreed_of_fields (yc h3 _)),(Obj.cls_mapFields ..).trans h2,?_⟩;rw[yc h3];simp[rawInt]
theorem sC(hh:A.handled=none)(rc:s.heap.IsTupleIter it t i)(ht:s.heap.IsTuple t xs)(hx:xs[i]?=none)(q:∀h' e,Heap.ExtBut it s.heap h'->(∃o,h'.get? e=some o/\o.cls=.type "StopIteration")->E (.ref e) { s with heap:=h' }):wpAny (model prog w) A (Builtin.SmallTypes.nextOf (.ref it)) Q E s:=by
 obtain⟨o,h1,h2,h3⟩:=id rc;obtain⟨p,k1,_,n,k3⟩:=ht;unfold Builtin.SmallTypes.nextOf;refine aI (tG (name:=Str.ofString "__next__") rc.typeIs F.slot_tuple_iterator_next (pS F.slot_tuple_iterator_next rc.typeIs F.entry_tuple_iterator_next ?_ (F.args_tuple_iterator_next_1 _)));change wpAny _ _ (field (.ref it) 0 >>= _) _ _ s;refine aI (iI h1 h3 (x:=.ref t) rfl ?_);change wpAny _ _ (if (Value.ref t==Value.none)=true then _ else _) _ _ s;rw[ap (by exact cj)];change wpAny _ _ (field (.ref it) 1 >>= _) _ _ s;refine aI (iI h1 h3 (x:=.int i 0) rfl ?_);change wpAny _ _ (seqItems? (.ref t) >>= _) _ _ s;refine aI (ua k1 k3 ?_);simp only[cM,hx];refine aI (iK (aI (wpAny_setField h1 h3 (by simp) ?stop)));case stop=>
  change wpAny _ _ (newExc (.type "StopIteration") [] >>= _) _ _ _;refine aI ?_;simp only[newExc,newTuple];refine aI (pR (aI (m:=firstArgMember _ _) (wpAny_of_eq (a:=Value.none) (by simp only[firstArgMember];rfl) (pR ?_ (by size_fits)))) (by size_fits));simp only[raiseNew];refine aI (wpAny_handled ?_);rw[show A.in1.handled=none from hh];exact aI (wpAny_pure (wpAny_throw (q _ _ (fun b u hb z=>cq _ (cq _ ((tK _ _ (Ne.symm hb)).trans z))) ⟨_,cV _ rfl,rfl⟩)))
theorem wt(hh:A.handled=none)(it t:Addr)(jn:t≠it)(xs:Array Value):Draws prog w A it [it,t] xs.size (fun i v=>xs[i]?=some v) (fun i h=>h.IsTupleIter it t i/\h.IsTuple t xs) where
 live:=fun _ _ st=>let ⟨o,ho,_⟩:=st.1;⟨o,ho⟩
 frame:=fun _ _ _ st hk=>⟨st.1.at fun o e=>hk it (by simp) o e,let ⟨o,e,r⟩:=st.2;⟨o,hk t (by simp) o e,r⟩⟩
 item:=fun i s Q E hi st q=>by
  refine yS st.1 st.2 (x:=xs[i]) (by simp[hi]) fun h' a b=>?_;obtain⟨o,e,r⟩:=st.2;exact q _ h' s.toks (by simp[hi]) ⟨a,o,(b.2 t jn).trans e,r⟩ b
 done:=fun s Q E st q=>sC hh st.1 st.2 (by simp) q
end
theorem BI(t:Addr)(xs:Array Value):
  Meets (Builtin.«enumerate.__new__» ⟨[.type "enumerate",.ref t],[]⟩) (fun _ R s=>s.heap.IsTuple t xs/\
   R (.ok (.ret (.ref (s.heap.push { cls:=.type "tuple_iterator",data:=.fields #[.ref t,.int 0 0] }).objs.size)))
    { s with heap:=(s.heap.push { cls:=.type "tuple_iterator",data:=.fields #[.ref t,.int 0 0] }).push { cls:=.type "enumerate",data:=.fields #[.none,.bool false,.ref s.heap.objs.size,rawInt 0,.none,.none] } }):=
 .of_wp fun prog w A R s h=>by
  obtain⟨hp,g,d,tk,os⟩:=s;obtain⟨hT,h⟩:=h;have hs:=sub_enumerate
  wp_walk
  refine wpAny_stack_any fun st=>wpAny_pure ?_;split
  .rename_i c _ _ _ _ _;cases (c==Value.type "enumerate") <;> (wp_walk using x0 hT;exact⟨_,rfl,h⟩)
  .wp_walk using x0 hT
   exact⟨_,rfl,h⟩
theorem yT(ht:s.heap.IsTuple t xs)(h:∀h',IsEnum h' (s.heap.objs.size+1) s.heap.objs.size 0 .none->h'.IsTupleIter s.heap.objs.size t 0->(∀b o,s.heap.get? b=some o->h'.get? b=some o)->Q (.ref (s.heap.objs.size+1)) { s with heap:=h' }):
  wpAny (model prog w) A (call (.type "enumerate") [.ref t]) Q E s:=by
 refine callType_new F.called_enumerate (by decide) (F.typeCall_enumerate_1 _) (F.newCall_enumerate_1 _) (fun obj=>F.args_object_init_2 obj _) F.entry_enumerate_new (BI t xs) ⟨ht,?_⟩;have hz:(s.heap.push { cls:=.type "tuple_iterator",data:=.fields #[.ref t,.int 0 0] }).objs.size=s.heap.objs.size+1:=iH ..;have he:IsEnum ((s.heap.push { cls:=.type "tuple_iterator",data:=.fields #[.ref t,.int 0 0] }).push
   { cls:=.type "enumerate",data:=.fields #[.none,.bool false,.ref s.heap.objs.size,rawInt 0,.none,.none] }) (s.heap.objs.size+1) s.heap.objs.size 0 .none:=by
  have q:=cV (s.heap.push { cls:=.type "tuple_iterator",data:=.fields #[.ref t,.int 0 0] }) (o:={ cls:=.type "enumerate",data:=.fields #[.none,.bool false,.ref s.heap.objs.size,rawInt 0,.none,.none] }) rfl;rw[hz] at q;exact q
 show _/\_;rw[hz];exact⟨⟨_,he,rfl⟩,h _ he ⟨_,cq _ (cV _ rfl),rfl,rfl⟩ fun b o x=>cq _ (cq _ x)⟩
def GC(K:PySem.W.Frag)(a:Addr):It:=
 ⟨fun i H=>∃xs x,cx K H a xs/\xs[i]?=some x,fun i H x H'=>∃p v,x=.ref p/\H p=none/\H'=upd H p (.tup [.int i,v])/\∀xs,cx K H a xs->xs[i]?=some v,fun i H=>∃xs,cx K H a xs/\xs.length<=i,fun _ _=>False⟩
theorem yU{P:Program}{w:World}{K:PySem.W.Frag}{es:List Expr}{x1:Nat}{pos:Pos}(a e it:Addr)(jn:e≠it)(hae:a≠e)(hai:a≠it):
  uj P w K (.Tuple es x1 pos) (GC K a) [e,it] e (fun i h=>(∃old,IsEnum h e it (i:Int) old)/\h.IsTupleIter it a i) where
 mem:=by simp
 obj:=fun i h st b hb=>by
  obtain⟨⟨old,he⟩,⟨o,q,c,d⟩⟩:=st;rcases bK.mp hb with rfl|hb
  .exact⟨_,he,fun v z=>by
    have z':Data.fields _=Data.cell v:=z;cases z'⟩
  .rw[bS.mp hb];exact⟨o,q,fun v z=>by rw[d] at z;cases z⟩
 keep:=fun i h h' st k=>by
  obtain⟨⟨old,he⟩,hi⟩:=st;exact⟨⟨old,k e (by simp) _ he⟩,hi.at fun o q=>k it (by simp) o q⟩
 item:=by
  intro X hP hw hK i ae s σ H E uk I hf st hg;subst hP hw hK;have hc:X.calm=true:=uk.elim id fun z=>(show False from z).elim;obtain⟨xs,x,hq,hx⟩:=hg;obtain⟨its,rv,p,hz⟩:=I.tuple hq;obtain⟨u,hu,ru⟩:=rv.get hx;obtain⟨⟨old,he⟩,hi⟩:=st;have et:i<its.toArray.size:=by
   have:=(cK.mp hu).1;simpa using this
  have D:=wt (prog:=X.prog) (w:=X.w) (A:=X.A.in1) (I.ok.hd hc) it a hai its.toArray;refine wpAny_pyNext_enum_itemD D he ⟨hi,p⟩ et jn (by simp[jn,hae.symm]) fun u' h' tk vX ho nq ht hsz k=>?_;have eu:u'=u:=by
   have h1:its.toArray[i]?=some u:=by simpa using hu
   rw[h1] at vX;exact(bR vX).symm
  subst eu;refine⟨_,rfl,wpAny_letOwnedTupleGo_enum ho fun h2 OW p_=>?_⟩;have OX:s.heap.objs.size≠e:=jA (aY he);have Bo:h2.IsTupleIter it a (i+1):=nq.1.at fun o q=>(p_.2 it jn.symm).trans q;have fe:=hf e (by simp);have fi:=hf it (by simp);have I2:aK X ae σ (upd H s.heap.objs.size (.tup [.int i,x])) { s with heap:=h2,toks:=tk+1 }:=by
   refine I.Af (its:=[.int i tk,u']) fe fi (fun b o h1 h3 q=>(p_.2 b h1).trans (k b o h1 h3 q)) ⟨_,OW⟩ ?_ (aL _) (by show 2<=sizeLine;decide) (.cons ⟨_,rfl⟩ (.cons ru .nil)) ((p_.2 _ OX).trans ht);obtain⟨o,q,_⟩:=Bo;exact⟨o,q⟩
  refine⟨.ref s.heap.objs.size,_,I2,rfl,⟨_,x,rfl,I.bA.fresh (aL _),rfl,fun ys hy=>by rw[I.rR hy hq];exact hx⟩,⟨⟨u',OW⟩,Bo⟩,fun b hb=>?_⟩;have f0:=(hf b hb).1;rw[ak]
  .exact f0
  .rcases bK.mp hb with rfl|hb
   .exact OX.symm
   .rw[bS.mp hb];obtain⟨o,q,_⟩:=hi;exact aX (aY q)
 done:=by
  intro X hP hw hK i ae s σ H E uk I hf st hg;subst hP hw hK;have hc:X.calm=true:=uk.elim id fun z=>(show False from z).elim;obtain⟨xs,hq,hx⟩:=hg;obtain⟨its,rv,p,hz⟩:=I.tuple hq;obtain⟨f0,f1,f2,f3,f4,f5⟩:=hf it (by simp);obtain⟨⟨old,he⟩,hi⟩:=st;have hl:=rv.length;unfold pyNext;have hT:s.TypeIs (.ref e) "enumerate":=⟨_,he,rfl⟩
  refine aI (uc (tG (name:=Str.ofString "__next__") hT F.slot_enumerate_next (pS F.slot_enumerate_next hT F.entry_enumerate_next ?_ (F.args_enumerate_next_1 _))));change wpAny _ _ (field (.ref e) 2 >>= _) _ _ _;refine aI (iI he rfl (x:=.ref it) rfl (aI (sC (I.ok.hd hc) hi p (by simp;lia) fun h' x eb sr=>?_)));obtain⟨o,ho,Jg⟩:=sr;exact aI (wpAny_isInstance (T:="StopIteration") (b:=true) ⟨o,ho,Jg⟩ isSubtype_stop (wpAny_pure ⟨rfl,I.turned (t':=s.toks) (fun b o hb e=>eb b o hb e) f0 f1 f3 f4 f5⟩))
 self:=fun _ _ _ _ _ st h=>by
  obtain⟨⟨old,he⟩,_⟩:=st;exact tU he h
section
variable {X:Cx}
def KY(K:PySem.W.Frag)(ta:TA):TI:=fun σ H R=>ta σ H fun vs H1=>∃a xs,vs=[.ref a]/\cx K H1 a xs/\R (GC K a) H1
theorem qt(hg:Gl X "enumerate")(hm:X.mg "enumerate"=none)(ha:PA X [a] ta)(hs:starEach [a] X.env=[(false,eval a X.env)]:=by rfl):
  PI X (.Tuple es x1 Kq) (.Call (.Name "enumerate" p) [a] [] pos) (KY X.K ta):=by
 intro ae s σ H R I h;refine Call_ (jE I hg hm (by decide +kernel:bootBuiltins "enumerate"=some (.type "enumerate")) (pC (bZ (ha pos ae s σ H _ I h) fun us s1 ⟨vs,H1,I1,r1,q1⟩=>?_) hs rfl));obtain⟨l,xs,rfl,hl,q⟩:=q1;obtain⟨u1,rfl,UE⟩:=r1.one;obtain rfl:u1=Value.ref l:=UE;obtain⟨its,rv,pt,hz⟩:=I1.tuple hl;have et:l<s1.heap.objs.size:=by obtain⟨o,e,_⟩:=pt;exact aY e
 refine yT (show s1.heap.IsTuple l its.toArray from pt) fun h' he hi k=>?_;have jn:s1.heap.objs.size+1≠s1.heap.objs.size:=Nat.succ_ne_self _;refine tU he ?_;have I2:aK X ae σ H1 { s1 with heap:=h' }:=I1.kept (t':=s1.toks) k;refine⟨s1.heap.objs.size+1,[s1.heap.objs.size+1,s1.heap.objs.size],_,_,H1,rfl,I2,yU l _ _ jn (aX (e_ et)) (aX et),⟨⟨_,he⟩,hi⟩,fun b hb=>?_,q⟩;have oI:s1.heap.objs.size<=b:=by
  rcases bK.mp hb with rfl|hb
  .exact Nat.le_succ _
  .rw[bS.mp hb];exact aL _
 exact I1.vG oI (I1.bA.fresh oI)
theorem qu{K:PySem.W.Frag}{a D:Addr}{xs:List V}{g:TG}{tt:TT}{te:TE}{fin:Hp->Prop}{σB:St}{H0:Hp}(Pv:Nat->List V->St->Hp->Prop)(h0:Pv 0 [] σB H0)(hl:∀i ys σ H,i<=xs.length->Pv i ys σ H->cx K H a xs)(hs:∀i x p ys σ H (Kt:V->St->Hp->Prop) (Kf:St->Hp->Prop),xs[i]?=some x->Pv i ys σ H->H p=none->
   (∀v σ2 H4,H4 D=some (.lst ys)->ys.length<sizeLine->Pv (i+1) (ys++[v]) σ2 (upd H4 D (.lst (ys++[v])))->Kt v σ2 H4)->(∀σ2 H3,Pv (i+1) ys σ2 H3->Kf σ2 H3)->
   g (.ref p) σ (upd H p (.tup [.int i,x])) fun σ2 H2=>tt σ2 H2 fun b H3=>if b=true then te σ2 H3 fun v H4=>Kt v σ2 H4 else Kf σ2 H3)(hd:∀ys σ H,Pv xs.length ys σ H->fin H):gZ (GC K a) g tt te D fin σB H0:=by
 refine⟨fun i m σ H=>m=xs.length-i/\i<=xs.length/\∃ys,Pv i ys σ H,⟨xs.length,by simp,df _,[],h0⟩,?_⟩;rintro i m σ H ⟨rfl,hi,ys,p⟩;have q:=hl i ys σ H hi p;by_cases et:i<xs.length
 .refine .inr ⟨⟨xs,xs[i],q,by simp[et]⟩,?_⟩;rintro x H' ⟨pp,v,rfl,hn,rfl,hv⟩;exact hs i v pp ys σ _ (fun v σ2 H4=>∃ys,H4 D=some (.lst ys)/\ys.length<sizeLine/\∃m',m'<xs.length-i/\m'=xs.length-(i+1)/\i+1<=xs.length/\∃oJ,Pv (i+1) oJ σ2 (upd H4 D (.lst (ys++[v]))))
   (fun σ2 H3=>∃m',m'<xs.length-i/\m'=xs.length-(i+1)/\i+1<=xs.length/\∃oJ,Pv (i+1) oJ σ2 H3) (hv xs q) p hn
   (fun v σ2 H4 z1 z2 z3=>⟨ys,z1,z2,_,by lia,rfl,et,_,z3⟩) (fun σ2 H3 z=>⟨_,by lia,rfl,et,_,z⟩)
 .have e:i=xs.length:=by lia
  subst e;exact .inl ⟨⟨xs,q,aL _⟩,hd ys σ H p⟩
end
theorem aK.freeze{X:Cx}{ae:List (Addr×Obj)}{σ:St}{H:Hp}{s:Shared}{d:Addr}{u:HO}{o:Obj}(I:aK X ae σ H s)(hd:H d=some u)(ho:s.heap.get? d=some o)(hu:(∀xs,u≠.tup xs)/\(∀o v,u≠.iF o v)/\(∀ps,u≠.m6 ps)/\(∀x,u≠.own x)):
  aK X ae σ (upd H d (.iF o u)) s:=by
 have ok:iM X.prog X.w (upd H d (.iF o u)) s.heap:=fun b v e=>by
  have st:∀ {b v},bQ X.prog X.w H s.heap b v->bQ X.prog X.w (upd H d (.iF o u)) s.heap b v:=fun {b v} x=>
   x.oC (fun _ _ _ q=>q) (fun c q=>by rw[ak (fun z=>by rw[z,hd] at q;exact hu.2.2.2 _ (bR q))];exact q) fun c xs q=>by rw[ak (fun z=>by rw[z,hd] at q;exact hu.1 _ (bR q))];exact q
  by_cases hb:b=d
  .subst hb;rw[af] at e;cases e;exact⟨ho,st (I.bA b u hd)⟩
  .rw[ak hb] at e;exact st (I.bA b v e)
 have r:=I.step (h':=s.heap) (H':=upd H d (.iF o u)) (g':=s.gens) (t':=s.toks) (d':=s.drawn) (ch:=[]) (fun _ z=>absurd z (by simp)) (fun b o' _ _ _ q _=>q) (fun b o' _ _ _ q _=>⟨o'.slots,q⟩)
  (fun b o' _ q n=>by rw[ak (fun z=>by rw[z,hd] at n;cases n)];exact n) (fun b o' _ q=>⟨o',q⟩)
  (fun b xs q=>by rw[ak (fun z=>by rw[z,hd] at q;exact hu.1 _ (bR q))];exact q) (fun b o' v q=>by rw[ak (fun z=>by rw[z,hd] at q;exact hu.2.1 _ _ (bR q))];exact q)
  (fun b ps q=>⟨#[],by rw[ak (fun z=>by rw[z,hd] at q;exact hu.2.2.1 _ (bR q)),q];simp⟩) (fun m hm=>hm) ok I.bare
 exact r
def KZ(d:Addr)(o:Obj)(kvs:List (dq×V)):It:=
 ⟨fun i H=>H d=some (.iF o (.dK kvs))/\i<kvs.length,fun i H x H'=>H'=H/\∃k v,kvs[i]?=some (k,v)/\x=kV k,fun i H=>H d=some (.iF o (.dK kvs))/\kvs.length<=i,fun _ _=>False⟩
theorem GD{P:Program}{w:World}{k:dq}{u:Value}(h:(bq P w).is k u=true):be (kV k) u:=by
 cases k with
 |inl i=>
  have h':Value.isInt i u=true:=h;cases u <;> simp[Value.isInt] at h' <;> try exact h'.elim
  all_goals first|(subst h';exact⟨_,rfl⟩)|(rw[<-h'];exact⟨_,rfl⟩)|(rw[h'];exact⟨_,rfl⟩)
 |inr x=>
  have h':Value.isStrOf x u=true:=h;cases u <;> simp[Value.isStrOf] at h' <;> try exact h'.elim
  all_goals first|(subst h';exact⟨_,rfl⟩)|(rw[<-h'];exact⟨_,rfl⟩)|(rw[h'];exact⟨_,rfl⟩)
theorem sG{P:Program}{w:World}{K:PySem.W.Frag}{tg:Expr}(d it:Addr)(o:Obj)(kvs:List (dq×V))(es:Array DictEntry)(ep:Nat)(GE:o.data=.dict es ep):
  uj P w K tg (KZ d o kvs) [it] it (fun i h=>h.IsKeyIter it d i kvs.length ep) where
 mem:=by simp
 obj:=fun i h st b hb=>by
  have e:b=it:=by simpa using hb
  subst e;obtain⟨o,e,c,d⟩:=st;exact⟨o,e,fun v z=>by rw[d] at z;cases z⟩
 keep:=fun i h h' st k=>st.at fun o e=>k it (by simp) o e
 item:=by
  intro X hP hw hK i ae s σ H E uk I hf st hg;subst hP hw hK;have hc:X.calm=true:=uk.elim id fun z=>(show False from z).elim;obtain⟨hd,hi⟩:=hg;obtain⟨ho,z,hS,vs,kv,ob,vq,J_,g1,g2,g3,g4,g5,g6⟩:=I.bA d _ hd;rw[ho] at g1;cases g1;rw[GE] at g3;cases g3;have hm:s.heap.DictAt (bq X.prog X.w) d vs ep:=⟨o,es,ho,g2,GE,g4,g5,g6⟩
  have dY:=kv.length;obtain⟨f0,f1,f2,f3,f4,f5⟩:=hf it (by simp);have lW:i<vs.length:=by lia
  obtain⟨⟨k,v⟩,hv⟩:∃p,vs[i]?=some p:=⟨_,cm lW⟩
  refine wpAny_pyNext_dict_item (by rw[<-dY];exact st) hm hv fun key h' hk aT sb=>?_;have I1:aK X ae σ H { s with heap:=h' }:=I.turned (t':=s.toks) (fun b o hb e=>(sb.2 b hb).trans e) f0 f1 f3 f4 f5;obtain⟨oi,ei,ci,di⟩:=id aT;have BJ:(kvs.map (·.1))[i]?=some k:=by rw[kv.keys,bn,hv];rfl
  obtain⟨p,hp,hpk⟩:∃p,kvs[i]?=some p/\p.1=k:=by
   rw[bn] at BJ;cases q:kvs[i]? with
   |none=>rw[q] at BJ;cases BJ
   |some p=>rw[q] at BJ;exact⟨p,rfl,bR BJ⟩
  refine⟨key,rfl,zI (s:={ s with heap:=h' }) ei ci di (by decide) ⟨kV k,H,I1,GD hk,⟨rfl,k,p.2,by rw[hp,<-hpk],rfl⟩,by rw[dY];exact aT,fun b hb=>(hf b hb).1⟩⟩
 done:=by
  intro X hP hw hK i ae s σ H E uk I hf st hg;subst hP hw hK;have hc:X.calm=true:=uk.elim id fun z=>(show False from z).elim;obtain⟨hd,hi⟩:=hg;obtain⟨ho,z,hS,vs,kv,ob,vq,J_,g1,g2,g3,g4,g5,g6⟩:=I.bA d _ hd;rw[ho] at g1;cases g1;rw[GE] at g3;cases g3;have hm:s.heap.DictAt (bq X.prog X.w) d vs ep:=⟨o,es,ho,g2,GE,g4,g5,g6⟩
  have dY:=kv.length;obtain⟨f0,f1,f2,f3,f4,f5⟩:=hf it (by simp);exact wpAny_pyNext_dict_end (I.ok.hd hc) (by rw[<-dY];exact st) hm (gU (by lia)) fun h' eb=>⟨rfl,I.turned (t':=s.toks) (fun b o hb e=>eb b o hb e) f0 f1 f3 f4 f5⟩
 self:=fun _ _ _ _ _ st h=>wpAny_pyIter_keyiter st h
section
variable {X:Cx} {tg:Expr}
def OZ(tl:TE):TI:=fun σ H R=>tl σ H fun x H1=>∃d kvs,x=.ref d/\H1 d=some (.dK kvs)/\∀o,R (KZ d o kvs) (upd H1 d (.iF o (.dK kvs)))
theorem Ai{l:Expr}{tl:TE}(hl:PE X l tl):PI X tg l (OZ tl):=by
 intro ae s σ H R I h;refine bZ (hl ae s σ H _ I h) fun v s1 ⟨x,H1,I1,r1,q1⟩=>?_;obtain⟨d,kvs,e,hd,q⟩:=q1;subst e;cases r1;obtain⟨z,hS,vs,kv,o,es,ep,g1,g2,g3,g4,g5,g6⟩:=Dx I1.bA hd;have hm:s1.heap.DictAt (bq X.prog X.w) d vs ep:=⟨o,es,g1,g2,g3,g4,g5,g6⟩
 have I2:=I1.freeze hd g1 ⟨(fun _ z=>by cases z),(fun _ _ z=>by cases z),(fun _ z=>by cases z),(fun _ z=>by cases z)⟩;refine wpAny_pyIter_dict hS hm ?_;refine⟨s1.heap.objs.size,[s1.heap.objs.size],_,_,_,rfl,I2.kept (t':=s1.toks) fun b o e=>cq _ e,sG d _ o kvs es ep g3,⟨_,cV _ rfl,rfl,by rw[kv.length];rfl⟩,fun b hb=>?_,q o⟩;have e:b=s1.heap.objs.size:=by simpa using hb
 subst e;exact I2.vG (aL _) (I2.bA.fresh (aL _))
end
theorem uP:typeLookup (.type "list") "keys"=pure none:=by rw[typeLookup_type,builtinLookup_eq_fast];kernel_rfl
theorem oK:typeLookup (.type "list") "__getattr__"=pure none:=by rw[typeLookup_type,builtinLookup_eq_fast];kernel_rfl
theorem qw(l:Addr)(u:Tok)(kP:Array Value)(n:Nat):
  Meets (Builtin.«object.__getattribute__» ⟨[.ref l,.str "keys" u],[]⟩) (fun A R s=>s.heap.get? l=some { cls:=.type "list",data:=.seq kP n }/\raisesAttr (.ref l) "keys" A R s):=
 Meets.of_wp fun prog w A R s hs=>by
  obtain⟨hp,g,d,tk,os⟩:=s;obtain⟨hl,hs⟩:=hs;have hT:(⟨hp,g,d,tk,os⟩:Shared).TypeIs (.ref l) "list":=⟨_,hl,rfl⟩
  have f1:=uP;unfold Builtin.«object.__getattribute__»;repeat (any_goals (first|assumption|wp_step))
  exact wpAny_raiseAttrError hs.1 hs.2 (attrMsg_fits (by decide +kernel) (by decide +kernel))
theorem K0(hA:A.handled=none)(hl:s.heap.get? l=some { cls:=.type "list",data:=.seq kP n })(h:∀h' tk,(∀b o,s.heap.get? b=some o->h'.get? b=some o)->Q none { s with heap:=h',toks:=tk }):wpAny (model prog w) A (getAttr? (.ref l) "keys") Q E s:=by
 obtain⟨hp,g,d,tk,os⟩:=s;have hT:∀tk,(⟨hp,g,d,tk,os⟩:Shared).TypeIs (.ref l) "list":=fun _=>⟨_,hl,rfl⟩
 have f1:=sub_AttributeError;have f3:=F.slot_list_getattribute.lookup;have f4:=F.slot_list_getattribute.bind (.ref l);have f5:=oK;unfold getAttr? getAttrBy?;refine aI (wpAny_mkText ?_);refine aI (uc ?_);unfold getAttrBy;repeat (any_goals (first|assumption|((with_reducible show wpAny _ _ (call (Value.builtin "list.__getattribute__") _ _) _ _ _);refine lC F.slot_list_getattribute (hT _) F.entry_list_ga (F.args_list_getattribute_2 _ _) (qw l _ kP n) ⟨hl,hA,fun h' tk' e hx=>?_⟩)|wp_step))
 obtain⟨t',u',he⟩:=hx.there;show wpAny _ _ (getattributeRaised _ _ _ _ _ _ _) _ _ _;unfold getattributeRaised;repeat (any_goals (first|assumption|wp_step))
 exact h _ _ hx.keeps
theorem oy:entryFor table "dict.update.loop"=some Builtin.«dict.update.loop»:=entryFor_of_tree (by kernel_rfl)
theorem g8:plainId "dict.update.loop"=true:=by decide +kernel
def lO(P:Program)(w:World)(h:Heap)(vs:List Value)(ps:List (dq×Value)):Prop:=vs.length=ps.length/\∀ (i:Nat) (v:Value),vs[i]?=some v->∃ (a:Addr) (o:Obj) (n:Nat) (key:Value) (k:dq) (x:Value),v=Value.ref a/\h.get? a=some o/\o.cls=.type "tuple"/\o.data=.seq #[key,x] n/\(bq P w).is k key=true/\ps[i]?=some (k,x)
theorem lO.keeps{P:Program}{w:World}{h h':Heap}{vs:List Value}{ps:List (dq×Value)}(x:lO P w h vs ps)(k:∀b o,(∃xs n,o.data=.seq xs n)->h.get? b=some o->h'.get? b=some o):lO P w h' vs ps:=
 ⟨x.1,fun i v hv=>let ⟨a,o,n,key,kk,y,e1,e2,e3,e4,e5,e6⟩:=x.2 i v hv;⟨a,o,n,key,kk,y,e1,k a o ⟨_,_,e4⟩ e2,e3,e4,e5,e6⟩⟩
section
variable {prog:Program} {w:World} {A:Around} {E:Value->Shared->Prop} {s:Shared} {R:Result->Shared->Prop} {l d Ia:Addr}
theorem BK{vs:List Value}{ps:List (dq×Value)}(hh:A.handled=none)(hlD:l≠d)(T_:l≠Ia)(UF:d≠Ia):
  ∀ (k i:Nat) (j:Int) (t:Tok) (s:Shared) (kvs:List (dq×Value)),vs.length-i=k->i<=vs.length->s.heap.IsListIter Ia l i->s.heap.IsList l vs.toArray->lO prog w s.heap vs ps->s.heap.DictOf (bq prog w) d kvs->kvs.length+k<=4096->
   (∀h' tk,(∀b o,b≠d->b≠Ia->s.heap.get? b=some o->h'.get? b=some o)->h'.DictOf (bq prog w) d ((ps.drop i).foldl (fun m p=>stored m p.1 p.2) kvs)->R (.ok (.ret .none)) { s with heap:=h',toks:=tk })->
   codeAny (model prog w) A (.builtin "dict.update.loop" ⟨[.ref d,.ref Ia,.int j t,.none],[]⟩) R s:=by
 intro k;induction k with
 |zero=>
  intro i j t s kvs hk hi rc hl hp hD hz hR;refine lq oy ?_;rw[pL g8 _];show wpAny _ A.in1 (pyNext (.ref Ia) >>= _) _ _ s;refine aI (xP (show A.in1.handled=none from hh) rc hl (by simp;lia) fun h' eb=>?_);have hd:ps.drop i=[]:=by rw[List.drop_eq_nil_iff];have:=hp.1;lia
  have XN:=hR h' s.toks (fun b o hb Gm e=>eb b o Gm e);rw[hd] at XN;refine aI (wpAny_pure (wpAny_pure (XN ?_)));obtain⟨o,es,ep,q1,q2⟩:=hD;exact⟨o,es,ep,eb d o UF q1,q2⟩
 |succ k ih=>
  intro i j t s kvs hk hi rc hl hp hD hz hR;have et:i<vs.length:=by lia
  refine lq oy ?_;rw[pL g8 _];show wpAny _ A.in1 (pyNext (.ref Ia) >>= _) _ _ s;have hv:vs[i]?=some vs[i]:=cm et;refine aI (xK rc hl (x:=vs[i]) (by simpa using hv) fun h1 KH zZ=>?_);obtain⟨a,o,n,key,kk,x,ea,eo,ec,ed,ek,ep⟩:=hp.2 i _ hv;rw[ea];have Oy:∀b ob,(∃xs n,ob.data=.seq xs n)->s.heap.get? b=some ob->b≠Ia:=fun b ob ⟨xs,m,z⟩ e z'=>by
   obtain⟨oi,e1,_,d1⟩:=rc;rw[z',e1] at e;cases e;rw[d1] at z;cases z
  have Oz:lO prog w h1 vs ps:=hp.keeps fun b ob hb e=>(zZ.2 b (Oy b ob hb e)).trans e;have K1:h1.DictOf (bq prog w) d kvs:=hD.sameBut zZ UF;have Go:h1.IsList l vs.toArray:=by
   obtain⟨ol,q1,q2⟩:=hl;exact⟨ol,(zZ.2 l T_).trans q1,q2⟩
  have OA:h1.get? a=some o:=(zZ.2 a (Oy a o ⟨_,_,ed⟩ eo)).trans eo;have neD:∀b ob,(∃xs n,ob.data=.seq xs n)->h1.get? b=some ob->b≠d:=fun b ob ⟨xs,m,z⟩ e z'=>by
   obtain⟨oS,es,J_,q1,_,q4,_⟩:=K1;rw[z',q1] at e;cases e;rw[q4] at z;cases z
  have hT:Shared.TypeIs { s with heap:=h1 } (.ref a) "tuple":=⟨o,OA,ec⟩
  refine aI (ju ?_);show wpAny _ A.in1 (Sem.tryCatch (Builtin.Dict.pairItems (.ref a)) _ >>= _) _ _ _;refine aI (wpAny_tryCatch ?_);unfold Builtin.Dict.pairItems;refine aI (wpAny_typeOf hT ?_);rw[ao (by decide)];refine aI (ua OA ed (wpAny_pure ?_));show wpAny _ A.in1 (holding [key,x] (dictSet d key x)) _ _ _;refine ju (wpAny_dictSet_pairs (s:={ s with heap:=h1 }) ek K1 (fun h2 lX Dc=>?_) (bB (by lia:kvs.length<=4096) (by decide)));refine wpAny_pure ⟨plainId_quiet g8 _,?_⟩;have Bo:i<ps.length:=by have:=hp.1;lia
  have Ub:ps.drop i=(kk,x)::ps.drop (i+1):=by
   rw[tm Bo];have:ps[i]?=some ps[i]:=cm Bo;rw[this] at ep;rw[bR ep]
  have dY:(stored kvs kk x).length<=kvs.length+1:=by
   unfold stored;split
   .rw[aO];lia
   .rw[cr];simp
  refine ih (i+1) _ _ { s with heap:=h2,toks:=s.toks+1 } (stored kvs kk x) (by lia) et ?_ ?_ (Oz.keeps fun b ob hb e=>(Dc.2 b (neD b ob hb e)).trans e) lX (by lia) fun h3 Uc k3 D3=>?_
  .obtain⟨oi,q1,q2⟩:=KH;exact⟨oi,(Dc.2 Ia (Ne.symm UF)).trans q1,q2⟩
  .obtain⟨ol,q1,q2⟩:=Go;exact⟨ol,(Dc.2 l hlD).trans q1,q2⟩
  .refine hR h3 Uc (fun b ob hb Gm e=>k3 b ob hb Gm ((Dc.2 b hb).trans ((zZ.2 b Gm).trans e))) ?_;rw[Ub];exact D3
end
section
variable {prog:Program} {w:World} {A:Around} {E:Value->Shared->Prop} {s:Shared} {l:Addr}
theorem BM{vs:List Value}{n:Nat}{ps:List (dq×Value)}{Q:Value->Shared->Prop}(hh:A.handled=none)(hl:s.heap.get? l=some { cls:=.type "list",data:=.seq vs.toArray n })(hp:lO prog w s.heap vs ps)(hz:vs.length<=4096)(h:∀h' tk,h'.DictOf (bq prog w) s.heap.objs.size (ps.foldl (fun m p=>stored m p.1 p.2) [])->(∀b o,s.heap.get? b=some o->h'.get? b=some o)->Q (.ref s.heap.objs.size) { s with heap:=h',toks:=tk }):
  wpAny (model prog w) A (call (.type "dict") [.ref l]) Q E s:=by
 refine callType_codes (Q₁:=fun obj s₁=>obj=.ref s.heap.objs.size/\s₁={ s with heap:=s.heap.push { cls:=.type "dict",data:=.dict #[] } }) F.kt_called_dict (F.kt_typeCall_dict_1 _) F.entry_dict_init (kt_code_dict_new _ ⟨rfl,rfl⟩) ?_;rintro obj s₁ ⟨rfl,rfl⟩;have nA:(s.heap.push { cls:=.type "dict",data:=.dict #[] }).DictOf (bq prog w) s.heap.objs.size []:=Heap.DictOf.new s.heap;have hsz:(s.heap.push { cls:=.type "dict",data:=.dict #[] }).objs.size=s.heap.objs.size+1:=iH ..;have up:∀b o,s.heap.get? b=some o->(s.heap.push { cls:=.type "dict",data:=.dict #[] }).get? b=some o:=fun b o e=>cq _ e;have et:l<s.heap.objs.size:=aY hl;refine⟨nA.typeIs,F.args_dict_init_2 _ _,?_⟩;generalize (s.heap.push { cls:=.type "dict",data:=.dict #[] })=hD at *;have hT:Shared.TypeIs { s with heap:=hD } (.ref l) "list":=⟨_,up _ _ hl,rfl⟩
 unfold Builtin.«dict.__init__»;refine aI ?_;unfold Builtin.Dict.selfAndRest;refine aI (wpAny_notOrdered_dict nA.typeIs (wpAny_pure ?_));show wpAny _ _ (Builtin.Dict.updateFrom "dict.__init__" s.heap.objs.size (.ref l) [] .none) _ _ _;unfold Builtin.Dict.updateFrom;refine aI (wpAny_typeOf hT ?_);rw[ao (by decide)];refine aI (K0 (s:={ s with heap:=hD }) (show A.in1.handled=none from hh) (up _ _ hl) fun h1 tk1 k1=>?_);have Go:h1.get? l=some { cls:=.type "list",data:=.seq vs.toArray n }:=k1 _ _ (up _ _ hl);have UG:h1.IsList l vs.toArray:=⟨_,Go,rfl,n,rfl⟩
 rw[ao (by rfl)];refine aI (iK ?_);refine aI (pQ (s:={ s with heap:=h1,toks:=tk1 }) UG ?_);have UH:s.heap.objs.size<h1.objs.size:=by
  obtain⟨o,es,ep,q1,q2⟩:=nA;exact aY (k1 _ _ q1)
 refine wpAny_pure ⟨plainId_quiet g8 _,?_⟩;refine BK (l:=l) (vs:=vs) (ps:=ps) (Ia:=h1.objs.size) (show A.in1.handled=none from hh) (aX et) (aX (pU et UH)) (aX UH) vs.length 0 0 0 _ [] (by simp) (df _) ⟨_,cV _ rfl,rfl,rfl⟩ ?_ ?_ ?_ (by simpa using hz) fun h2 tk2 k2 D2=>?_
 .exact⟨_,cq _ Go,rfl,n,rfl⟩
 .exact hp.keeps fun b o _ e=>cq _ (k1 _ _ (up _ _ e))
 .obtain⟨o,es,ep,q1,q2⟩:=nA;exact⟨o,es,ep,cq _ (k1 _ _ q1),q2⟩
 .refine⟨rfl,h h2 tk2 D2 fun b o e=>k2 b o (aX (aY e)) (aX (pU (aY e) UH)) (cq _ (k1 _ _ (up _ _ e)))⟩
end
def iU(m:List (dq×V))(ps:List (dq×V)):List (dq×V):=ps.foldl (fun m p=>fS m p.1 p.2) m
theorem KV.fold:∀ {ps:List (dq×V)} {us:List (dq×Value)} {m:List (dq×V)} {m':List (dq×Value)},KV ps us->KV m m'->KV (iU m ps) (us.foldl (fun m p=>stored m p.1 p.2) m')
 |[],_,_,_,.nil,r=>r
 |(k,v)::ps,_,m,m',.cons (b:=(k',u)) q rr,r=>by
  obtain⟨rfl,qv⟩:k=k'/\be v u:=q;rename_i us;have:=KV.fold (ps:=ps) (us:=us) rr (r.put k qv);exact this
theorem qx:∀ (ps m:List (dq×V)),(iU m ps).length<=m.length+ps.length
 |[],m=>by show m.length<=_;simp
 |p::ps,m=>by
  have h1:=qx ps (fS m p.1 p.2);have h2:=g7 m p.1 p.2;show (iU (fS m p.1 p.2) ps).length<=_;rw[cw];lia
theorem Aj{P:Program}{w:World}{H:Hp}{h:Heap}(ok:iM P w H h):∀ (ts:List Addr) (ps:List (dq×V)),ts.length=ps.length->(∀i,i<ps.length->∃k v,ps[i]?=some (k,v)/\H (ts.getD i 0)=some (.tup [kV k,v]))->
  ∃us:List (dq×Value),KV ps us/\lO P w h (ts.map Value.ref) us
 |[],[],_,_=>⟨[],.nil,rfl,fun i v hv=>by simp at hv⟩
 |[],_::_,e,_=>by simp at e
 |_::_,[],e,_=>by simp at e
 |t::ts,(k,v)::ps,e,hs=>by
  obtain⟨us,r,T⟩:=Aj ok ts ps (by simpa using e) fun i hi=>by
   obtain⟨k',v',h1,h2⟩:=hs (i+1) (by simp;lia);exact⟨k',v',by simpa using h1,by simpa using h2⟩
  obtain⟨k0,v0,g1,g2⟩:=hs 0 (by simp);have g1':(k,v)=(k0,v0):=by simpa using g1
  cases g1';have g2':H t=some (.tup [kV k,v]):=by simpa using g2
  obtain⟨_,its,rv,o,q1,q2,n,q3⟩:=ok t _ g2';cases rv with
  |cons ra rr=>
   cases rr with
   |cons rb rr2=>
    cases rr2;rename_i ka vb;refine⟨(k,vb)::us,.cons ⟨rfl,rb⟩ r,by simp[T.1],fun i x hx=>?_⟩;cases i with
    |zero=>
     have sr:Value.ref t=x:=by simpa using hx
     exact⟨t,o,n,ka,k,vb,sr.symm,q1,q2,q3.1,sA ra,rfl⟩
    |succ i=>exact T.2 i x (by simpa using hx)
section
variable {X:Cx}
def K2:List V->Hp->VK->Prop:=fun xs H Q=>∃ (l:Addr) (ts:List Addr) (ps:List (dq×V)),xs=[.ref l]/\H l=some (.lst (ts.map V.ref))/\ts.length=ps.length/\(∀i,i<ps.length->∃k v,ps[i]?=some (k,v)/\H (ts.getD i 0)=some (.tup [kV k,v]))/\ps.length<=4096/\
 ∀D,H D=none->Q (.ref D) (upd H D (.dK (iU [] ps)))
theorem yV(hc:X.calm=true):eN X (.type "dict") K2:=by
 intro ae s σ H xs us Q I r h;obtain⟨l,ts,ps,rfl,hl,dY,ht,hz,q⟩:=h;obtain⟨u1,rfl,r1⟩:=r.one;obtain rfl:u1=Value.ref l:=r1;obtain⟨z,its,n,rv,_,e⟩:=I.vR hl;have yP:its=ts.map Value.ref:=uJ rv;subst yP;obtain⟨vs,kv,T⟩:=Aj I.bA ts ps dY ht;refine BM (I.ok.hd hc) e T (by rw[aO,dY];exact hz) fun h' tk D k=>?_;have hs:sysModules<s.heap.objs.size:=pU (by decide:sysModules<mainGlobals) (I.mod.glob.keeps I.bk).lt;have I2:aK X ae σ (upd H s.heap.objs.size (.dK (iU [] ps))) { s with heap:=h',toks:=tk }:=by
  refine I.vW (t':=tk) k (k_ (aL _)) ⟨?_,?_,_,KV.fold kv .nil,D⟩
  .have:=qx ps [];exact bB this (bB (by simpa using hz) (by decide:4096<=sizeLine))
  .rw[kM];exact jA hs
 exact⟨.ref s.heap.objs.size,_,I2,rfl,q _ (I.bA.fresh (aL _))⟩
theorem qy{d:Addr}{o:Obj}{kvs:List (dq×V)}{g:TG}{tb:TS}{D:vB}{σ:St}{H:Hp}(Pv:Nat->St->Hp->Prop)(h0:Pv 0 σ H)(hl:∀i σ H,i<=kvs.length->Pv i σ H->H d=some (.iF o (.dK kvs)))(hs:∀i k v σ H,kvs[i]?=some (k,v)->Pv i σ H->g (kV k) σ H fun σ2 H2=>tb { D with nx:=Pv (i+1),ct:=Pv (i+1),bk:=D.nx } σ2 H2)(hd:∀σ H,Pv kvs.length σ H->D.nx σ H):
  ∃W:Nat->Nat->St->Hp->Prop,(∃m,W 0 m σ H)/\∀i m σ H,W i m σ H->
   ((KZ d o kvs).stop i H/\D.nx σ H)\/((KZ d o kvs).go i H/\∃N:St->Hp->Prop,(∀σ' H',N σ' H'->∃m',m'<m/\W (i+1) m' σ' H')/\∀x H',(KZ d o kvs).Ja i H x H'->g x σ H' fun σ2 H2=>tb { D with nx:=N,ct:=N,bk:=D.nx } σ2 H2):=by
 refine⟨fun i m σ H=>m=kvs.length-i/\i<=kvs.length/\Pv i σ H,⟨kvs.length,by simp,df _,h0⟩,?_⟩;rintro i m σ H ⟨rfl,hi,p⟩;have q:=hl i σ H hi p;by_cases et:i<kvs.length
 .refine .inr ⟨⟨q,et⟩,Pv (i+1),fun σ' H' p'=>⟨kvs.length-(i+1),by lia,rfl,et,p'⟩,fun x H' y=>?_⟩;obtain⟨rfl,k,v,hk,rfl⟩:=y;exact hs i k v σ _ hk p
 .have e:i=kvs.length:=by lia
  subst e;exact .inl ⟨⟨q,aL _⟩,hd σ H p⟩
theorem BN(hc:X.calm=true):eN X (.builtin "all") (fun xs H Q=>∃ (p:Addr) (bs:List Bool),xs=[.ref p]/\aU X.K H p (bs.map V.bl)/\Q (.bl (bs.all id)) H):=by
 intro ae s σ H xs us Q I r h;obtain⟨p,bs,rfl,hp,q⟩:=h;obtain⟨u1,rfl,r1⟩:=r.one;obtain rfl:u1=Value.ref p:=r1;obtain⟨its,rv,pl,hz⟩:=I.list hp;have yP:its=bs.map Value.bool:=by
  have go:∀ (bs:List Bool) (its:List Value),aW (bs.map V.bl) its->its=bs.map Value.bool:=by
   intro bs;induction bs with
   |nil=>intro its r;cases r;rfl
   |cons b bs ih=>
    intro its r;cases r with
    |cons r rr=>
     obtain rfl:=(show _=Value.bool b from r)
     rw[ih _ rr];rfl
  exact go bs its rv
 subst yP;obtain⟨ob,Ul,_⟩:=id pl.isList;have et:p<s.heap.objs.size:=aY Ul;refine call_all_walk (pQ pl.isList ⟨s.heap.objs.size,_,_,_,_,_,fun i=>bs.getD i true,rfl,Walks.list (show X.A.in1.handled=none from I.ok.hd hc) _ p (aX et) _,⟨⟨_,cV _ rfl,rfl,rfl⟩,pl.isList.push _⟩,fun i v s1 Q' E' hv hq=>?_,fun h' tk k=>?_⟩)
 .have yt:(bs.map Value.bool)[i]?=some v:=by simpa using hv
  rw[bn] at yt;cases eb:bs[i]? with
  |none=>rw[eb] at yt;cases yt
  |some b=>
   rw[eb] at yt;obtain rfl:Value.bool b=v:=bR yt;have:bs.getD i true=b:=by rw[bO,eb];rfl
   have F2:Q' b s1:=by rw[<-this];exact hq
   exact wpAny_pure F2
 .have keep:∀b o,s.heap.get? b=some o->h'.get? b=some o:=fun b o e=>k b o (by simpa using aX (aY e)) (cq _ e);refine⟨.bl (bs.all id),H,I.kept (t':=tk) keep,?_,q⟩;show Value.bool _=Value.bool _;congr 1;have go:∀ (bs:List Bool),((List.range bs.length).all fun i=>bs.getD i true)=bs.all id:=by
   intro bs;induction bs with
   |nil=>rfl
   |cons b bs ih=>
    rw[cw,tw,lu,List.all_map,lu,<-ih];rfl
  rw[<-go bs];simp
end
structure b_(P:Program)(w:World)(K:PySem.W.Frag)(mg:Str->Option Value)(base:Heap)(CX:vK)(k:Nat)(x:Str)(ps:List Str)(sp:Sp):Prop where
 ex:∃f fd,mg x=some (.ref f)/\PySem.W.keepIn K (.ref f)=true/\jI K fd ps []/\br P w K mg base CX k f fd ps sp
theorem aD(C:b_ X.prog X.w X.K X.mg X.base CX k x ps sp)(hr:bW k X.A)(hx:lI CX X E)(ha:PA X (e::es) t)(hg:Gl X x:=by rfl)(Ba:(x==("__debug__":Str))=false:=by decide)(he:starEach (e::es) X.env=(false,eval e X.env)::starEach es X.env:=by rfl)(xk:(backTo pos (starEach es X.env)).any (·.1)=false:=by rfl):
  PE X (.Call (.Name x p) (e::es) [] pos) (rY sp [] E t):=by
 obtain⟨f,fd,a,b,c,d⟩:=C.ex;exact F1 d hr hg a b c .nil hx ha Ba he xk
theorem aj(h:H D=none):aE H (upd H D o):=fun b u e=>by rw[ak (ai e h)];exact e
def a_(p:Addr)(H H':Hp):Prop:=∀b o,H b=some o->b≠p->H' b=some o
theorem a_.trans(a:a_ p H H1)(b:a_ p H1 H2):a_ p H H2:=fun c o h n=>b c o (a c o h n) n
theorem a_.upd:a_ p H (upd H p o):=fun b u h n=>by rw[ak n];exact h
theorem a_.of(s:aE H H'):a_ p H H':=fun b o h _=>s b o h
theorem a_.free(s:a_ p H H')(hp:H' p≠none)(h:H' q=none):H q=none:=by
 cases z:H q with
 |none=>rfl
 |some o=>
  by_cases e:q=p
  .subst e;exact absurd h hp
  .rw[s q o z e] at h;cases h
theorem j7(h:j<n):C3 n (j:Int)=some j:=by
 unfold C3;rw[ao (by lia),ao (by lia)];simp
theorem j8(h:as.length=n):(as++[t]).getD j 0=if j=n then t else as.getD j 0:=by
 rw[bO,bO];by_cases hj:j=n
 .subst hj;subst h;rw[ao rfl,nZ (aL _),Nat.sub_self];rfl
 .rw[ap hj];by_cases et:j<as.length
  .rw[i8 et]
  .rw[nZ (by lia),gU (by simp;lia),gU (by lia)]
def Holds(H:Hp)(as:List Addr)(n:Nat)(o:Nat->HO):Prop:=as.length=n/\∀j,j<n->H (as.getD j 0)=some (o j)
theorem Holds.nil:Holds H [] 0 o:=⟨rfl,fun j hj=>absurd hj (by lia)⟩
theorem Holds.snoc(h:Holds H as n o)(ht:H t=some (o n)):Holds H (as++[t]) (n+1) o:=by
 refine⟨by rw[cr,h.1];rfl,fun j hj=>?_⟩;rw[j8 h.1];by_cases e:j=n
 .rw[ao e,e];exact ht
 .rw[ap e];exact h.2 j (by lia)
theorem Holds.mono(h:Holds H as n o)(e:∀j,j<n->H (as.getD j 0)=some (o j)->H' (as.getD j 0)=some (o j)):Holds H' as n o:=⟨h.1,fun j hj=>e j hj (h.2 j hj)⟩
end L2
namespace PyProof.Rows
open PySem
def eR:Bool->Keyed->Array Keyed->Nat->Nat->Nat->StateT SortSt Sem (Option Nat):=sortPriv% PySem.Builtin.gallop
def qz:Array Keyed->Array Keyed->StateT SortSt Sem (Array Keyed):=sortPriv% PySem.Builtin.mergeLo
def qA:Array Keyed->Array Keyed->StateT SortSt Sem (Array Keyed):=sortPriv% PySem.Builtin.mergeHi
def cU:Nat->StateT SortSt Sem Unit:=sortPriv% PySem.Builtin.setMinGallop
def uQ(prog:Program)(w:World)(A:Around)(s:Shared)(κ:SortKind)(a₀:Array Keyed)(key:Keyed->Int):Prop:=
 ∀x y,x∈a₀.toList->y∈a₀.toList->∀ (Q:Bool->Shared->Prop) (E:Value->Shared->Prop),Q (decide (key x<key y)) s->wpAny (model prog w) A (keyLt' κ x.1 y.1) Q E s
structure SQ(κ:SortKind)(a₀:Array Keyed)(pd:Array (Nat×Nat×Nat))(st:SortSt):Prop where
 perm:(arrOf st).Perm a₀
 kind:kindOf st=κ
 failed:failedOf st=none
 pend:pendingOf st=pd
def kk(key:Keyed->Int)(a:Array Keyed)(i:Nat):Int:=(a[i]?.map key).getD 0
def So(key:Keyed->Int)(a:Array Keyed)(lo hi:Nat):Prop:=∀i j,lo<=i->i<=j->j<hi->kk key a i<=kk key a j
def lY(a b:Array Keyed)(lo hi:Nat):Prop:=∀k,k<lo\/hi<=k->b[k]?=a[k]?
theorem lY.refl{a:Array Keyed}{lo hi:Nat}:lY a a lo hi:=fun _ _=>rfl
theorem lY.trans{a b c:Array Keyed}{lo hi:Nat}(x:lY a b lo hi)(y:lY b c lo hi):lY a c lo hi:=fun k h=>(y k h).trans (x k h)
theorem lY.wide{a b:Array Keyed}{lo hi XO lW:Nat}(x:lY a b lo hi)(h1:XO<=lo)(h2:hi<=lW):lY a b XO lW:=fun k h=>x k (by lia)
theorem cJ(h:i<a.size):kk key a i=key a[i]:=by unfold kk;rw[c_ a i h];rfl
theorem fT(h:a[i]?=b[j]?):kk key a i=kk key b j:=by unfold kk;rw[h]
section
variable {prog:Program} {w:World} {A:Around} {E:Value->Shared->Prop} {s:Shared} {κ:SortKind} {a₀:Array Keyed} {pd:Array (Nat×Nat×Nat)} {key:Keyed->Int}
theorem SQ.size{st:SortSt}(h:SQ κ a₀ pd st):(arrOf st).size=a₀.size:=h.perm.size_eq
theorem SQ.setArr{st:SortSt}(h:SQ κ a₀ pd st){xs:Array Keyed}(hp:xs.Perm (arrOf st)):SQ κ a₀ pd (setArr st xs):=⟨hp.trans h.perm,h.kind,h.failed,h.pend⟩
theorem SQ.at{st:SortSt}(h:SQ κ a₀ pd st){i:Nat}(hi:i<a₀.size):∃p,(arrOf st)[i]?=some p/\p∈a₀.toList:=by
 have lW:i<(arrOf st).size:=by rw[h.size];exact hi
 exact⟨(arrOf st)[i],c_ _ i lW,(kH.mp h.perm).mem_iff.mp (by simp)⟩
theorem qB{st:SortSt}{x y:Keyed}{Q:Option Bool->SortSt->Prop}(hC:uQ prog w A s κ a₀ key)(hk:kindOf st=κ)(hx:x∈a₀.toList)(hy:y∈a₀.toList)(h:Q (some (decide (key x<key y))) st):wpS (model prog w) A E s (lt' x y) Q st:=by
 rw[lt'_eq];refine av (fW ?_);rw[hk];refine av (lE (uc (hC x y hx hy _ _ ⟨rfl,?_⟩)));exact aJ h
theorem bi{st:SortSt}{arr:Array Keyed}{i:Nat}{p:Keyed}{Q:Keyed->SortSt->Prop}(hi:arr[i]?=some p)(h:Q p st):wpS (model prog w) A E s (elem' arr i) Q st:=by
 rw[elem'_eq,hi];exact aJ h
theorem mw{st:SortSt}{i j:Nat}{Q:Option Bool->SortSt->Prop}(hC:uQ prog w A s κ a₀ key)(hB:SQ κ a₀ pd st)(hi:i<a₀.size)(hj:j<a₀.size)(h:∀b,b=decide (kk key (arrOf st) i<kk key (arrOf st) j)->Q (some b) st):wpS (model prog w) A E s (ltAt' i j) Q st:=by
 obtain⟨p,e1,m1⟩:=hB.at hi;obtain⟨q,e2,m2⟩:=hB.at hj;rw[ltAt'_eq];refine av (fW ?_);refine av (bi e1 (av (bi e2 (qB hC hB.kind m1 m2 (h _ ?_)))));unfold kk;rw[e1,e2];rfl
theorem o5{st:SortSt}{i j:Nat}{Q:Unit->SortSt->Prop}(hB:SQ κ a₀ pd st)(hj:j<=a₀.size)(h:∀aT,SQ κ a₀ pd aT->(∀k,(arrOf aT)[k]?=if i<=k/\k<j then (arrOf st)[i+j-1-k]? else (arrOf st)[k]?)->Q () aT):wpS (model prog w) A E s (reverseSlice' i j) Q st:=by
 rw[reverseSlice'_eq];exact fw (h _ (hB.setArr (mirror_perm _ _ _ _)) (getElem?_mirror_all (by rw[hB.size];exact hj)))
theorem DE{st:SortSt}{i j:Nat}{Q:Unit->SortSt->Prop}(hB:SQ κ a₀ pd st)(hi:i<a₀.size)(hj:j<=i)(h:∀aT,SQ κ a₀ pd aT->(∀k,(arrOf aT)[k]?=if k=j then (arrOf st)[i]? else if j<k/\k<=i then (arrOf st)[k-1]? else (arrOf st)[k]?)->Q () aT):wpS (model prog w) A E s (moveDown' i j) Q st:=by
 rw[moveDown'_eq];refine fw (h _ (hB.setArr (bubble_perm _ _ _)) fun k=>?_);have:=getElem?_bubble (xs:=arrOf st) (src:=i) (by rw[hB.size];exact hi) (i-j) (by lia) k;rw[show i-(i-j)=j by lia] at this;exact this
theorem GJ{st:SortSt}{lo n ok:Nat}{Q:Bool->SortSt->Prop}(hC:uQ prog w A s κ a₀ key)(hn:lo+n<=a₀.size)(bA:ok<=n)(hB:SQ κ a₀ pd st)(hs:So key (arrOf st) lo (lo+ok))(h:∀aT,SQ κ a₀ pd aT->So key (arrOf aT) lo (lo+n)->lY (arrOf st) (arrOf aT) lo (lo+n)->Q true aT):wpS (model prog w) A E s (binarySort' lo n ok) Q st:=by
 rw[binarySort'_eq];refine av (dz (fN (I:=fun k c aT=>c=(none,())/\SQ κ a₀ pd aT/\So key (arrOf aT) lo (lo+k)/\lY (arrOf st) (arrOf aT) lo (lo+n)) (Q:=fun c aT=>c=(none,())/\SQ κ a₀ pd aT/\So key (arrOf aT) lo (lo+n)/\lY (arrOf st) (arrOf aT) lo (lo+n)) ?_ (fun c aT hh=>⟨hh.1,hh.2.1,fun i j h1 h2 h3=>hh.2.2.1 i j h1 h2 (by lia),hh.2.2.2⟩) ⟨rfl,hB,fun i j h1 h2 h3=>?_,lY.refl⟩) ?_)
 .rintro k c aT BJ K3 ⟨rfl,RU,so,ou⟩;dsimp only;refine av (dz (fN (I:=fun x c K4=>(∃l r,c=(none,l,r)/\l<=r/\r<=k/\r<=l+(k-x)/\(∀i,i<l->kk key (arrOf aT) (lo+i)<=kk key (arrOf aT) (lo+k))/\(∀i,r<=i->i<k->kk key (arrOf aT) (lo+k)<=kk key (arrOf aT) (lo+i)))/\K4=aT) (Q:=fun c K4=>(∃l r,c=(none,l,r)/\l<=k/\(∀i,i<l->kk key (arrOf aT) (lo+i)<=kk key (arrOf aT) (lo+k))/\(∀i,l<=i->i<k->kk key (arrOf aT) (lo+k)<=kk key (arrOf aT) (lo+i)))/\K4=aT) ?_ ?_ ⟨⟨_,_,rfl,df _,aL _,by lia,fun i h=>by lia,fun i h h'=>by lia⟩,rfl⟩) ?_)
  .rintro x c gR _ hx ⟨⟨l,r,rfl,UI,hr,hrl,f1,f2⟩,rfl⟩;dsimp only;by_cases Ak:l>=r
   .rw[ao Ak];exact aJ ⟨⟨_,_,rfl,by lia,f1,fun i hi lW=>f2 i (by lia) lW⟩,rfl⟩
   .rw[ap Ak];refine av (mw hC RU (by lia) (by lia) fun b eb=>?_);cases b
    .have e:=lZ eb.symm;refine aJ ⟨⟨_,_,rfl,by lia,hr,by lia,fun i hi=>?_,f2⟩,rfl⟩;have:=so (lo+i) (lo+(l+r) / 2) (by lia) (by lia) (by lia);lia
    .have e:=bU eb.symm;refine aJ ⟨⟨_,_,rfl,by lia,by lia,by lia,f1,fun i hi lW=>?_⟩,rfl⟩;have:=so (lo+(l+r) / 2) (lo+i) (by lia) (by lia) (by lia);lia
  .rintro c gR ⟨⟨l,r,rfl,UI,hr,hrl,f1,f2⟩,rfl⟩;exact⟨⟨_,_,rfl,by lia,f1,fun i hi lW=>f2 i (by lia) lW⟩,rfl⟩
  .rintro c gR ⟨⟨l,r,rfl,hl,f1,f2⟩,rfl⟩;dsimp only;refine av (DE RU (by lia) (by lia) fun uo BO hg=>aJ ⟨rfl,BO,fun i j h1 h2 h3=>?_,fun q hq=>?_⟩)
   .have gi:=hg i;have gj:=hg j;have ei:kk key (arrOf uo) i=if i=lo+l then kk key (arrOf gR) (lo+k) else if lo+l<i/\i<=lo+k then kk key (arrOf gR) (i-1) else kk key (arrOf gR) i:=by
     unfold kk;rw[gi];split
     .rfl
     .split <;> rfl
    have ej:kk key (arrOf uo) j=if j=lo+l then kk key (arrOf gR) (lo+k) else if lo+l<j/\j<=lo+k then kk key (arrOf gR) (j-1) else kk key (arrOf gR) j:=by
     unfold kk;rw[gj];split
     .rfl
     .split <;> rfl
    rw[ei,ej];by_cases c1:i=lo+l
    .rw[ao c1];by_cases c2:j=lo+l
     .rw[ao c2];lia
     .rw[ap c2,ao (by lia)];have:=f2 (j-1-lo) (by lia) (by lia);rw[show lo+(j-1-lo)=j-1 by lia] at this;exact this
    .rw[ap c1];by_cases c3:lo+l<i/\i<=lo+k
     .rw[ao c3,ap (by lia),ao (by lia)];exact so _ _ (by lia) (by lia) (by lia)
     .rw[ap c3];by_cases c2:j=lo+l
      .rw[ao c2];have:=f1 (i-lo) (by lia);rw[show lo+(i-lo)=i by lia] at this;exact this
      .rw[ap c2];by_cases c4:lo+l<j/\j<=lo+k
       .rw[ao c4];exact so _ _ (by lia) (by lia) (by lia)
       .rw[ap c4];exact so _ _ (by lia) (by lia) (by lia)
   .rw[hg q,ap (by lia),ap (by lia)];exact ou q hq
 .by_cases ho:ok=0
  .have:i=j:=by subst ho;have:max 0 1=1:=rfl;lia
   rw[this];exact lB _
  .exact hs i j h1 h2 (by (have:max ok 1=ok:=by lia);lia)
 .rintro c aT ⟨rfl,RU,so,ou⟩;exact aJ (h aT RU so ou)
end
def K5(lo cA n:Nat):StateT SortSt Sem (Option Nat):=do
 reverseSlice' lo (lo+n)
 let mut n:=n
 for _ in [n:cA] do
  let some iV <- ltAt' (lo+n) (lo+n-1)|return none
  if iV then break
  n:=n+1
 return some n
def K6(lo cA n:Nat):StateT SortSt Sem (Option Nat):=do
 rule "list.sort.descending-run"
 let mut n:=n+1
 let mut neq:=0
 for _ in [n:cA] do
  let some iV <- ltAt' (lo+n) (lo+n-1)|return none
  if iV then
   if neq > 0 then reverseSlice' (lo+n-(neq+1)) (lo+n)
   neq:=0
  else
   let some K7 <- ltAt' (lo+n-1) (lo+n)|return none
   if K7 then break
   neq:=neq+1
  n:=n+1
 if neq > 0 then reverseSlice' (lo+n-(neq+1)) (lo+n)
 K5 lo cA n
theorem rE(lo cA:Nat):countRun' lo cA=(do
 let mut n:=1
 for _ in [1:cA] do
  let some iV <- ltAt' (lo+n) (lo+n-1)|return none
  if iV then break
  n:=n+1
 if n==cA then return some n
 if n > 1 then
  let some UJ <- ltAt' lo (lo+n-1)|return none
  if UJ then return some n
  reverseSlice' lo (lo+n)
 K6 lo cA n):=rfl
section
variable {prog:Program} {w:World} {A:Around} {E:Value->Shared->Prop} {s:Shared} {κ:SortKind} {a₀:Array Keyed} {pd:Array (Nat×Nat×Nat)} {key:Keyed->Int} {ar:Array Keyed}
def De(key:Keyed->Int)(a:Array Keyed)(lo hi:Nat):Prop:=∀i j,lo<=i->i<=j->j<hi->kk key a j<=kk key a i
theorem yW(h:∀k,b[k]?=if i<=k/\k<j then a[i+j-1-k]? else a[k]?)(k:Nat):kk key b k=if i<=k/\k<j then kk key a (i+j-1-k) else kk key a k:=by
 unfold kk;rw[h k];split <;> rfl
theorem qC(h:∀k,b[k]?=if i<=k/\k<j then a[i+j-1-k]? else a[k]?)(e:∀k,i<=k->k<j->kk key a k=kk key a (j-1))(k:Nat):kk key b k=kk key a k:=by
 rw[yW h];split
 .rename_i c;rw[e _ (by lia) (by lia),e k c.1 c.2]
 .rfl
theorem o6{a b:Array Keyed}{i j lo hi:Nat}(h:∀k,b[k]?=if i<=k/\k<j then a[i+j-1-k]? else a[k]?)(h1:lo<=i)(h2:j<=hi):lY a b lo hi:=fun k hk=>by rw[h k,ap (by lia)]
theorem Al{st:SortSt}{lo cA n:Nat}{Q:Option (Option Nat)×Nat->SortSt->Prop}(hC:uQ prog w A s κ a₀ key)(hn:lo+cA<=a₀.size)(h1:1<=n)(h2:n<=cA)(hB:SQ κ a₀ pd st)(so:So key (arrOf st) lo (lo+n))(h:∀m,n<=m->m<=cA->So key (arrOf st) lo (lo+m)->(m=cA\/kk key (arrOf st) (lo+m)<kk key (arrOf st) (lo+m-1))->Q (none,m) st):
  wpS (model prog w) A E s (forIn [n:cA] ((none:Option (Option Nat)),n) fun _ r=>do
   let some iV <- ltAt' (lo+r.2) (lo+r.2-1)|pure (ForInStep.done (some none,r.2))
   if iV then pure (ForInStep.done (none,r.2)) else pure (ForInStep.yield (none,r.2+1))) Q st:=by
 refine dz (fN (I:=fun i c aT=>aT=st/\c=(none,i)/\So key (arrOf st) lo (lo+i)) (Q:=fun c aT=>aT=st/\∃m,c=(none,m)/\n<=m/\m<=cA/\So key (arrOf st) lo (lo+m)/\(m=cA\/kk key (arrOf st) (lo+m)<kk key (arrOf st) (lo+m-1))) ?_ ?_ ⟨rfl,rfl,so⟩) ?_
 .rintro i c Ck hi1 Bo ⟨rfl,rfl,Jr⟩;dsimp only;refine av (mw hC hB (by lia) (by lia) fun b eb=>?_);cases b
  .have e:=lZ eb.symm;refine aJ ⟨rfl,rfl,fun x y hx Fz hy=>?_⟩;by_cases c1:y<lo+i
   .exact Jr x y hx Fz c1
   .have:y=lo+i:=by lia
    subst this;by_cases c2:x=lo+i
    .rw[c2];lia
    .have:=Jr x (lo+i-1) hx (by lia) (by lia);lia
  .exact aJ ⟨rfl,_,rfl,by lia,by lia,Jr,.inr (bU eb.symm)⟩
 .rintro c Ck ⟨rfl,rfl,Jr⟩;have:max n cA=cA:=by lia
  rw[this] at Jr |-;exact⟨rfl,_,rfl,by lia,by lia,Jr,.inl rfl⟩
 .rintro c Ck ⟨rfl,m,rfl,m1,m2,Jr,e⟩;exact h m m1 m2 Jr e
theorem Am{st:SortSt}{lo cA n:Nat}{Q:Option Nat->SortSt->Prop}(hC:uQ prog w A s κ a₀ key)(hn:lo+cA<=a₀.size)(h1:1<=n)(h2:n<=cA)(hB:SQ κ a₀ pd st)(de:De key (arrOf st) lo (lo+n))(ou:lY ar (arrOf st) lo (lo+cA))(h:∀n aT,SQ κ a₀ pd aT->1<=n->n<=cA->So key (arrOf aT) lo (lo+n)->lY ar (arrOf aT) lo (lo+cA)->Q (some n) aT):wpS (model prog w) A E s (K5 lo cA n) Q st:=by
 unfold K5;refine av (o5 hB (by lia) fun gR yX hg=>?_);refine av (Al hC hn h1 h2 yX (fun i j hi GK hj=>?_) fun m m1 m2 so _=>?_)
 .rw[yW hg,yW hg,ao (by lia),ao (by lia)];exact de _ _ (by lia) (by lia) (by lia)
 .exact aJ (h m gR yX (by lia) m2 so (ou.trans (o6 hg (by lia) (by lia))))
theorem An{st:SortSt}{lo cA n:Nat}{Q:Option Nat->SortSt->Prop}(hC:uQ prog w A s κ a₀ key)(hn:lo+cA<=a₀.size)(h1:1<=n)(h2:n<cA)(hB:SQ κ a₀ pd st)(de:De key (arrOf st) lo (lo+(n+1)))(ou:lY ar (arrOf st) lo (lo+cA))(h:∀n aT,SQ κ a₀ pd aT->1<=n->n<=cA->So key (arrOf aT) lo (lo+n)->lY ar (arrOf aT) lo (lo+cA)->Q (some n) aT):wpS (model prog w) A E s (K6 lo cA n) Q st:=by
 unfold K6;refine av (lE (iK ⟨rfl,?_⟩));dsimp only;refine av (dz (fN (I:=fun i c aT=>SQ κ a₀ pd aT/\De key (arrOf aT) lo (lo+i)/\lY ar (arrOf aT) lo (lo+cA)/\∃q,c=(none,i,q)/\q+1<=i/\∀k,lo+i-(q+1)<=k->k<lo+i->kk key (arrOf aT) k=kk key (arrOf aT) (lo+i-1)) (Q:=fun c aT=>SQ κ a₀ pd aT/\lY ar (arrOf aT) lo (lo+cA)/\∃i q,c=(none,i,q)/\De key (arrOf aT) lo (lo+i)/\1<=i/\i<=cA/\q+1<=i/\∀k,lo+i-(q+1)<=k->k<lo+i->kk key (arrOf aT) k=kk key (arrOf aT) (lo+i-1)) ?_ ?_ ⟨hB,de,ou,_,rfl,by lia,fun k BJ K3=>by rw[show k=lo+(n+1)-1 by lia]⟩) ?_)
 .rintro i c uo hi1 Bo ⟨BO,GL,DG,q,rfl,hq,eq⟩;dsimp only;have step:∀aT,(∀k,kk key (arrOf aT) k=kk key (arrOf uo) k)->kk key (arrOf uo) (lo+i)<=kk key (arrOf uo) (lo+i-1)->De key (arrOf aT) lo (lo+(i+1)):=by
   intro aT e et x y hx Fz hy;rw[e,e];by_cases c1:y<lo+i
   .exact GL x y hx Fz c1
   .have:y=lo+i:=by lia
    subst this;by_cases c2:x=lo+i
    .rw[c2];lia
    .have:=GL x (lo+i-1) hx (by lia) (by lia);lia
  refine av (mw hC BO (by lia) (by lia) fun b3 e3=>?_);cases b3
  .have e3':=lZ e3.symm;dsimp only;rw[ap (by decide)];refine av (mw hC BO (by lia) (by lia) fun b4 e4=>?_);cases b4
   .have e4':=lZ e4.symm;refine aJ ⟨BO,step uo (fun _=>rfl) (by lia),DG,_,rfl,by lia,fun k BJ K3=>?_⟩;rw[show lo+(i+1)-1=lo+i by lia];by_cases c1:k=lo+i
    .rw[c1]
    .have:=eq k (by lia) (by lia);lia
   .exact aJ ⟨BO,DG,_,_,rfl,GL,by lia,by lia,hq,eq⟩
  .have e3':=bU e3.symm;dsimp only;rw[ao rfl];split
   .refine av (o5 BO (by lia) fun rh Nd hg=>aJ ⟨Nd,step rh (qC hg eq) (by lia),DG.trans (o6 hg (by lia) (by lia)),_,rfl,by lia,fun k BJ K3=>by rw[show k=lo+(i+1)-1 by lia]⟩)
   .exact aJ ⟨BO,step uo (fun _=>rfl) (by lia),DG,_,rfl,by lia,fun k BJ K3=>by rw[show k=lo+(i+1)-1 by lia]⟩
 .rintro c uo ⟨BO,GL,DG,q,rfl,hq,eq⟩;have:max (n+1) cA=cA:=by lia
  rw[this] at GL hq eq |-;exact⟨BO,DG,_,_,rfl,GL,by lia,by lia,hq,eq⟩
 .rintro c uo ⟨BO,DG,i,q,rfl,GL,i1,i2,hq,eq⟩;dsimp only;split
  .refine av (o5 BO (by lia) fun rh Nd hg=>?_);refine Am hC hn i1 i2 Nd (fun x y hx Fz hy=>?_) (DG.trans (o6 hg (by lia) (by lia))) h;rw[qC hg eq,qC hg eq];exact GL x y hx Fz hy
  .exact Am hC hn i1 i2 BO GL DG h
theorem BP{st:SortSt}{lo cA:Nat}{Q:Option Nat->SortSt->Prop}(hC:uQ prog w A s κ a₀ key)(hn:lo+cA<=a₀.size)(h1:1<=cA)(hB:SQ κ a₀ pd st)(h:∀n aT,SQ κ a₀ pd aT->1<=n->n<=cA->So key (arrOf aT) lo (lo+n)->lY (arrOf st) (arrOf aT) lo (lo+cA)->Q (some n) aT):wpS (model prog w) A E s (countRun' lo cA) Q st:=by
 rw[rE];refine av (Al hC hn (aL 1) h1 hB (fun i j hi GK hj=>by rw[show i=j by lia];exact lB _) fun n n1 n2 so e=>?_);dsimp only;by_cases e1:(n==cA)=true
 .rw[ao e1];exact aJ (h n st hB n1 n2 so lY.refl)
 rw[ap e1];have g1:¬ (n=cA):=by simpa using e1
 have et:kk key (arrOf st) (lo+n)<kk key (arrOf st) (lo+n-1):=e.resolve_left g1;by_cases e2:n > 1
 .rw[ao e2];refine av (mw hC hB (by lia) (by lia) fun b2 eb=>?_);cases b2
  .have e3:=lZ eb.symm;dsimp only;rw[ap (by decide)];have eq:∀k,lo<=k->k<lo+n->kk key (arrOf st) k=kk key (arrOf st) (lo+n-1):=fun k BJ K3=>by
    have a1:=so lo k (by lia) BJ K3;have a2:=so k (lo+n-1) BJ (by lia) (by lia);lia
   refine av (o5 hB (by lia) fun gR yX hg=>?_);refine An hC hn n1 (by lia) yX (fun i j hi GK hj=>?_) (o6 hg (by lia) (by lia)) h;rw[qC hg eq,qC hg eq];by_cases c1:j<lo+n
   .rw[eq j (by lia) c1,eq i hi (by lia)];exact lB _
   .have:j=lo+n:=by lia
    subst this;by_cases c2:i=lo+n
    .rw[c2];exact lB _
    .rw[eq i hi (by lia)];lia
  .exact aJ (h n st hB n1 n2 so lY.refl)
 .rw[ap e2];have:n=1:=by lia
  subst this;refine An hC hn n1 (by lia) hB (fun i j hi GK hj=>?_) lY.refl h;by_cases c1:i=j
  .rw[c1];exact lB _
  .have:i=lo:=by lia
   have:j=lo+1:=by lia
   subst i;subst j;rw[show lo+1-1=lo by lia] at et;lia
end
theorem yY(left:Bool)(key:Keyed)(arr:Array Keyed)(base n eF:Nat):eR left key arr base n eF=(do
 let uR (i:Nat):StateT SortSt Sem (Option Bool):=do
  let x <- elem' arr (base+i)
  if left then lt' x key else return (<-lt' key x).map (!·)
 let mut lastofs:=0
 let mut ofs:=1
 let mut lo:=0
 let mut hi:=0
 let some right <- uR eF|return none
 if right then
  let qD:=n-eF
  for _ in [0:n] do
   if ofs>=qD then break
   let some more <- uR (eF+ofs)|return none
   if !more then break
   lastofs:=ofs
   ofs:=2*ofs+1
  lo:=eF+lastofs+1
  hi:=eF+min ofs qD
 else
  let qD:=eF+1
  for _ in [0:n] do
   if ofs>=qD then break
   let some DH <- uR (eF-ofs)|return none
   if DH then break
   lastofs:=ofs
   ofs:=2*ofs+1
  lo:=eF+1-min ofs qD
  hi:=eF-lastofs
 for _ in [0:n] do
  if lo>=hi then break
  let m:=lo+(hi-lo) / 2
  let some more <- uR m|return none
  if more then lo:=m+1 else hi:=m
 return some hi):=rfl
def qE(left:Bool)(k:Int):Int:=if left then k else k+1
section
variable {prog:Program} {w:World} {A:Around} {E:Value->Shared->Prop} {s:Shared} {κ:SortKind} {a₀:Array Keyed} {pd:Array (Nat×Nat×Nat)} {key:Keyed->Int}
theorem iW{st:SortSt}{left:Bool}{x:Keyed}{arr:Array Keyed}{j:Nat}{Q:Option Bool->SortSt->Prop}(hC:uQ prog w A s κ a₀ key)(hk:kindOf st=κ)(oG:x∈a₀.toList)(sH:∀x∈arr.toList,x∈a₀.toList)(hj:j<arr.size)(h:∀b,b=decide (kk key arr j<qE left (key x))->Q (some b) st):
  wpS (model prog w) A E s (do
  let y <- elem' arr j
  if left then lt' y x else return (<-lt' x y).map (!·)) Q st:=by
 have hm:arr[j]∈a₀.toList:=sH _ (by simp);refine av (bi (c_ arr j hj) ?_);cases left
 .rw[ap (by decide)];refine av (qB hC hk oG hm (aJ (h _ ?_)));rw[cJ hj];show (!decide (key x<key arr[j]))=decide (key arr[j]<key x+1);by_cases c:key x<key arr[j]
  .rw[bJ c,cE (by lia)];rfl
  .rw[cE c,bJ (by lia)];rfl
 .rw[ao rfl];refine qB hC hk hm oG (h _ ?_);rw[cJ hj];rfl
theorem wu{st:SortSt}{left:Bool}{x:Keyed}{arr:Array Keyed}{base n l u:Nat}{Q:Option Nat->SortSt->Prop}(hC:uQ prog w A s κ a₀ key)(hk:kindOf st=κ)(oG:x∈a₀.toList)(sH:∀x∈arr.toList,x∈a₀.toList)(hn:base+n<=arr.size)(so:So key arr base (base+n))(hl:l<=u)(hu:u<=n)(f1:∀i,i<l->kk key arr (base+i)<qE left (key x))(f2:∀i,u<=i->i<n->qE left (key x)<=kk key arr (base+i))(h:∀k,k<=n->(∀i,i<k->kk key arr (base+i)<qE left (key x))->(∀i,k<=i->i<n->qE left (key x)<=kk key arr (base+i))->Q (some k) st):wpS (model prog w) A E s (do
   let mut lo:=l
   let mut hi:=u
   for _ in [0:n] do
    if lo>=hi then break
    let m:=lo+(hi-lo) / 2
    let some more <- (do
     let y <- elem' arr (base+m)
     if left then lt' y x else return (<-lt' x y).map (!·))|return none
    if more then lo:=m+1 else hi:=m
   return some hi) Q st:=by
 refine av (dz (fN (I:=fun j c aT=>(∃l u,c=(none,l,u)/\l<=u/\u<=n/\u<=l+(n-j)/\(∀i,i<l->kk key arr (base+i)<qE left (key x))/\(∀i,u<=i->i<n->qE left (key x)<=kk key arr (base+i)))/\st=aT) (Q:=fun c aT=>(∃l u,c=(none,l,u)/\u<=l/\u<=n/\(∀i,i<l->kk key arr (base+i)<qE left (key x))/\(∀i,u<=i->i<n->qE left (key x)<=kk key arr (base+i)))/\st=aT) ?_ ?_ ⟨⟨_,_,rfl,hl,hu,by lia,f1,f2⟩,rfl⟩) ?_)
 .rintro j c aT _ hj ⟨⟨l,u,rfl,XQ,hu,hd,f1,f2⟩,rfl⟩;dsimp only;by_cases Ak:l>=u
  .rw[ao Ak];exact aJ ⟨⟨_,_,rfl,Ak,hu,f1,f2⟩,rfl⟩
  .rw[ap Ak];refine av (iW hC hk oG sH (by lia) fun more e=>?_);cases more
   .have e':=lZ e.symm;refine aJ ⟨⟨_,_,rfl,by lia,by lia,by lia,f1,fun i hi lW=>?_⟩,rfl⟩;have:=so (base+(l+(u-l) / 2)) (base+i) (by lia) (by lia) (by lia);lia
   .have e':=bU e.symm;refine aJ ⟨⟨_,_,rfl,by lia,by lia,by lia,fun i hi=>?_,f2⟩,rfl⟩;have:=so (base+i) (base+(l+(u-l) / 2)) (by lia) (by lia) (by lia);lia
 .rintro c aT ⟨⟨l,u,rfl,XQ,hu,hd,f1,f2⟩,rfl⟩;exact⟨⟨_,_,rfl,by lia,hu,f1,f2⟩,rfl⟩
 .rintro c aT ⟨⟨l,u,rfl,XQ,hu,f1,f2⟩,rfl⟩;exact aJ (h u hu (fun i hi=>f1 i (by lia)) f2)
theorem fD{st:SortSt}{left:Bool}{x:Keyed}{arr:Array Keyed}{base n eF:Nat}{Q:Option Nat->SortSt->Prop}(hC:uQ prog w A s κ a₀ key)(hk:kindOf st=κ)(oG:x∈a₀.toList)(sH:∀x∈arr.toList,x∈a₀.toList)(hn:base+n<=arr.size)(hh:eF<n)(so:So key arr base (base+n))(h:∀k,k<=n->(∀i,i<k->kk key arr (base+i)<qE left (key x))->(∀i,k<=i->i<n->qE left (key x)<=kk key arr (base+i))->Q (some k) st):wpS (model prog w) A E s (eR left x arr base n eF) Q st:=by
 rw[yY];refine av (iW hC hk oG sH (by lia) fun right er=>?_);cases right
 .have XR:=lZ er.symm;dsimp only;rw[ap (by decide)];refine av (dz (fN (I:=fun j c aT=>(∃l o,c=(none,l,o)/\l<o/\j<o/\l<=eF/\qE left (key x)<=kk key arr (base+(eF-l)))/\st=aT) (Q:=fun c aT=>(∃l o,c=(none,l,o)/\l<o/\l<=eF/\qE left (key x)<=kk key arr (base+(eF-l))/\(eF+1<=o\/kk key arr (base+(eF-o))<qE left (key x)))/\st=aT) ?_ ?_ ⟨⟨_,_,rfl,by lia,by lia,by lia,by rw[Nat.sub_zero];lia⟩,rfl⟩) ?_)
  .rintro j c aT _ _ ⟨⟨l,o,rfl,vU,UK,hl,f⟩,rfl⟩;dsimp only;by_cases Ak:o>=eF+1
   .rw[ao Ak];exact aJ ⟨⟨_,_,rfl,vU,hl,f,.inl Ak⟩,rfl⟩
   .rw[ap Ak];refine av (iW hC hk oG sH (by lia) fun DH e=>?_);cases DH
    .have e':=lZ e.symm;exact aJ ⟨⟨_,_,rfl,by lia,by lia,by lia,by lia⟩,rfl⟩
    .exact aJ ⟨⟨_,_,rfl,vU,hl,f,.inr (bU e.symm)⟩,rfl⟩
  .rintro c aT ⟨⟨l,o,rfl,vU,UK,hl,f⟩,rfl⟩;exact⟨⟨_,_,rfl,vU,hl,f,.inl (by lia)⟩,rfl⟩
  .rintro c aT ⟨⟨l,o,rfl,vU,hl,f,e⟩,rfl⟩;dsimp only;refine wu hC hk oG sH hn so (by lia) (by lia) (fun i hi=>?_) (fun i hi lW=>?_) h
   .rcases e with e|e
    .lia
    .by_cases c:eF+1<=o
     .lia
     .have:=so (base+i) (base+(eF-o)) (by lia) (by lia) (by lia);lia
   .have:=so (base+(eF-l)) (base+i) (by lia) (by lia) (by lia);lia
 .have XR:=bU er.symm;dsimp only;rw[ao rfl];refine av (dz (fN (I:=fun j c aT=>(∃l o,c=(none,l,o)/\l<o/\j<o/\l<n-eF/\kk key arr (base+(eF+l))<qE left (key x))/\st=aT) (Q:=fun c aT=>(∃l o,c=(none,l,o)/\l<o/\l<n-eF/\kk key arr (base+(eF+l))<qE left (key x)/\(n-eF<=o\/qE left (key x)<=kk key arr (base+(eF+o))))/\st=aT) ?_ ?_ ⟨⟨_,_,rfl,by lia,by lia,by lia,by rw[hX];exact XR⟩,rfl⟩) ?_)
  .rintro j c aT _ _ ⟨⟨l,o,rfl,vU,UK,hl,f⟩,rfl⟩;dsimp only;by_cases Ak:o>=n-eF
   .rw[ao Ak];exact aJ ⟨⟨_,_,rfl,vU,hl,f,.inl Ak⟩,rfl⟩
   .rw[ap Ak];refine av (iW hC hk oG sH (by lia) fun more e=>?_);cases more
    .have e':=lZ e.symm;exact aJ ⟨⟨_,_,rfl,vU,hl,f,.inr (by lia)⟩,rfl⟩
    .exact aJ ⟨⟨_,_,rfl,by lia,by lia,by lia,bU e.symm⟩,rfl⟩
  .rintro c aT ⟨⟨l,o,rfl,vU,UK,hl,f⟩,rfl⟩;exact⟨⟨_,_,rfl,vU,hl,f,.inl (by lia)⟩,rfl⟩
  .rintro c aT ⟨⟨l,o,rfl,vU,hl,f,e⟩,rfl⟩;dsimp only;refine wu hC hk oG sH hn so (by lia) (by lia) (fun i hi=>?_) (fun i hi lW=>?_) h
   .have:=so (base+i) (base+(eF+l)) (by lia) (by lia) (by lia);lia
   .rcases e with e|e
    .lia
    .by_cases c:n-eF<=o
     .lia
     .have:=so (base+(eF+o)) (base+i) (by lia) (by lia) (by lia);lia
end
theorem eB(g:Nat):cU g=modify fun s=>SortSt.mk' (kindOf s) (arrOf s) (pendingOf s) g (failedOf s):=rfl
structure SM(κ:SortKind)(ar:Array Keyed)(pd:Array (Nat×Nat×Nat))(st:SortSt):Prop where
 arr:arrOf st=ar
 kind:kindOf st=κ
 failed:failedOf st=none
 pend:pendingOf st=pd
abbrev RV:=Option (Array Keyed)×Array Keyed×Nat×Nat×Nat×Nat×Nat
abbrev lP(a b out:Array Keyed)(ia ib:Nat):=out++a.extract ia a.size++b.extract ib b.size
abbrev uS(a b out:Array Keyed)(ia ib:Nat):=out++b.extract ib b.size++a.extract ia a.size
def RW(a b out:Array Keyed)(ia ib mg ac bc:Nat):StateT SortSt Sem (ForInStep RV):=do
 let x <- elem' a ia
 if ia+1+1==a.size then pure (.done (some (uS a b (out.push x) (ia+1) ib),out.push x,ia+1,ib,mg,ac,bc))
 else if ac<7&&bc<7 then pure (.done (none,out.push x,ia+1,ib,mg,ac,bc)) else pure (.yield (none,out.push x,ia+1,ib,mg,ac,bc))
def RX(a b out:Array Keyed)(ia ib mg ac bc:Nat):StateT SortSt Sem (ForInStep RV):=do
 let x <- elem' b ib
 if ib+1==b.size then pure (.done (some (lP a b (out.push x) ia (ib+1)),out.push x,ia,ib+1,mg,ac,bc))
 else do
  let some k <- eR true (<-elem' a ia) b (ib+1) (b.size-(ib+1)) 0|pure (.done (some (lP a b (out.push x) ia (ib+1)),out.push x,ia,ib+1,mg,ac,bc))
  if k > 0 then
   if ib+1+k==b.size then pure (.done (some (lP a b (out.push x++b.extract (ib+1) (ib+1+k)) ia (ib+1+k)),out.push x++b.extract (ib+1) (ib+1+k),ia,ib+1+k,mg,ac,k))
   else RW a b (out.push x++b.extract (ib+1) (ib+1+k)) ia (ib+1+k) mg ac k
  else RW a b (out.push x) ia (ib+1) mg ac k
def RY(a b out:Array Keyed)(ia ib mg ac bc:Nat):StateT SortSt Sem (ForInStep RV):=do
 cU mg
 let some k <- eR false (<-elem' b ib) a ia (a.size-ia) 0|pure (.done (some (lP a b out ia ib),out,ia,ib,mg,ac,bc))
 if k > 0 then
  if ia+k+1==a.size then pure (.done (some (uS a b (out++a.extract ia (ia+k)) (ia+k) ib),out++a.extract ia (ia+k),ia+k,ib,mg,k,bc))
  else if ia+k==a.size then pure (.done (some (lP a b (out++a.extract ia (ia+k)) (ia+k) ib),out++a.extract ia (ia+k),ia+k,ib,mg,k,bc))
  else RX a b (out++a.extract ia (ia+k)) (ia+k) ib mg k bc
 else RX a b out ia ib mg k bc
theorem wv(a b:Array Keyed):qz a b=(do
 rule "list.sort.merge-lo"
 let qF:=a.size+b.size
 let done (out:Array Keyed) (ia ib:Nat):=out++a.extract ia a.size++b.extract ib b.size
 let o7 (out:Array Keyed) (ia ib:Nat):=out++b.extract ib b.size++a.extract ia a.size
 let mut out:Array Keyed:=#[<-elem' b 0]
 let mut ia:=0
 let mut ib:=1
 if ib==b.size then return done out ia ib
 if ia+1==a.size then return o7 out ia ib
 let mut minGallop:=gallopOf (<-get)
 for _ in [0:qF] do
  let mut acount:=0
  let mut bcount:=0
  for _ in [0:qF] do
   let some O0 <- lt' (<-elem' b ib) (<-elem' a ia)|return done out ia ib
   if O0 then
    out:=out.push (<-elem' b ib);ib:=ib+1;bcount:=bcount+1;acount:=0
    if ib==b.size then return done out ia ib
    if bcount>=minGallop then break
   else
    out:=out.push (<-elem' a ia);ia:=ia+1;acount:=acount+1;bcount:=0
    if ia+1==a.size then return o7 out ia ib
    if acount>=minGallop then break
  rule "list.sort.gallop"
  minGallop:=minGallop+1
  for _ in [0:qF] do
   if minGallop > 1 then minGallop:=minGallop-1
   cU minGallop
   let some k <- eR false (<-elem' b ib) a ia (a.size-ia) 0|return done out ia ib
   acount:=k
   if k > 0 then
    out:=out++a.extract ia (ia+k);ia:=ia+k
    if ia+1==a.size then return o7 out ia ib
    if ia==a.size then return done out ia ib
   out:=out.push (<-elem' b ib);ib:=ib+1
   if ib==b.size then return done out ia ib
   let some k <- eR true (<-elem' a ia) b ib (b.size-ib) 0|return done out ia ib
   bcount:=k
   if k > 0 then
    out:=out++b.extract ib (ib+k);ib:=ib+k
    if ib==b.size then return done out ia ib
   out:=out.push (<-elem' a ia);ia:=ia+1
   if ia+1==a.size then return o7 out ia ib
   if acount<7&&bcount<7 then break
  minGallop:=minGallop+1
  cU minGallop
 unsupported "internal:list.sort.merge-bound"):=rfl
def PI(a b out:Array Keyed)(ia ib:Nat):Prop:=out.toList.Perm (a.toList.take ia++b.toList.take ib)
theorem ww{l:List Keyed}{i:Nat}(h:i<l.length):l.take (i+1)=l.take i++[l[i]]:=by rw[io,cm h];rfl
theorem PI.g9{a b out:Array Keyed}{ia ib:Nat}(h:PI a b out ia ib)(hi:ia<a.size):PI a b (out.push a[ia]) (ia+1) ib:=by
 unfold PI at h |-;rw[ja,ww (by simpa using hi),i_];refine(h.append_right _).trans ?_;rw[i_];refine List.Perm.append_left _ ?_;have:a.toList[ia]'(by simpa using hi)=a[ia]:=by simp
 rw[this];exact pq
theorem fj{a:Array Keyed}{i j:Nat}:(a.extract i j).toList=(a.toList.drop i).take (j-i):=by
 rw[xI,List.extract_eq_take_drop]
theorem DI{a:Array Keyed}{i k:Nat}(h:i+k<a.size):a.extract i (i+(k+1))=(a.extract i (i+k)).push a[i+k]:=by
 apply Array.toList_inj.mp;rw[ja,fj,fj,Nat.add_sub_cancel_left,Nat.add_sub_cancel_left,ww (by simp;lia)];congr 2;simp
structure MI(key:Keyed->Int)(a b out:Array Keyed)(ia ib:Nat):Prop where
 perm:PI a b out ia ib
 so:out.toList.Pairwise fun x y=>key x<=key y
 la:∀x∈out.toList,ia<a.size->key x<=kk key a ia
 lb:∀x∈out.toList,ib<b.size->key x<=kk key b ib
def Fi(key:Keyed->Int)(a b r:Array Keyed):Prop:=r.Perm (a++b)/\r.toList.Pairwise fun x y=>key x<=key y
section
variable {key:Keyed->Int} {a b out:Array Keyed} {ia ib:Nat}
theorem MI.swap(h:MI key a b out ia ib):MI key b a out ib ia:=⟨h.perm.trans pq,h.so,h.lb,h.la⟩
theorem MI.g9(h:MI key a b out ia ib)(hi:ia<a.size)(sa:So key a 0 a.size)(c:ib<b.size->kk key a ia<=kk key b ib):MI key a b (out.push a[ia]) (ia+1) ib:=by
 refine⟨h.perm.g9 hi,?_,fun x hx hl=>?_,fun x hx hl=>?_⟩
 .rw[ja];refine tH.mpr ⟨h.so,List.pairwise_singleton _ _,fun x hx y hy=>?_⟩;rw[bS.mp hy,<-cJ (key:=key) hi];exact h.la x hx hi
 .rw[ja] at hx;have:=sa ia (ia+1) (by lia) (by lia) hl;rcases bp.mp hx with z|z
  .have:=h.la x z hi;lia
  .rw[bS.mp z,<-cJ (key:=key) hi];exact this
 .rw[ja] at hx;rcases bp.mp hx with z|z
  .exact h.lb x z hl
  .rw[bS.mp z,<-cJ (key:=key) hi];exact c hl
theorem MI.uT(h:MI key a b out ia ib)(sa:So key a 0 a.size):∀ (k:Nat),ia+k<=a.size->(ib<b.size->∀i,i<k->kk key a (ia+i)<=kk key b ib)->MI key a b (out++a.extract ia (ia+k)) (ia+k) ib
 |0,_,_=>by
  have e:a.extract ia (ia+0)=#[]:=by simp;lia
  rw[e,Array.append_empty];exact h
 |k+1,hk,c=>by
  have:=(MI.uT h sa k (by lia) fun hb i hi=>c hb i (by lia)).g9 (by lia) sa fun hb=>c hb k (by lia);rw[DI (by lia),<-Array.push_append];exact this
theorem MI.sI(h:MI key a b out ia ib)(hi:ib<b.size)(sb:So key b 0 b.size)(c:ia<a.size->kk key b ib<=kk key a ia):MI key a b (out.push b[ib]) ia (ib+1):=(h.swap.g9 hi sb c).swap
theorem MI.DJ(h:MI key a b out ia ib)(sb:So key b 0 b.size)(k:Nat)(hk:ib+k<=b.size)(c:ia<a.size->∀i,i<k->kk key b (ib+i)<=kk key a ia):MI key a b (out++b.extract ib (ib+k)) ia (ib+k):=(h.swap.uT sb k hk c).swap
theorem MI.fin(h:MI key a b out a.size b.size):Fi key a b out:=by
 refine⟨?_,h.so⟩;have:=h.perm;unfold PI at this;rw[xE (by simp),xE (by simp)] at this;rw[kH,n6];exact this
theorem MI.done(h:MI key a b out ia ib)(sa:So key a 0 a.size)(sb:So key b 0 b.size)(ha:ia<=a.size)(hb:ib<=b.size)(c:ib<b.size->∀i,i<a.size-ia->kk key a (ia+i)<=kk key b ib):Fi key a b (lP a b out ia ib):=by
 have h1:=h.uT sa (a.size-ia) (by lia) c;rw[show ia+(a.size-ia)=a.size by lia] at h1;have h2:=h1.DJ sb (b.size-ib) (by lia) fun z=>by lia
 rw[show ib+(b.size-ib)=b.size by lia] at h2;exact h2.fin
theorem MI.last(h:MI key a b out ia ib)(sa:So key a 0 a.size)(sb:So key b 0 b.size)(ha:ia<=a.size)(hb:ib<=b.size)(c:ia<a.size->∀i,i<b.size-ib->kk key b (ib+i)<=kk key a ia):Fi key a b (uS a b out ia ib):=by
 have:=h.swap.done sb sa hb ha c;refine⟨this.1.trans ?_,this.2⟩;rw[kH,n6,n6];exact pq
end
section
variable {prog:Program} {w:World} {A:Around} {E:Value->Shared->Prop} {s:Shared} {κ:SortKind} {a₀:Array Keyed} {pd:Array (Nat×Nat×Nat)} {ar:Array Keyed} {key:Keyed->Int}
structure wx(key:Keyed->Int)(a₀ a b:Array Keyed):Prop where
 ha:∀x∈a.toList,x∈a₀.toList
 hb:∀x∈b.toList,x∈a₀.toList
 a1:1<=a.size
 b1:1<=b.size
 sa:So key a 0 a.size
 sb:So key b 0 b.size
 c0:kk key b 0<=kk key a 0
 c1:∀i,i<b.size->kk key b i<=kk key a (a.size-1)
theorem wx.last(T:wx key a₀ a b)(h:MI key a b out ia ib)(ha:ia+1=a.size)(hb:ib<=b.size):Fi key a b (uS a b out ia ib):=
 h.last T.sa T.sb (by lia) hb fun _ i hi=>by
  have:=T.c1 (ib+i) (by lia);rw[show a.size-1=ia by lia] at this;exact this
theorem wx.done(T:wx key a₀ a b)(h:MI key a b out ia ib)(ha:ia<=a.size)(hb:ib=b.size):Fi key a b (lP a b out ia ib):=
 h.done T.sa T.sb ha (by lia) fun z=>by lia
def GP(κ:SortKind)(ar:Array Keyed)(pd:Array (Nat×Nat×Nat))(key:Keyed->Int)(a b:Array Keyed)(n:Nat)(r:ForInStep RV)(st:SortSt):Prop:=SM κ ar pd st/\
 ((∃x c,r=.done (some x,c)/\Fi key a b x)\/∃out ia ib mg ac bc,(r=.done (none,out,ia,ib,mg,ac,bc)\/r=.yield (none,out,ia,ib,mg,ac,bc))/\MI key a b out ia ib/\ia+1<a.size/\ib<b.size/\n<=ia+ib)
theorem Ao{st:SortSt}{a b out:Array Keyed}{ia ib mg ac bc n:Nat}(T:wx key a₀ a b)(hB:SM κ ar pd st)(h:MI key a b out ia ib)(la:ia+1<a.size)(lb:ib<b.size)(li:n<=ia+ib)(c:kk key a ia<=kk key b ib):
  wpS (model prog w) A E s (RW a b out ia ib mg ac bc) (GP κ ar pd key a b n) st:=by
 unfold RW;refine av (bi (c_ a ia (by lia)) ?_);have p:=h.g9 (show ia<a.size by lia) T.sa fun _=>c;by_cases f:(ia+1+1==a.size)=true
 .rw[ao f];exact aJ ⟨hB,.inl ⟨_,_,rfl,T.last p (by simpa using f) (by lia)⟩⟩
 rw[ap f];have g:¬ (ia+1+1=a.size):=by simpa using f
 split
 .exact aJ ⟨hB,.inr ⟨_,_,_,_,_,_,.inl rfl,p,by lia,by lia,by lia⟩⟩
 .exact aJ ⟨hB,.inr ⟨_,_,_,_,_,_,.inr rfl,p,by lia,by lia,by lia⟩⟩
theorem Ap{st:SortSt}{a b out:Array Keyed}{ia ib mg ac bc n:Nat}(hC:uQ prog w A s κ a₀ key)(T:wx key a₀ a b)(hB:SM κ ar pd st)(h:MI key a b out ia ib)(la:ia+1<a.size)(lb:ib<b.size)(li:n<=ia+ib)(c:kk key b ib<=kk key a ia):
  wpS (model prog w) A E s (RX a b out ia ib mg ac bc) (GP κ ar pd key a b n) st:=by
 unfold RX;refine av (bi (c_ b ib (by lia)) ?_);have p:=h.sI lb T.sb fun _=>c;by_cases f:(ib+1==b.size)=true
 .rw[ao f];exact aJ ⟨hB,.inl ⟨_,_,rfl,T.done p (by lia) (by simpa using f)⟩⟩
 rw[ap f];have g:¬ (ib+1=b.size):=by simpa using f
 refine av (bi (c_ a ia (by lia)) ?_);refine av (fD hC hB.kind (T.ha _ (by simp)) T.hb (by lia) (by lia) (fun i j h1 h2 h3=>T.sb i j (by lia) h2 (by lia)) fun k hk q1 q2=>?_);rw[<-cJ (key:=key) (a:=a) (i:=ia) (by lia)] at q1 q2;simp only[qE,iL] at q1 q2;dsimp only;by_cases kp:k > 0
 .rw[ao kp];have p2:=p.DJ T.sb k (by lia) fun _ i hi=>by have:=q1 i hi;lia
  by_cases f2:(ib+1+k==b.size)=true
  .rw[ao f2];exact aJ ⟨hB,.inl ⟨_,_,rfl,T.done p2 (by lia) (by simpa using f2)⟩⟩
  rw[ap f2];have g2:¬ (ib+1+k=b.size):=by simpa using f2
  exact Ao T hB p2 la (by lia) (by lia) (q2 k (by lia) (by lia))
 .rw[ap kp];have e:k=0:=by lia
  subst e;exact Ao T hB p la (by lia) (by lia) (q2 0 (by lia) (by lia))
theorem GN{st:SortSt}{a b out:Array Keyed}{ia ib mg ac bc n:Nat}(hC:uQ prog w A s κ a₀ key)(T:wx key a₀ a b)(hB:SM κ ar pd st)(h:MI key a b out ia ib)(la:ia+1<a.size)(lb:ib<b.size)(li:n<=ia+ib):
  wpS (model prog w) A E s (RY a b out ia ib mg ac bc) (GP κ ar pd key a b n) st:=by
 unfold RY;rw[eB];refine av (fw ?_);have yX:SM κ ar pd (SortSt.mk' (kindOf st) (arrOf st) (pendingOf st) mg (failedOf st)):=⟨hB.arr,hB.kind,hB.failed,hB.pend⟩
 refine av (bi (c_ b ib (by lia)) ?_);refine av (fD hC yX.kind (T.hb _ (by simp)) T.ha (by lia) (by lia) (fun i j h1 h2 h3=>T.sa i j (by lia) h2 (by lia)) fun k hk q1 q2=>?_);rw[<-cJ (key:=key) (a:=b) (i:=ib) (by lia)] at q1 q2;simp only[qE,l4,fz] at q1 q2;dsimp only;by_cases kp:k > 0
 .rw[ao kp];have p2:=h.uT T.sa k (by lia) fun _ i hi=>by have:=q1 i hi;lia
  by_cases f4:(ia+k+1==a.size)=true
  .rw[ao f4];exact aJ ⟨yX,.inl ⟨_,_,rfl,T.last p2 (by simpa using f4) (by lia)⟩⟩
  rw[ap f4];have g4:¬ (ia+k+1=a.size):=by simpa using f4
  by_cases f5:(ia+k==a.size)=true
  .rw[ao f5];have g5:ia+k=a.size:=by simpa using f5
   exact aJ ⟨yX,.inl ⟨_,_,rfl,p2.done T.sa T.sb (by lia) (by lia) fun _ i hi=>by lia⟩⟩
  rw[ap f5];have g5:¬ (ia+k=a.size):=by simpa using f5
  exact Ap hC T yX p2 (by lia) lb (by lia) (by have:=q2 k (by lia) (by lia);lia)
 .rw[ap kp];have e:k=0:=by lia
  subst e;exact Ap hC T yX h la lb li (by have:=q2 0 (by lia) (by lia);rw[hX] at this;lia)
theorem wy{st:SortSt}{a b:Array Keyed}{Q:Array Keyed->SortSt->Prop}(hC:uQ prog w A s κ a₀ key)(hB:SM κ ar pd st)(T:wx key a₀ a b)(h:∀out aT,Fi key a b out->SM κ ar pd aT->Q out aT):wpS (model prog w) A E s (qz a b) Q st:=by
 have a1:=T.a1;have b1:=T.b1;rw[wv];refine av (lE (iK ⟨rfl,?_⟩));refine av (bi (c_ b 0 (by lia)) ?_);dsimp only;have p0:MI key a b #[b[0]] 0 1:=by
  have:MI key a b #[] 0 0:=⟨by unfold PI;simp,List.Pairwise.nil,fun x hx=>by simp at hx,fun x hx=>by simp at hx⟩
  exact this.sI (by lia) T.sb fun _=>T.c0
 by_cases e1:(1==b.size)=true
 .rw[ao e1];exact aJ (h _ _ (T.done p0 (by lia) (by simpa using e1)) hB)
 rw[ap e1];have n1:¬ (1=b.size):=by simpa using e1
 by_cases e2:(0+1==a.size)=true
 .rw[ao e2];exact aJ (h _ _ (T.last p0 (by simpa using e2) (by lia)) hB)
 rw[ap e2];have n2:¬ (0+1=a.size):=by simpa using e2
 refine av (fW ?_);refine av (dz (fN (I:=fun i c aT=>SM κ ar pd aT/\∃out ia ib mg,c=(none,out,ia,ib,mg)/\MI key a b out ia ib/\ia+1<a.size/\ib<b.size/\i<=ia+ib) (Q:=fun c aT=>SM κ ar pd aT/\∃r c',c=(some r,c')/\Fi key a b r) ?_ ?_ ⟨hB,_,_,_,_,rfl,p0,by lia,by lia,by lia⟩) ?_)
 .rintro i c Ck _ hi ⟨GQ,out,ia,ib,mg,rfl,p1,la,lb,li⟩;dsimp only;refine av (dz (fN (I:=fun x c aT=>SM κ ar pd aT/\∃out ia ib ac bc,c=(none,out,ia,ib,ac,bc)/\MI key a b out ia ib/\ia+1<a.size/\ib<b.size/\i+x<=ia+ib) (Q:=fun c aT=>SM κ ar pd aT/\((∃r c',c=(some r,c')/\Fi key a b r)\/∃out ia ib ac bc,c=(none,out,ia,ib,ac,bc)/\MI key a b out ia ib/\ia+1<a.size/\ib<b.size/\i+1<=ia+ib)) ?_ ?_ ⟨GQ,_,_,_,_,_,rfl,p1,la,lb,by lia⟩) ?_)
  .rintro x c gR _ hx ⟨gT,out,ia,ib,ac,bc,rfl,p1,la,lb,li⟩;dsimp only;refine av (bi (c_ b ib (by lia)) ?_);refine av (bi (c_ a ia (by lia)) ?_);refine av (qB hC gT.kind (T.hb _ (by simp)) (T.ha _ (by simp)) ?_);rw[<-cJ (key:=key) (a:=b) (i:=ib) (by lia),<-cJ (key:=key) (a:=a) (i:=ia) (by lia)];by_cases bw:kk key b ib<kk key a ia
   .rw[bJ bw];dsimp only;rw[ao rfl];refine av (bi (c_ b ib (by lia)) ?_);have p2:=p1.sI (show ib<b.size by lia) T.sb fun _=>by lia
    by_cases f1:(ib+1==b.size)=true
    .rw[ao f1];exact aJ ⟨gT,.inl ⟨_,_,rfl,T.done p2 (by lia) (by simpa using f1)⟩⟩
    rw[ap f1];have g1:¬ (ib+1=b.size):=by simpa using f1
    split
    .exact aJ ⟨gT,.inr ⟨_,_,_,_,_,rfl,p2,by lia,by lia,by lia⟩⟩
    .exact aJ ⟨gT,_,_,_,_,_,rfl,p2,by lia,by lia,by lia⟩
   .rw[cE bw];dsimp only;rw[ap (by decide)];refine av (bi (c_ a ia (by lia)) ?_);have p2:=p1.g9 (show ia<a.size by lia) T.sa fun _=>by lia
    by_cases f1:(ia+1+1==a.size)=true
    .rw[ao f1];exact aJ ⟨gT,.inl ⟨_,_,rfl,T.last p2 (by simpa using f1) (by lia)⟩⟩
    rw[ap f1];have g1:¬ (ia+1+1=a.size):=by simpa using f1
    split
    .exact aJ ⟨gT,.inr ⟨_,_,_,_,_,rfl,p2,by lia,by lia,by lia⟩⟩
    .exact aJ ⟨gT,_,_,_,_,_,rfl,p2,by lia,by lia,by lia⟩
  .rintro c gR ⟨gT,out,ia,ib,ac,bc,rfl,p1,la,lb,li⟩;exact⟨gT,.inr ⟨_,_,_,_,_,rfl,p1,la,lb,by lia⟩⟩
  .rintro c gR ⟨gT,⟨r,c',rfl,hp⟩|⟨out,ia,ib,ac,bc,rfl,p1,la,lb,li⟩⟩
   .exact aJ ⟨gT,_,_,rfl,hp⟩
   .dsimp only;refine av (lE (iK ⟨rfl,?_⟩));refine av (dz (fN (I:=fun x c aT=>SM κ ar pd aT/\∃out ia ib mg ac bc,c=(none,out,ia,ib,mg,ac,bc)/\MI key a b out ia ib/\ia+1<a.size/\ib<b.size/\i+1<=ia+ib) (Q:=fun c aT=>SM κ ar pd aT/\((∃r c',c=(some r,c')/\Fi key a b r)\/∃out ia ib mg ac bc,c=(none,out,ia,ib,mg,ac,bc)/\MI key a b out ia ib/\ia+1<a.size/\ib<b.size/\i+1<=ia+ib)) ?_ ?_ ⟨gT,_,_,_,_,_,_,rfl,p1,la,lb,li⟩) ?_)
    .rintro x c gR _ hx ⟨gT,out,ia,ib,mg,ac,bc,rfl,p1,la,lb,li⟩;change wpS (model prog w) A E s (if mg > 1 then RY a b out ia ib (mg-1) ac bc else RY a b out ia ib mg ac bc) _ gR;split <;>
     .refine dz (GN hC T gT p1 la lb li) ?_;rintro r aT ⟨m,⟨x,c,rfl,hf⟩|⟨out,ia,ib,mg,ac,bc,rfl|rfl,hh⟩⟩
      .exact⟨m,.inl ⟨_,_,rfl,hf⟩⟩
      .exact⟨m,.inr ⟨_,_,_,_,_,_,rfl,hh⟩⟩
      .exact⟨m,_,_,_,_,_,_,rfl,hh⟩
    .rintro c gR ⟨gT,hh⟩;exact⟨gT,.inr hh⟩
    .rintro c gR ⟨gT,⟨r,c',rfl,hp⟩|⟨out,ia,ib,mg,ac,bc,rfl,p1,la,lb,li⟩⟩
     .exact aJ ⟨gT,_,_,rfl,hp⟩
     .dsimp only;rw[eB];refine av (fw ?_);exact aJ ⟨⟨gT.arr,gT.kind,gT.failed,gT.pend⟩,_,_,_,_,rfl,p1,la,lb,li⟩
 .rintro c Ck ⟨GQ,out,ia,ib,mg,rfl,p1,la,lb,li⟩;lia
 .rintro c Ck ⟨GQ,r,c',rfl,hp⟩;exact aJ (h r Ck hp GQ)
end
abbrev RZ:=Option (Array Keyed)×Nat×Nat×Array Keyed×Nat×Nat×Nat
abbrev lQ(a b out:Array Keyed)(na nb:Nat):=a.extract 0 na++b.extract 0 nb++out.reverse
abbrev my(a b out:Array Keyed)(na nb:Nat):=b.extract 0 nb++a.extract 0 na++out.reverse
def R1(a b:Array Keyed)(na nb:Nat)(out:Array Keyed)(mg ac bc:Nat):StateT SortSt Sem (ForInStep RZ):=do
 let x <- elem' a (na-1)
 if na-1==0 then pure (.done (some (lQ a b (out.push x) (na-1) nb),na-1,nb,out.push x,mg,ac,bc))
 else if ac<7&&bc<7 then pure (.done (none,na-1,nb,out.push x,mg,ac,bc)) else pure (.yield (none,na-1,nb,out.push x,mg,ac,bc))
def R3(a b:Array Keyed)(na nb:Nat)(out:Array Keyed)(mg ac bc:Nat):StateT SortSt Sem (ForInStep RZ):=do
 let x <- elem' b (nb-1)
 if nb-1==1 then pure (.done (some (my a b (out.push x) na (nb-1)),na,nb-1,out.push x,mg,ac,bc))
 else do
  let some at_ <- eR true (<-elem' a (na-1)) b 0 (nb-1) (nb-1-1)|pure (.done (some (lQ a b (out.push x) na (nb-1)),na,nb-1,out.push x,mg,ac,bc))
  if nb-1-at_ > 0 then
   if at_==1 then pure (.done (some (my a b (out.push x++(b.extract at_ (nb-1)).reverse) na at_),na,at_,out.push x++(b.extract at_ (nb-1)).reverse,mg,ac,nb-1-at_))
   else if at_==0 then pure (.done (some (lQ a b (out.push x++(b.extract at_ (nb-1)).reverse) na at_),na,at_,out.push x++(b.extract at_ (nb-1)).reverse,mg,ac,nb-1-at_))
   else R1 a b na at_ (out.push x++(b.extract at_ (nb-1)).reverse) mg ac (nb-1-at_)
  else R1 a b na (nb-1) (out.push x) mg ac (nb-1-at_)
def R4(a b:Array Keyed)(na nb:Nat)(out:Array Keyed)(mg ac bc:Nat):StateT SortSt Sem (ForInStep RZ):=do
 cU mg
 let some at_ <- eR false (<-elem' b (nb-1)) a 0 na (na-1)|pure (.done (some (lQ a b out na nb),na,nb,out,mg,ac,bc))
 if na-at_ > 0 then
  if at_==0 then pure (.done (some (lQ a b (out++(a.extract at_ na).reverse) at_ nb),at_,nb,out++(a.extract at_ na).reverse,mg,na-at_,bc))
  else R3 a b at_ nb (out++(a.extract at_ na).reverse) mg (na-at_) bc
 else R3 a b na nb out mg (na-at_) bc
theorem wz(a b:Array Keyed):qA a b=(do
 rule "list.sort.merge-hi"
 let qF:=a.size+b.size
 let done (out:Array Keyed) (na nb:Nat):=a.extract 0 na++b.extract 0 nb++out.reverse
 let mz (out:Array Keyed) (na nb:Nat):=b.extract 0 nb++a.extract 0 na++out.reverse
 let mut na:=a.size-1
 let mut nb:=b.size
 let mut out:Array Keyed:=#[<-elem' a na]
 if na==0 then return done out na nb
 if nb==1 then return mz out na nb
 let mut minGallop:=gallopOf (<-get)
 for _ in [0:qF] do
  let mut acount:=0
  let mut bcount:=0
  for _ in [0:qF] do
   let some O1 <- lt' (<-elem' b (nb-1)) (<-elem' a (na-1))|return done out na nb
   if O1 then
    na:=na-1;out:=out.push (<-elem' a na);acount:=acount+1;bcount:=0
    if na==0 then return done out na nb
    if acount>=minGallop then break
   else
    nb:=nb-1;out:=out.push (<-elem' b nb);bcount:=bcount+1;acount:=0
    if nb==1 then return mz out na nb
    if bcount>=minGallop then break
  rule "list.sort.gallop"
  minGallop:=minGallop+1
  for _ in [0:qF] do
   if minGallop > 1 then minGallop:=minGallop-1
   cU minGallop
   let some at_ <- eR false (<-elem' b (nb-1)) a 0 na (na-1)|return done out na nb
   let k:=na-at_
   acount:=k
   if k > 0 then
    out:=out++(a.extract at_ na).reverse;na:=at_
    if na==0 then return done out na nb
   nb:=nb-1;out:=out.push (<-elem' b nb)
   if nb==1 then return mz out na nb
   let some at_ <- eR true (<-elem' a (na-1)) b 0 nb (nb-1)|return done out na nb
   let k:=nb-at_
   bcount:=k
   if k > 0 then
    out:=out++(b.extract at_ nb).reverse;nb:=at_
    if nb==1 then return mz out na nb
    if nb==0 then return done out na nb
   na:=na-1;out:=out.push (<-elem' a na)
   if na==0 then return done out na nb
   if acount<7&&bcount<7 then break
  minGallop:=minGallop+1
  cU minGallop
 unsupported "internal:list.sort.merge-bound"):=rfl
def PH(a b out:Array Keyed)(na nb:Nat):Prop:=out.toList.Perm (a.toList.drop na++b.toList.drop nb)
theorem PH.g9(h:PH a b out na nb)(h1:1<=na)(hi:na-1<a.size):PH a b (out.push a[na-1]) (na-1) nb:=by
 unfold PH at h |-;have e:a.toList.drop (na-1)=a[na-1]::a.toList.drop na:=by
  have:=tm (l:=a.toList) (i:=na-1) (by simpa using hi);rw[this,Nat.sub_add_cancel h1];simp
 rw[ja,e];refine(h.append_right _).trans ?_;exact pq
theorem GS{a:Array Keyed}{k n:Nat}(h:k<n)(hn:n<=a.size):(a.extract k n).reverse=(a.extract (k+1) n).reverse.push a[k]:=by
 apply Array.toList_inj.mp;rw[ja,tL,tL,fj,fj];have e:=tm (l:=a.toList) (i:=k) (by simp;lia);rw[e,show n-k=(n-(k+1))+1 by lia,List.take_succ_cons,List.reverse_cons];congr 2
theorem wA{l:List Keyed}{i j:Nat}(h:i<=j):l.drop i=(l.drop i).take (j-i)++l.drop j:=by
 have:=(xG (j-i) (l.drop i)).symm;rw[List.drop_drop,show i+(j-i)=j by lia] at this;exact this
structure HI(key:Keyed->Int)(a b out:Array Keyed)(na nb:Nat):Prop where
 perm:PH a b out na nb
 so:out.toList.Pairwise fun x y=>key y<=key x
 la:∀x∈out.toList,0<na->kk key a (na-1)<=key x
 lb:∀x∈out.toList,0<nb->kk key b (nb-1)<=key x
section
variable {key:Keyed->Int} {a b out:Array Keyed} {na nb:Nat}
theorem HI.swap(h:HI key a b out na nb):HI key b a out nb na:=⟨h.perm.trans pq,h.so,h.lb,h.la⟩
theorem HI.g9(h:HI key a b out na nb)(h1:1<=na)(hi:na-1<a.size)(sa:So key a 0 a.size)(c:0<nb->kk key b (nb-1)<=kk key a (na-1)):HI key a b (out.push a[na-1]) (na-1) nb:=by
 refine⟨h.perm.g9 h1 hi,?_,fun x hx hl=>?_,fun x hx hl=>?_⟩
 .rw[ja];refine tH.mpr ⟨h.so,List.pairwise_singleton _ _,fun x hx y hy=>?_⟩;rw[bS.mp hy,<-cJ (key:=key) hi];exact h.la x hx (by lia)
 .rw[ja] at hx;have:=sa (na-1-1) (na-1) (by lia) (by lia) hi;rcases bp.mp hx with z|z
  .have:=h.la x z (by lia);lia
  .rw[bS.mp z,<-cJ (key:=key) hi];exact this
 .rw[ja] at hx;rcases bp.mp hx with z|z
  .exact h.lb x z hl
  .rw[bS.mp z,<-cJ (key:=key) hi];exact c hl
theorem HI.uT(h:HI key a b out na nb)(sa:So key a 0 a.size)(hn:na<=a.size):∀ (d k:Nat),na=k+d->(0<nb->∀i,k<=i->i<na->kk key b (nb-1)<=kk key a i)->HI key a b (out++(a.extract k na).reverse) k nb
 |0,k,e,_=>by
  have e':a.extract k na=#[]:=by simp;lia
  have e2:k=na:=by lia
  subst e2;rw[e',Array.reverse_empty,Array.append_empty];exact h
 |d+1,k,e,c=>by
  have:=(HI.uT h sa hn d (k+1) (by lia) fun hb i h1 h2=>c hb i (by lia) h2).g9 (by lia) (by lia) sa fun hb=>c hb _ (by lia) (by lia);rw[GS (by lia) hn,<-Array.push_append];exact this
theorem HI.sI(h:HI key a b out na nb)(h1:1<=nb)(hi:nb-1<b.size)(sb:So key b 0 b.size)(c:0<na->kk key a (na-1)<=kk key b (nb-1)):HI key a b (out.push b[nb-1]) na (nb-1):=(h.swap.g9 h1 hi sb c).swap
theorem HI.DJ(h:HI key a b out na nb)(sb:So key b 0 b.size)(hn:nb<=b.size)(k:Nat)(hk:k<=nb)(c:0<na->∀i,k<=i->i<nb->kk key a (na-1)<=kk key b i):HI key a b (out++(b.extract k nb).reverse) na k:=(h.swap.uT sb hn (nb-k) k (by lia) c).swap
theorem HI.first(h:HI key a b out na nb)(sa:So key a 0 a.size)(sb:So key b 0 b.size)(ha:na<=a.size)(hb:nb<=b.size)(c:0<nb->∀i,i<na->kk key b (nb-1)<=kk key a i):Fi key a b (my a b out na nb):=by
 have h1:=h.uT sa ha na 0 (by lia) fun z i _ hi=>c z i hi;have h2:=h1.DJ sb hb 0 (by lia) fun z=>by lia
 have e:my a b out na nb=(out++(a.extract 0 na).reverse++(b.extract 0 nb).reverse).reverse:=by simp
 rw[e];refine⟨?_,?_⟩
 .have:=h2.perm;unfold PH at this;rw[ye,ye] at this;rw[kH,tL,n6 (xs:=a)];exact(List.reverse_perm _).trans this
 .rw[tL,List.pairwise_reverse];exact h2.so
theorem HI.done(h:HI key a b out na nb)(sa:So key a 0 a.size)(sb:So key b 0 b.size)(ha:na<=a.size)(hb:nb<=b.size)(c:0<na->∀i,i<nb->kk key a (na-1)<=kk key b i):Fi key a b (lQ a b out na nb):=by
 have:=h.swap.first sb sa hb ha c;refine⟨this.1.trans ?_,this.2⟩;rw[kH,n6,n6];exact pq
end
section
variable {prog:Program} {w:World} {A:Around} {E:Value->Shared->Prop} {s:Shared} {κ:SortKind} {a₀:Array Keyed} {pd:Array (Nat×Nat×Nat)} {ar:Array Keyed} {key:Keyed->Int}
theorem wx.first(T:wx key a₀ a b)(h:HI key a b out na nb)(ha:na<=a.size)(hb:nb=1):Fi key a b (my a b out na nb):=
 h.first T.sa T.sb ha (by have:=T.b1;lia) fun _ i hi=>by
  have h0:=T.c0;have h1:=T.sa 0 i (by lia) (by lia) (by lia);rw[show nb-1=0 by lia];lia
theorem wx.wB(T:wx key a₀ a b)(h:HI key a b out na nb)(ha:na<=a.size)(hb:nb<=b.size)(hz:na=0\/nb=0):Fi key a b (lQ a b out na nb):=
 h.done T.sa T.sb ha hb fun z i hi=>by lia
def GH(κ:SortKind)(ar:Array Keyed)(pd:Array (Nat×Nat×Nat))(key:Keyed->Int)(a b:Array Keyed)(n:Nat)(r:ForInStep RZ)(st:SortSt):Prop:=SM κ ar pd st/\
 ((∃x c,r=.done (some x,c)/\Fi key a b x)\/∃na nb out mg ac bc,(r=.done (none,na,nb,out,mg,ac,bc)\/r=.yield (none,na,nb,out,mg,ac,bc))/\HI key a b out na nb/\1<=na/\2<=nb/\na<=a.size/\nb<=b.size/\n+na+nb<=a.size+b.size)
theorem Aq{st:SortSt}{a b out:Array Keyed}{na nb mg ac bc n:Nat}(T:wx key a₀ a b)(hB:SM κ ar pd st)(h:HI key a b out na nb)(la:1<=na)(lb:2<=nb)(ma:na<=a.size)(mb:nb<=b.size)(li:n+na+nb<=a.size+b.size)(c:kk key b (nb-1)<=kk key a (na-1)):
  wpS (model prog w) A E s (R1 a b na nb out mg ac bc) (GH κ ar pd key a b n) st:=by
 unfold R1;refine av (bi (c_ a (na-1) (by lia)) ?_);have p:=h.g9 la (show na-1<a.size by lia) T.sa fun _=>c;by_cases f:(na-1==0)=true
 .rw[ao f];exact aJ ⟨hB,.inl ⟨_,_,rfl,T.wB p (by lia) (by lia) (.inl (by simpa using f))⟩⟩
 rw[ap f];have g:¬ (na-1=0):=by simpa using f
 split
 .exact aJ ⟨hB,.inr ⟨_,_,_,_,_,_,.inl rfl,p,by lia,by lia,by lia,by lia,by lia⟩⟩
 .exact aJ ⟨hB,.inr ⟨_,_,_,_,_,_,.inr rfl,p,by lia,by lia,by lia,by lia,by lia⟩⟩
theorem Ar{st:SortSt}{a b out:Array Keyed}{na nb mg ac bc n:Nat}(hC:uQ prog w A s κ a₀ key)(T:wx key a₀ a b)(hB:SM κ ar pd st)(h:HI key a b out na nb)(la:1<=na)(lb:2<=nb)(ma:na<=a.size)(mb:nb<=b.size)(li:n+na+nb<=a.size+b.size)(c:kk key a (na-1)<=kk key b (nb-1)):
  wpS (model prog w) A E s (R3 a b na nb out mg ac bc) (GH κ ar pd key a b n) st:=by
 unfold R3;refine av (bi (c_ b (nb-1) (by lia)) ?_);have p:=h.sI (by lia) (show nb-1<b.size by lia) T.sb fun _=>c;by_cases f:(nb-1==1)=true
 .rw[ao f];exact aJ ⟨hB,.inl ⟨_,_,rfl,T.first p (by lia) (by simpa using f)⟩⟩
 rw[ap f];have g:¬ (nb-1=1):=by simpa using f
 refine av (bi (c_ a (na-1) (by lia)) ?_);refine av (fD hC hB.kind (T.ha _ (by simp)) T.hb (by lia) (by lia) (fun i j h1 h2 h3=>T.sb i j (by lia) h2 (by lia)) fun k hk q1 q2=>?_);rw[<-cJ (key:=key) (a:=a) (i:=na-1) (by lia)] at q1 q2;simp only[qE,iL,pT] at q1 q2;dsimp only;by_cases kp:nb-1-k > 0
 .rw[ao kp];have p2:=p.DJ T.sb (by lia) k hk fun _ i h1 h2=>q2 i h1 h2;by_cases f2:(k==1)=true
  .rw[ao f2];exact aJ ⟨hB,.inl ⟨_,_,rfl,T.first p2 (by lia) (by simpa using f2)⟩⟩
  rw[ap f2];have g2:¬ (k=1):=by simpa using f2
  by_cases f6:(k==0)=true
  .rw[ao f6];exact aJ ⟨hB,.inl ⟨_,_,rfl,T.wB p2 (by lia) (by lia) (.inr (by simpa using f6))⟩⟩
  rw[ap f6];have g6:¬ (k=0):=by simpa using f6
  exact Aq T hB p2 la (by lia) ma (by lia) (by lia) (by have:=q1 (k-1) (by lia);lia)
 .rw[ap kp];have e:k=nb-1:=by lia
  subst e;exact Aq T hB p la (by lia) ma (by lia) (by lia) (by have:=q1 (nb-1-1) (by lia);lia)
theorem GU{st:SortSt}{a b out:Array Keyed}{na nb mg ac bc n:Nat}(hC:uQ prog w A s κ a₀ key)(T:wx key a₀ a b)(hB:SM κ ar pd st)(h:HI key a b out na nb)(la:1<=na)(lb:2<=nb)(ma:na<=a.size)(mb:nb<=b.size)(li:n+na+nb<=a.size+b.size):
  wpS (model prog w) A E s (R4 a b na nb out mg ac bc) (GH κ ar pd key a b n) st:=by
 unfold R4;rw[eB];refine av (fw ?_);have yX:SM κ ar pd (SortSt.mk' (kindOf st) (arrOf st) (pendingOf st) mg (failedOf st)):=⟨hB.arr,hB.kind,hB.failed,hB.pend⟩
 refine av (bi (c_ b (nb-1) (by lia)) ?_);refine av (fD hC yX.kind (T.hb _ (by simp)) T.ha (by lia) (by lia) (fun i j h1 h2 h3=>T.sa i j (by lia) h2 (by lia)) fun k hk q1 q2=>?_);rw[<-cJ (key:=key) (a:=b) (i:=nb-1) (by lia)] at q1 q2;simp only[qE,l4,fz,pT] at q1 q2;dsimp only;by_cases kp:na-k > 0
 .rw[ao kp];have p2:=h.uT T.sa ma (na-k) k (by lia) fun _ i h1 h2=>by have:=q2 i h1 h2;lia
  by_cases f4:(k==0)=true
  .rw[ao f4];exact aJ ⟨yX,.inl ⟨_,_,rfl,T.wB p2 (by lia) (by lia) (.inl (by simpa using f4))⟩⟩
  rw[ap f4];have g4:¬ (k=0):=by simpa using f4
  exact Ar hC T yX p2 (by lia) lb (by lia) mb (by lia) (by have:=q1 (k-1) (by lia);lia)
 .rw[ap kp];have e:k=na:=by lia
  subst e;exact Ar hC T yX h la lb ma mb li (by have:=q1 (k-1) (by lia);lia)
theorem wC{st:SortSt}{a b:Array Keyed}{Q:Array Keyed->SortSt->Prop}(hC:uQ prog w A s κ a₀ key)(hB:SM κ ar pd st)(T:wx key a₀ a b)(h:∀out aT,Fi key a b out->SM κ ar pd aT->Q out aT):wpS (model prog w) A E s (qA a b) Q st:=by
 have a1:=T.a1;have b1:=T.b1;rw[wz];refine av (lE (iK ⟨rfl,?_⟩));refine av (bi (c_ a (a.size-1) (by lia)) ?_);dsimp only;have p0:HI key a b #[a[a.size-1]] (a.size-1) b.size:=by
  have:HI key a b #[] a.size b.size:=⟨by unfold PH;simp,List.Pairwise.nil,fun x hx=>by simp at hx,fun x hx=>by simp at hx⟩
  exact this.g9 a1 (by lia) T.sa fun _=>T.c1 _ (by lia)
 by_cases e1:(a.size-1==0)=true
 .rw[ao e1];exact aJ (h _ _ (T.wB p0 (by lia) (by lia) (.inl (by simpa using e1))) hB)
 rw[ap e1];have n1:¬ (a.size-1=0):=by simpa using e1
 by_cases e2:(b.size==1)=true
 .rw[ao e2];exact aJ (h _ _ (T.first p0 (by lia) (by simpa using e2)) hB)
 rw[ap e2];have n2:¬ (b.size=1):=by simpa using e2
 refine av (fW ?_);refine av (dz (fN (I:=fun i c aT=>SM κ ar pd aT/\∃na nb out mg,c=(none,na,nb,out,mg)/\HI key a b out na nb/\1<=na/\2<=nb/\na<=a.size/\nb<=b.size/\i+na+nb<=a.size+b.size) (Q:=fun c aT=>SM κ ar pd aT/\∃r c',c=(some r,c')/\Fi key a b r) ?_ ?_ ⟨hB,_,_,_,_,rfl,p0,by lia,by lia,by lia,by lia,by lia⟩) ?_)
 .rintro i c Ck _ hi ⟨GQ,na,nb,out,mg,rfl,p1,la,lb,ma,mb,li⟩;dsimp only;refine av (dz (fN (I:=fun x c aT=>SM κ ar pd aT/\∃na nb out ac bc,c=(none,na,nb,out,ac,bc)/\HI key a b out na nb/\1<=na/\2<=nb/\na<=a.size/\nb<=b.size/\i+x+na+nb<=a.size+b.size) (Q:=fun c aT=>SM κ ar pd aT/\((∃r c',c=(some r,c')/\Fi key a b r)\/∃na nb out ac bc,c=(none,na,nb,out,ac,bc)/\HI key a b out na nb/\1<=na/\2<=nb/\na<=a.size/\nb<=b.size/\i+1+na+nb<=a.size+b.size)) ?_ ?_ ⟨GQ,_,_,_,_,_,rfl,p1,la,lb,ma,mb,by lia⟩) ?_)
  .rintro x c gR _ hx ⟨gT,na,nb,out,ac,bc,rfl,p1,la,lb,ma,mb,li⟩;dsimp only;refine av (bi (c_ b (nb-1) (by lia)) ?_);refine av (bi (c_ a (na-1) (by lia)) ?_);refine av (qB hC gT.kind (T.hb _ (by simp)) (T.ha _ (by simp)) ?_);rw[<-cJ (key:=key) (a:=b) (i:=nb-1) (by lia),<-cJ (key:=key) (a:=a) (i:=na-1) (by lia)];by_cases aw:kk key b (nb-1)<kk key a (na-1)
   .rw[bJ aw];dsimp only;rw[ao rfl];refine av (bi (c_ a (na-1) (by lia)) ?_);have p2:=p1.g9 (show 1<=na by lia) (show na-1<a.size by lia) T.sa fun _=>by lia
    by_cases f1:(na-1==0)=true
    .rw[ao f1];exact aJ ⟨gT,.inl ⟨_,_,rfl,T.wB p2 (by lia) (by lia) (.inl (by simpa using f1))⟩⟩
    rw[ap f1];have g1:¬ (na-1=0):=by simpa using f1
    split
    .exact aJ ⟨gT,.inr ⟨_,_,_,_,_,rfl,p2,by lia,by lia,by lia,by lia,by lia⟩⟩
    .exact aJ ⟨gT,_,_,_,_,_,rfl,p2,by lia,by lia,by lia,by lia,by lia⟩
   .rw[cE aw];dsimp only;rw[ap (by decide)];refine av (bi (c_ b (nb-1) (by lia)) ?_);have p2:=p1.sI (show 1<=nb by lia) (show nb-1<b.size by lia) T.sb fun _=>by lia
    by_cases f1:(nb-1==1)=true
    .rw[ao f1];exact aJ ⟨gT,.inl ⟨_,_,rfl,T.first p2 (by lia) (by simpa using f1)⟩⟩
    rw[ap f1];have g1:¬ (nb-1=1):=by simpa using f1
    split
    .exact aJ ⟨gT,.inr ⟨_,_,_,_,_,rfl,p2,by lia,by lia,by lia,by lia,by lia⟩⟩
    .exact aJ ⟨gT,_,_,_,_,_,rfl,p2,by lia,by lia,by lia,by lia,by lia⟩
  .rintro c gR ⟨gT,na,nb,out,ac,bc,rfl,p1,la,lb,ma,mb,li⟩;exact⟨gT,.inr ⟨_,_,_,_,_,rfl,p1,la,lb,ma,mb,by lia⟩⟩
  .rintro c gR ⟨gT,⟨r,c',rfl,hp⟩|⟨na,nb,out,ac,bc,rfl,p1,la,lb,ma,mb,li⟩⟩
   .exact aJ ⟨gT,_,_,rfl,hp⟩
   .dsimp only;refine av (lE (iK ⟨rfl,?_⟩));refine av (dz (fN (I:=fun x c aT=>SM κ ar pd aT/\∃na nb out mg ac bc,c=(none,na,nb,out,mg,ac,bc)/\HI key a b out na nb/\1<=na/\2<=nb/\na<=a.size/\nb<=b.size/\i+1+na+nb<=a.size+b.size) (Q:=fun c aT=>SM κ ar pd aT/\((∃r c',c=(some r,c')/\Fi key a b r)\/∃na nb out mg ac bc,c=(none,na,nb,out,mg,ac,bc)/\HI key a b out na nb/\1<=na/\2<=nb/\na<=a.size/\nb<=b.size/\i+1+na+nb<=a.size+b.size)) ?_ ?_ ⟨gT,_,_,_,_,_,_,rfl,p1,la,lb,ma,mb,li⟩) ?_)
    .rintro x c gR _ hx ⟨gT,na,nb,out,mg,ac,bc,rfl,p1,la,lb,ma,mb,li⟩;change wpS (model prog w) A E s (if mg > 1 then R4 a b na nb out (mg-1) ac bc else R4 a b na nb out mg ac bc) _ gR;split <;>
     .refine dz (GU hC T gT p1 la lb ma mb li) ?_;rintro r aT ⟨m,⟨x,c,rfl,hf⟩|⟨na,nb,out,mg,ac,bc,rfl|rfl,hh⟩⟩
      .exact⟨m,.inl ⟨_,_,rfl,hf⟩⟩
      .exact⟨m,.inr ⟨_,_,_,_,_,_,rfl,hh⟩⟩
      .exact⟨m,_,_,_,_,_,_,rfl,hh⟩
    .rintro c gR ⟨gT,hh⟩;exact⟨gT,.inr hh⟩
    .rintro c gR ⟨gT,⟨r,c',rfl,hp⟩|⟨na,nb,out,mg,ac,bc,rfl,p1,la,lb,ma,mb,li⟩⟩
     .exact aJ ⟨gT,_,_,rfl,hp⟩
     .dsimp only;rw[eB];refine av (fw ?_);exact aJ ⟨⟨gT.arr,gT.kind,gT.failed,gT.pend⟩,_,_,_,_,rfl,p1,la,lb,ma,mb,li⟩
 .rintro c Ck ⟨GQ,na,nb,out,mg,rfl,p1,la,lb,ma,mb,li⟩;lia
 .rintro c Ck ⟨GQ,r,c',rfl,hp⟩;exact aJ (h r Ck hp GQ)
end
abbrev K8:=Nat×Nat×Nat
def gp(key:Keyed->Int)(a:Array Keyed):List K8->Nat->Nat->Prop
 |[],s,e=>s=e
 |r::rs,s,e=>r.1=s/\1<=r.2.1/\So key a s (s+r.2.1)/\gp key a rs (s+r.2.1) e
section
variable {key:Keyed->Int} {a:Array Keyed}
theorem gp.le:∀ {l:List K8} {s e:Nat},gp key a l s e->s+l.length<=e
 |[],_,_,h=>ub h
 |r::rs,s,e,⟨_,h2,_,h3⟩=>by have:=h3.le;rw[cw];lia
theorem So.keep(h:So key a s e)(k:∀i,s<=i->i<e->a'[i]?=a[i]?):So key a' s e:=fun i j h1 h2 h3=>by
 rw[fT (k i h1 (by lia)),fT (k j (by lia) h3)];exact h i j h1 h2 h3
theorem gp.keep:∀ {l:List K8} {s e:Nat},gp key a l s e->(∀i,s<=i->i<e->a'[i]?=a[i]?)->gp key a' l s e
 |[],_,_,h,_=>h
 |r::rs,s,e,⟨h1,h2,h3,h4⟩,k=>by
  have:=h4.le;exact⟨h1,h2,h3.keep fun i a b=>k i a (by lia),h4.keep fun i a b=>k i (by lia) b⟩
theorem gp.two:∀ {l:List K8} {s e i:Nat} {x y:K8},gp key a l s e->l[i]?=some x->l[i+1]?=some y->
  s<=x.1/\x.1+x.2.1=y.1/\y.1+y.2.1<=e/\1<=x.2.1/\1<=y.2.1/\So key a x.1 y.1/\So key a y.1 (y.1+y.2.1)/\∀p a',lY a a' x.1 (y.1+y.2.1)->So key a' x.1 (y.1+y.2.1)->gp key a' ((l.set i (x.1,x.2.1+y.2.1,p)).eraseIdx (i+1)) s e
 |r::q::rs,s,e,0,x,y,⟨h1,h2,h3,h4,h5,h6,h7⟩,hx,hy=>by
  obtain rfl:=bR hx;obtain rfl:=bR hy;have:=h7.le;rw[h1,h4];refine⟨aL _,rfl,by lia,h2,h5,h3,h6,fun p a' o so=>⟨rfl,by show 1<=r.2.1+q.2.1;lia,?_,?_⟩⟩
  .show So key a' s (s+(r.2.1+q.2.1));rw[<-t9];exact so
  .show gp key a' rs (s+(r.2.1+q.2.1)) e;rw[<-t9];exact h7.keep fun i a b=>o i (.inr a)
 |r::rs,s,e,i+1,x,y,⟨h1,h2,h3,h4⟩,hx,hy=>by
  obtain⟨a0,a1,a2,a3,a4,a5,a6,a7⟩:=gp.two (i:=i) h4 hx hy;exact⟨by lia,a1,a2,a3,a4,a5,a6,fun p a' o so=>⟨h1,h2,h3.keep fun i a b=>o i (.inl (by lia)),a7 p a' o so⟩⟩
theorem gp.push:∀ {l:List K8} {s e n p:Nat},gp key a l s e->1<=n->So key a e (e+n)->gp key a (l++[(e,n,p)]) s (e+n)
 |[],s,e,n,p,h,hn,so=>⟨h.symm,hn,by rw[show s=e from h];exact so,by rw[show s=e from h];rfl⟩
 |r::rs,s,e,n,p,⟨h1,h2,h3,h4⟩,hn,so=>⟨h1,h2,h3,gp.push h4 hn so⟩
theorem gp.pw:∀ {l:List K8} {s e:Nat} (i p:Nat),gp key a l s e->gp key a (l.modify i fun r=>(r.1,r.2.1,p)) s e
 |[],s,e,i,p,h=>by cases i <;> exact h
 |r::rs,s,e,0,p,⟨h1,h2,h3⟩=>⟨h1,h2,h3⟩
 |r::rs,s,e,i+1,p,⟨h1,h2,h3,h4⟩=>⟨h1,h2,h3,gp.pw i p h4⟩
end
theorem GV{M:Model}{A:Around}{E:Value->Shared->Prop}{s:Shared}{σ:Type}{x:σ}{Q:PUnit->σ->Prop}{st:σ}(h:Q ⟨⟩ x):wpS M A E s (set x:StateT σ Sem PUnit) Q st:=by
 unfold wpS;rw[StateT.run_set];exact wpAny_pure ⟨rfl,h⟩
theorem wD(i:Nat):mergeAt' i=(do
 let s <- get
 let (some (sa,na,O2),some (sb,nb,_)):=((pendingOf s)[i]?,(pendingOf s)[i+1]?)|unsupported "internal:list.sort.pending"
 set (setPending s (((pendingOf s).setIfInBounds i (sa,na+nb,O2)).eraseIdxIfInBounds (i+1)))
 let some k <- eR false (<-elem' (arrOf s) sb) (arrOf s) sa na 0|return false
 let (sa,na):=(sa+k,na-k)
 if na==0 then return true
 let some nb <- eR true (<-elem' (arrOf s) (sa+na-1)) (arrOf s) sb nb (nb-1)|return false
 if nb==0 then return true
 let x:=(arrOf s).extract sa sb
 let y:=(arrOf s).extract sb (sb+nb)
 let merged <- if na<=nb then qz x y else qA x y
 modify fun s=>setArr s (merged.toList.zipIdx.foldl (fun a (p,j)=>a.setIfInBounds (sa+j) p) (arrOf s))
 return (failedOf (<-get)).isNone):=rfl
theorem qG:∀ (l:List Keyed) (k:Nat) (arr:Array Keyed),sa+k+l.length<=arr.size->
  ((l.zipIdx k).foldl (fun (a:Array Keyed) (x:Keyed×Nat)=>a.setIfInBounds (sa+x.2) x.1) arr).toList=arr.toList.take (sa+k)++l++arr.toList.drop (sa+k+l.length)
 |[],k,arr,_=>by simp
 |x::l,k,arr,h=>by
  rw[cw] at h;have hs:sa+k<arr.toList.length:=by rw[im];lia
  rw[List.zipIdx_cons,tW,qG l (k+1) _ (by rw[Array.size_setIfInBounds];lia),xw];dsimp only;have e1:(arr.toList.set (sa+k) x).take (sa+(k+1))=arr.toList.take (sa+k)++[x]:=by
   rw[<-t9,io,pF hs,List.take_set_of_le (aL _)];rfl
  have e2:(arr.toList.set (sa+k) x).drop (sa+(k+1)+l.length)=arr.toList.drop (sa+k+(x::l).length):=by
   rw[List.drop_set_of_lt (by lia),cw];congr 1;lia
  rw[e1,e2,i_,i_,i_];rfl
section
variable {prog:Program} {w:World} {A:Around} {E:Value->Shared->Prop} {s:Shared} {κ:SortKind} {a₀:Array Keyed} {key:Keyed->Int}
theorem uU:kk key a i=(a.toList[i]?.map key).getD 0:=by unfold kk;rw[kK]
theorem ic(h:k<j-i):kk key (a.extract i j) k=kk key a (i+k):=by
 rw[uU,uU,fj,List.getElem?_take,ao h,List.getElem?_drop]
def SR(κ:SortKind)(a₀:Array Keyed)(key:Keyed->Int)(lo:Nat)(st:SortSt):Prop:=∃pd,SQ κ a₀ pd st/\gp key (arrOf st) pd.toList 0 lo/\lo<=a₀.size
theorem GW(h1:sa+k<=sb)(h2:sb+k2<=e)(he:e<=a.size)(hl:out.length=sb+k2-(sa+k))(wl:a'.toList=a.toList.take (sa+k)++out++a.toList.drop (sb+k2))(s1:So key a sa sb)(s2:So key a sb e)(so:out.Pairwise fun x y=>key x<=key y)(g1:∀i,sa<=i->i<sa+k->kk key a i<=b)(g2:∀i,sb+k2<=i->i<e->t<=kk key a i)(go:∀x∈out,b<=key x/\key x<=t)(gb:∀i,sb+k2<=i->i<e->b<=kk key a i):
  So key a' sa e/\lY a a' sa e:=by
 have tl:(a.toList.take (sa+k)).length=sa+k:=by rw[jc,im];lia
 have p1:∀i,i<sa+k->a'[i]?=a[i]?:=fun i hi=>by
  rw[<-kK,wl,i_,i8 (by rw[tl];exact hi),List.getElem?_take,ao hi,kK]
 have p3:∀i,sb+k2<=i->a'[i]?=a[i]?:=fun i hi=>by
  rw[<-kK,wl,nZ (by rw[cr,tl,hl];lia),cr,tl,hl,List.getElem?_drop,kK];congr 1;lia
 have p2:∀i,sa+k<=i->i<sb+k2->∃h:i-(sa+k)<out.length,kk key a' i=key out[i-(sa+k)]:=fun i hi lW=>by
  have hh:i-(sa+k)<out.length:=by lia
  refine⟨hh,?_⟩;rw[uU,wl,i_,nZ (by rw[tl];exact hi),tl,i8 hh,cm hh];rfl
 refine⟨fun i j hi GK hj=>?_,fun i hi=>?_⟩
 .by_cases c1:i<sa+k
  .rw[fT (p1 i c1)];by_cases c2:j<sa+k
   .rw[fT (p1 j c2)];exact s1 i j hi GK (by lia)
   .have:=g1 i hi c1;by_cases c3:j<sb+k2
    .obtain⟨hh,e⟩:=p2 j (by lia) c3;have:=(go _ (jd hh)).1;rw[e];lia
    .rw[fT (p3 j (by lia))];have:=gb j (by lia) hj;lia
  .by_cases c2:i<sb+k2
   .obtain⟨hh,ei⟩:=p2 i (by lia) c2;rw[ei];by_cases c3:j<sb+k2
    .obtain⟨hh',ej⟩:=p2 j (by lia) c3;rw[ej];by_cases c4:i=j
     .subst c4;exact lB _
     .exact rN.mp so _ _ hh hh' (by lia)
    .rw[fT (p3 j (by lia))];have:=(go _ (jd hh)).2;have:=g2 j (by lia) hj;lia
   .rw[fT (p3 i (by lia)),fT (p3 j (by lia))];exact s2 i j (by lia) GK hj
 .rcases hi with hi|hi
  .exact p1 i (by lia)
  .exact p3 i (by lia)
theorem jN{st:SortSt}{i lo:Nat}{Q:Bool->SortSt->Prop}(hC:uQ prog w A s κ a₀ key)(hB:SR κ a₀ key lo st)(hi:i+1<(pendingOf st).size)(h:∀aT,SR κ a₀ key lo aT->lY (arrOf st) (arrOf aT) 0 lo->(pendingOf aT).size+1=(pendingOf st).size->Q true aT):wpS (model prog w) A E s (mergeAt' i) Q st:=by
 obtain⟨pd,hq,hr,vU⟩:=hB;rw[hq.pend] at hi h;rw[wD];refine av (fW ?_);have e1:pd[i]?=some pd[i]:=c_ pd i (by lia);have e2:pd[i+1]?=some pd[i+1]:=c_ pd (i+1) hi;obtain⟨_,a1,a2,a3,a4,b1,b2,a5⟩:=hr.two (i:=i) (x:=pd[i]) (y:=pd[i+1]) (by simpa using e1) (by simpa using e2);rw[hq.pend,e1,e2];revert a1 a2 a3 a4 a5 b1 b2;generalize pd[i]=x;generalize pd[i+1]=y;obtain⟨sa,na,pw⟩:=x;obtain⟨sb,nb,pw2⟩:=y;intro a1 a2 a3 a4 b1 b2 a5;dsimp only at a1 a2 a3 a4 a5 b1 b2 |-;obtain⟨FB,K9⟩:∃FB,FB=(pd.setIfInBounds i (sa,na+nb,pw)).eraseIdxIfInBounds (i+1):=⟨_,rfl⟩
 have XS:FB.size+1=pd.size:=by
  rw[K9,<-im,Cs,xw,List.length_eraseIdx,lf,ao (by simpa using hi),im];lia
 have vv:∀a',lY (arrOf st) a' sa (sb+nb)->So key a' sa (sb+nb)->gp key a' FB.toList 0 lo:=by
  intro a' o so;rw[K9,Cs,xw];exact a5 pw a' o so
 refine av (GV ?_);rw[<-K9];have Jj:SM κ (arrOf st) FB (setPending st FB):=⟨rfl,hq.kind,hq.failed,rfl⟩
 have hsz:=hq.size;have sH:∀x∈(arrOf st).toList,x∈a₀.toList:=fun x hx=>(kH.mp hq.perm).mem_iff.mp hx;have fin:∀aT,SM κ (arrOf st) FB aT->So key (arrOf st) sa (sb+nb)->Q true aT:=fun aT m so=>h aT ⟨FB,⟨by rw[m.arr];exact hq.perm,m.kind,m.failed,m.pend⟩,by rw[m.arr];exact vv _ lY.refl so,vU⟩ (by rw[m.arr];exact lY.refl) (by rw[m.pend];exact XS);refine av (bi (c_ (arrOf st) sb (by lia)) ?_);refine av (fD hC Jj.kind (sH _ (by simp)) sH (by lia) (by lia) (by rw[a1];exact b1) fun k hk q1 q2=>?_);rw[<-cJ (key:=key) (a:=arrOf st) (i:=sb) (by lia)] at q1 q2;simp only[qE,l4,fz] at q1 q2;dsimp only;by_cases f1:(na-k==0)=true
 .rw[ao f1];have g1:na-k=0:=by simpa using f1
  refine aJ (fin _ Jj fun i j h1 h2 h3=>?_);by_cases c1:j<sb
  .exact b1 i j h1 h2 c1
  .by_cases c2:i<sb
   .have:=q1 (i-sa) (by lia);rw[show sa+(i-sa)=i by lia] at this;have:=b2 sb j (by lia) (by lia) h3;lia
   .exact b2 i j (by lia) h2 h3
 rw[ap f1];have g1:¬ (na-k=0):=by simpa using f1
 have el:sa+k+(na-k)-1=sb-1:=by lia
 rw[el];refine av (bi (c_ (arrOf st) (sb-1) (by lia)) ?_);refine av (fD hC Jj.kind (sH _ (by simp)) sH (by lia) (by lia) b2 fun k2 K3 q3 q4=>?_);rw[<-cJ (key:=key) (a:=arrOf st) (i:=sb-1) (by lia)] at q3 q4;simp only[qE,iL] at q3 q4;dsimp only;by_cases f2:(k2==0)=true
 .rw[ao f2];have g2:k2=0:=by simpa using f2
  refine aJ (fin _ Jj fun i j h1 h2 h3=>?_);by_cases c1:j<sb
  .exact b1 i j h1 h2 c1
  .by_cases c2:i<sb
   .have:=q4 (j-sb) (by lia) (by lia);rw[show sb+(j-sb)=j by lia] at this;have:=b1 i (sb-1) h1 (by lia) (by lia);lia
   .exact b2 i j (by lia) h2 h3
 rw[ap f2];have g2:¬ (k2=0):=by simpa using f2
 have sx:((arrOf st).extract (sa+k) sb).size=sb-(sa+k):=by rw[Array.size_extract];lia
 have sy:((arrOf st).extract sb (sb+k2)).size=k2:=by rw[Array.size_extract];lia
 have T:wx key a₀ ((arrOf st).extract (sa+k) sb) ((arrOf st).extract sb (sb+k2)):=by
  refine⟨fun x hx=>sH x (by rw[fj] at hx;exact tI (mR hx)),fun x hx=>sH x (by rw[fj] at hx;exact tI (mR hx)),by lia,by lia,fun i j h1 h2 h3=>?_,fun i j h1 h2 h3=>?_,?_,fun i hi=>?_⟩
  .rw[sx] at h3;rw[ic (by lia),ic (by lia)];exact b1 _ _ (by lia) (by lia) (by lia)
  .rw[sy] at h3;rw[ic (by lia),ic (by lia)];exact b2 _ _ (by lia) (by lia) (by lia)
  .rw[ic (by lia),ic (by lia)];have:=q2 k (by lia) (by lia);rw[hX,hX];lia
  .rw[sy] at hi;rw[sx,ic (by lia),ic (by lia)];have:=q3 i hi;rw[show sa+k+(sb-(sa+k)-1)=sb-1 by lia];lia
 have last:∀ (out:Array Keyed) (aT:SortSt),Fi key ((arrOf st).extract (sa+k) sb) ((arrOf st).extract sb (sb+k2)) out->SM κ (arrOf st) FB aT->wpS (model prog w) A E s (do
   modify fun s=>setArr s (out.toList.zipIdx.foldl (fun a (p,j)=>a.setIfInBounds (sa+k+j) p) (arrOf s))
   return (failedOf (<-get)).isNone) Q aT:=by
  intro out aT hF m;obtain⟨hp,so⟩:=hF;refine av (fw ?_);refine av (fW (aJ ?_));have XT:out.toList.length=sb-(sa+k)+k2:=by
   rw[im,hp.size_eq,Array.size_append,sx,sy]
  have wl:=qG (sa:=sa+k) out.toList 0 (arrOf aT) (by rw[m.arr,XT];lia);have e3:sa+k+(sb-(sa+k)+k2)=sb+k2:=by lia
  rw[m.arr,XT,hX,e3] at wl;have Ji:=kH.mp hp;rw[n6] at Ji;have pm:(out.toList.zipIdx.foldl (fun a (p,j)=>a.setIfInBounds (sa+k+j) p) (arrOf st)).Perm (arrOf st):=by
   rw[kH];refine(tX wl).trans ?_;rw[fj,fj] at Ji;refine((Ji.append_left _).append_right _).trans ?_;have e1:(arrOf st).toList.drop (sa+k)=((arrOf st).toList.drop (sa+k)).take (sb-(sa+k))++(arrOf st).toList.drop sb:=wA (by lia);have e2:(arrOf st).toList.drop sb=((arrOf st).toList.drop sb).take (sb+k2-sb)++(arrOf st).toList.drop (sb+k2):=wA (by lia);refine tX ?_;conv=>rhs;rw[<-xG (sa+k) (arrOf st).toList,e1,e2]
   simp only[i_]
  have hf:(failedOf aT).isNone=true:=by rw[m.failed];rfl
  show Q (failedOf aT).isNone _;rw[hf];have go:∀x∈out.toList,kk key (arrOf st) sb<=key x/\key x<=kk key (arrOf st) (sb-1):=by
   intro x hx;rcases bp.mp (Ji.mem_iff.mp hx) with z|z
   .obtain⟨n,hn,rfl⟩:=mS.mp z;rw[im] at hn;have e:key (((arrOf st).extract (sa+k) sb).toList[n]'(by rw[im];exact hn))=kk key (arrOf st) (sa+k+n):=by
     rw[<-ic (i:=sa+k) (j:=sb) (by lia),cJ hn,xJ]
    rw[e];have h1:=q2 (k+n) (by lia) (by lia);rw[<-t9] at h1;have h2:=b1 (sa+k+n) (sb-1) (by lia) (by lia) (by lia);lia
   .obtain⟨n,hn,rfl⟩:=mS.mp z;rw[im] at hn;have e:key (((arrOf st).extract sb (sb+k2)).toList[n]'(by rw[im];exact hn))=kk key (arrOf st) (sb+n):=by
     rw[<-ic (i:=sb) (j:=sb+k2) (by lia),cJ hn,xJ]
    rw[e];have h1:=q3 n (by lia);have h2:=b2 sb (sb+n) (by lia) (by lia) (by lia);lia
  have bk:=GW (key:=key) (a:=arrOf st) (a':=out.toList.zipIdx.foldl (fun a (p,j)=>a.setIfInBounds (sa+k+j) p) (arrOf st)) (out:=out.toList) (sa:=sa) (k:=k) (sb:=sb) (k2:=k2) (e:=sb+nb) (by lia) (by lia) (by lia) (by lia) wl b1 b2 so (b:=kk key (arrOf st) sb) (t:=kk key (arrOf st) (sb-1))
   (fun i h1 h2=>by have:=q1 (i-sa) (by lia);rw[show sa+(i-sa)=i by lia] at this;lia) (fun i h1 h2=>by have:=q4 (i-sb) (by lia) (by lia);rw[show sb+(i-sb)=i by lia] at this;lia) go (fun i h1 h2=>b2 sb i (by lia) (by lia) h2)
  have ea:arrOf (setArr aT (out.toList.zipIdx.foldl (fun a (p,j)=>a.setIfInBounds (sa+k+j) p) (arrOf aT)))=out.toList.zipIdx.foldl (fun a (p,j)=>a.setIfInBounds (sa+k+j) p) (arrOf st):=by rw[m.arr]
  refine h _ ⟨FB,⟨by rw[ea];exact pm.trans hq.perm,m.kind,m.failed,m.pend⟩,by rw[ea];exact vv _ bk.2 bk.1,vU⟩ (by rw[ea];exact bk.2.wide (by lia) (by lia)) (by show (pendingOf aT).size+1=_;rw[m.pend];exact XS)
 by_cases f3:na-k<=k2
 .rw[ao f3];exact av (wy hC Jj T fun out aT hp m=>last out aT hp m)
 .rw[ap f3];exact av (wC hC Jj T fun out aT hp m=>last out aT hp m)
theorem wE[Decidable c]:(if c then x-1 else x)<=x:=by split <;> lia
theorem SR.pw{lo:Nat}{st:SortSt}(h:SR κ a₀ key lo st)(i p:Nat):SR κ a₀ key lo (setPending st ((pendingOf st).modify i fun r=>(r.1,r.2.1,p))):=by
 obtain⟨pd,hq,hr,hl⟩:=h;refine⟨_,⟨hq.perm,hq.kind,hq.failed,rfl⟩,?_,hl⟩;show gp key (arrOf st) ((pendingOf st).modify i fun r=>(r.1,r.2.1,p)).toList 0 lo;rw[hq.pend,Array.toList_modify];exact hr.pw i p
theorem SR.push{lo n:Nat}{st:SortSt}(h:SR κ a₀ key lo st)(h1:1<=n)(hn:lo+n<=a₀.size)(so:So key (arrOf st) lo (lo+n)):SR κ a₀ key (lo+n) (setPending st ((pendingOf st).push (lo,n,0))):=by
 obtain⟨pd,hq,hr,hl⟩:=h;refine⟨_,⟨hq.perm,hq.kind,hq.failed,rfl⟩,?_,hn⟩;show gp key (arrOf st) ((pendingOf st).push (lo,n,0)).toList 0 (lo+n);rw[hq.pend,ja];exact hr.push h1 so
theorem BQ{st:SortSt}{Q:Unit->SortSt->Prop}(hC:uQ prog w A s κ a₀ key)(hp:(arrOf st).Perm a₀)(hk:kindOf st=κ)(hf:failedOf st=none)(hpd:pendingOf st=#[])(h:∀aT,(arrOf aT).Perm a₀->failedOf aT=none->So key (arrOf aT) 0 a₀.size->Q () aT):wpS (model prog w) A E s sortRuns' Q st:=by
 have h0:SR κ a₀ key 0 st:=⟨#[],⟨hp,hk,hf,hpd⟩,rfl,df _⟩
 have hsz:(arrOf st).size=a₀.size:=hp.size_eq;rw[sortRuns'_eq];refine av (fW ?_);dsimp only;rw[hsz];refine av (dz (fN (I:=fun i c aT=>∃lo,c=(none,lo)/\SR κ a₀ key lo aT/\i<=lo) (Q:=fun c aT=>∃lo,c=(none,lo)/\SR κ a₀ key lo aT/\a₀.size<=lo) ?_ (fun c aT ⟨lo,a,b,c⟩=>⟨lo,a,b,by lia⟩) ⟨0,rfl,h0,by lia⟩) ?_)
 .rintro i c Ck _ _ ⟨lo,rfl,hR,hil⟩;by_cases e1:lo>=a₀.size
  .dsimp only;rw[ao e1];exact aJ ⟨lo,rfl,hR,e1⟩
  have vU:lo<a₀.size:=by lia
  obtain⟨pd,hq,hr,hl⟩:=hR;dsimp only;rw[ap e1];refine av (BP hC (by lia) (by lia) hq fun n gR RN n1 n2 so ou=>?_);have Nf:gp key (arrOf gR) pd.toList 0 lo:=hr.keep fun i _ h2=>ou i (.inl h2);dsimp only;by_cases hm:n<minRun' a₀.size a₀.size 0
  .rw[ao hm];refine av (lE (iK ⟨rfl,?_⟩));refine av (GJ hC (by lia) (by lia) RN so fun uo Xu XU DG=>?_);simp only[t_,l4,fz];have vw:SR κ a₀ key lo uo:=⟨pd,Xu,Nf.keep fun i _ h2=>DG i (.inl h2),hl⟩
   refine av (fW ?_);cases hb:(pendingOf uo).back? with
   |none=>
    dsimp only;exact av (fw (aJ ⟨_,rfl,SR.push vw (by lia) (by lia) XU,by lia⟩))
   |some r=>
    obtain⟨s1,n1',pw1⟩:=r;dsimp only;refine av (dz (fN (I:=fun _ c aT=>c=(none,())/\SR κ a₀ key lo aT/\So key (arrOf aT) lo (lo+min (a₀.size-lo) (minRun' a₀.size a₀.size 0))) (Q:=fun c aT=>c=(none,())/\SR κ a₀ key lo aT/\So key (arrOf aT) lo (lo+min (a₀.size-lo) (minRun' a₀.size a₀.size 0))) ?_ (fun c aT hh=>hh) ⟨rfl,vw,XU⟩) ?_)
    .rintro x c rh _ _ ⟨rfl,rj,DK⟩;refine av (fW ?_);by_cases hs:(pendingOf rh).size > 1
     .rw[ao hs,c_ (pendingOf rh) ((pendingOf rh).size-2) (by lia)];generalize (pendingOf rh)[(pendingOf rh).size-2]=r4;obtain⟨_,_,O4⟩:=r4;dsimp only;split
      .exact aJ ⟨rfl,rj,DK⟩
      .refine av (jN hC rj (by lia) fun zJ O5 ou _=>?_);simp only[t_,l4,fz];exact aJ ⟨rfl,O5,DK.keep fun i h1 _=>ou i (.inr h1)⟩
     .rw[ap hs];exact aJ ⟨rfl,rj,DK⟩
    .rintro c rh ⟨rfl,rj,DK⟩;dsimp only;exact av (fw (av (fw (aJ ⟨_,rfl,(rj.pw _ _).push (by lia) (by lia) DK,by lia⟩))))
  .rw[ap hm];have vw:SR κ a₀ key lo gR:=⟨pd,RN,Nf,hl⟩
   refine av (fW ?_);cases hb:(pendingOf gR).back? with
   |none=>
    dsimp only;exact av (fw (aJ ⟨_,rfl,SR.push vw n1 (by lia) so,by lia⟩))
   |some r=>
    obtain⟨s1,n1',pw1⟩:=r;dsimp only;refine av (dz (fN (I:=fun _ c aT=>c=(none,())/\SR κ a₀ key lo aT/\So key (arrOf aT) lo (lo+n)) (Q:=fun c aT=>c=(none,())/\SR κ a₀ key lo aT/\So key (arrOf aT) lo (lo+n)) ?_ (fun c aT hh=>hh) ⟨rfl,vw,so⟩) ?_)
    .rintro x c rh _ _ ⟨rfl,rj,DK⟩;refine av (fW ?_);by_cases hs:(pendingOf rh).size > 1
     .rw[ao hs,c_ (pendingOf rh) ((pendingOf rh).size-2) (by lia)];generalize (pendingOf rh)[(pendingOf rh).size-2]=r4;obtain⟨_,_,O4⟩:=r4;dsimp only;split
      .exact aJ ⟨rfl,rj,DK⟩
      .refine av (jN hC rj (by lia) fun zJ O5 ou _=>?_);simp only[t_,l4,fz];exact aJ ⟨rfl,O5,DK.keep fun i h1 _=>ou i (.inr h1)⟩
     .rw[ap hs];exact aJ ⟨rfl,rj,DK⟩
    .rintro c rh ⟨rfl,rj,DK⟩;dsimp only;exact av (fw (av (fw (aJ ⟨_,rfl,(rj.pw _ _).push n1 (by lia) DK,by lia⟩))))
 .rintro c Ck ⟨lo,rfl,hR,vU⟩;dsimp only;refine av (dz (fN (I:=fun i c aT=>c=(none,())/\SR κ a₀ key lo aT/\(pendingOf aT).size<=max 1 (a₀.size-i)) (Q:=fun c aT=>c=(none,())/\SR κ a₀ key lo aT/\(pendingOf aT).size<=1) ?_ ?_ ⟨rfl,hR,?_⟩) ?_)
  .rintro x c rh _ _ ⟨rfl,rj,hz⟩;refine av (fW ?_);by_cases hs:(pendingOf rh).size<=1
   .rw[ao hs];exact aJ ⟨rfl,rj,hs⟩
   rw[ap hs];refine av (jN hC rj ?_ fun zJ O5 _ hz5=>?_)
   .exact gg (Nat.succ_le_succ wE) (show (pendingOf rh).size-2+1<(pendingOf rh).size by lia)
   .simp only[t_,l4,fz];exact aJ ⟨rfl,O5,by lia⟩
  .rintro c rh ⟨rfl,rj,hz⟩;exact⟨rfl,rj,by lia⟩
  .obtain⟨pd,hq,hr,hl⟩:=hR;have:=hr.le;rw[hq.pend];simp at this;lia
  .rintro c rh ⟨rfl,⟨pd,hq,hr,hl⟩,hz⟩;refine aJ (h _ hq.perm hq.failed ?_);rw[hq.pend] at hz;have Ux:pd.toList.length<=1:=by simpa using hz
   have e:lo=a₀.size:=by lia
   subst e;revert Ux;revert hr;cases pd.toList with
   |nil=>intro hr _ i j _ _ hj;have:0=a₀.size:=hr;lia
   |cons r rs=>
    cases rs with
    |nil=>intro hr _;obtain⟨_,_,so,e⟩:=hr;have e:0+r.2.1=a₀.size:=e;rw[<-e];exact so
    |cons r2 rs=>intro _ hz;simp at hz
end
end PyProof.Rows
namespace L2
open PySem PySem.Spec PyProof.Rows PySem.W
def iX(h:Heap)(g:Addr->Int×Int)(vs:List Value):Prop:=∀v∈vs,∃a o n t u,v=Value.ref a/\h.get? a=some o/\o.cls=.type "tuple"/\o.data=.seq #[.int (g a).1 t,.int (g a).2 u] n/\0<=(g a).2/\(g a).2<64
def pk(u:Int×Int):Int:=64*u.1+u.2
def kv(g:Addr->Int×Int)(v:Value):Int:=match v with
 |.ref a=>pk (g a)
 |_=>0
theorem iX.lF:∀ {vs:List Value},iX h g vs->∃fs,KatTups h vs fs/\fs.length=vs.length/\∀v∈fs,∃n t,v=Value.int n t
 |[],_=>⟨[],trivial,rfl,fun v hv=>nomatch hv⟩
 |v::vs,hp=>by
  obtain⟨fs,k1,k2,k3⟩:=iX.lF (vs:=vs) fun b hb=>hp b (cC _ hb);obtain⟨a,o,n,t,u,rfl,e,c,d,_⟩:=hp v b9;refine⟨.int (g a).1 t::fs,KatTups.cons e c d rfl k1,by simp[k2],fun v hv=>?_⟩;rcases bK.mp hv with z|z
  .exact⟨_,t,z⟩
  .exact k3 v z
section
variable {prog:Program} {w:World} {A:Around} {E:Value->Shared->Prop} {s:Shared} {g:Addr->Int×Int}
theorem BR(hp:iX s.heap g vs):uQ prog w A s (tuples' true) (vs.toArray.zip vs.toArray) (fun x=>kv g x.1):=by
 have mem:∀x∈(vs.toArray.zip vs.toArray).toList,x.1∈vs:=by
  intro x hx;rw[xZ] at hx;exact(mY hx).1
 intro x y hx hy Q E' q;obtain⟨a,o,n,t1,t2,e1,eo,_,ed,a1,a2⟩:=hp x.1 (mem x hx);obtain⟨b,o',n',u1,u2,e2,eo',_,ed',b1,b2⟩:=hp y.1 (mem y hy);replace q:∀c,c=decide (kv g x.1<kv g y.1)->Q c s:=fun c e=>e ▸ q;rw[e1,e2] at q;rw[e1,e2];replace q:∀c,c=decide (64*(g a).1+(g a).2<64*(g b).1+(g b).2)->Q c s:=q;generalize (g a).1=x1 at *;generalize (g a).2=x2 at *;generalize (g b).1=y1 at *;generalize (g b).2=y2 at *;refine kat_lt eo ed eo' ed' (kat_cons (yg ?_));by_cases h1:x1=y1
 .rw[gX.mpr h1];refine kat_yes (kat_cons (yg ?_));by_cases h2:x2=y2
  .rw[gX.mpr h2];exact kat_yes (kat_nil (q _ (by
    have e:decide (64*x1+x2<64*y1+y2)=false:=cE (by lia);rw[e];rfl)))
  .rw[kM.mpr h2];exact kat_no (kat_one _ _ (lt_int (q _ (by congr 1;rw[eq_iff_iff];lia))))
 .rw[kM.mpr h1];exact kat_no (oneLt_int (q _ (by congr 1;rw[eq_iff_iff];lia)))
theorem GX{vs:List Value}:((vs.toArray.zip vs.toArray).map (·.2)).toList=vs:=by
 rw[pP,xZ];show (vs.zip vs).map (·.2)=vs;rw[<-List.unzip_snd,List.unzip_zip_right (aL _)]
theorem DL{l:List Value}{p:Value×Value}:p∈l.zip l->p.2=p.1:=by
 induction l with
 |nil=>intro h;cases h
 |cons x l ih=>
  intro h;rw[List.zip_cons_cons] at h;rcases bK.mp h with z|z
  .rw[z]
  .exact ih z
theorem oM(ho:s.heap.get? a=some (seqObj "list" vs.toArray n))(hp:iX s.heap g vs)(hz:vs.length<=4096)(h:∀ (out:Array Value),out.toList.Perm vs->out.toList.Pairwise (fun u v=>kv g u<=kv g v)->P (.done (.ret .none)) { s with heap:=sortedHeap s.heap a vs out }):
  wpAny (model prog w) A (Builtin.«list.sort» ⟨[.ref a],[]⟩) P E s:=by
 rw[list_sort_plain];have ha:a<s.heap.objs.size:=aY ho;have R6:vs.toArray.size<=sizeLine:=by rw[cu,iJ];lia
 refine aI (listItems_at ho rfl ?_);refine aI (listUpdate_at ho rfl ?_ R6 (df _));obtain⟨e1,R7⟩:∃e1,(s.heap.update a (Obj.mapSeq fun _=>#[])).get? a=some (seqObj "list" #[] e1):=⟨_,get?_update_seq ho (fun _=>#[])⟩
 refine aI (seqEpoch_at R7 rfl ?_);refine aI (wpAny_newTuple ?_ (by show vs.length<=_;rw[iJ];lia));refine aI (wpAny_newList ?_ (df _));refine ju ?_;have Ng:(((s.heap.update a (Obj.mapSeq fun _=>#[])).push (seqObj "tuple" vs.toArray 0)).push (seqObj "list" #[] 0)).get? a=some (seqObj "list" #[] e1):=by
  rw[jb _ _ _ (by rw[lD,kO];exact aX (e_ ha)),jb _ _ _ (by rw[kO];exact aX ha)];exact R7
 have XV:iX (((s.heap.update a (Obj.mapSeq fun _=>#[])).push (seqObj "tuple" vs.toArray 0)).push (seqObj "list" #[] 0)) g vs:=by
  intro v hv;obtain⟨b,o,n,t,u,ev,e,c,d⟩:=hp v hv;have hb:b<s.heap.objs.size:=aY e;have jn:b≠a:=by
   rintro rfl;rw[ho] at e;cases e;exact absurd (Value.type.inj c) (by decide)
  refine⟨b,o,n,t,u,ev,?_,c,d⟩;rw[jb _ _ _ (by rw[lD,kO];exact aX (e_ hb)),jb _ _ _ (by rw[kO];exact aX hb),pM _ _ _ _ jn];exact e
 show wpAny (model prog w) A _ P E { s with heap:=((s.heap.update a (Obj.mapSeq fun _=>#[])).push (seqObj "tuple" vs.toArray 0)).push (seqObj "list" #[] 0) };dsimp only;have fin:∀aT:SortSt,(arrOf aT).Perm (vs.toArray.zip vs.toArray)->So (fun x=>kv g x.1) (arrOf aT) 0 (arrOf aT).size->P (.done (.ret .none)) { s with heap:=sortedHeap s.heap a vs ((arrOf aT).map (·.2)) }:=by
  intro aT Nh so;refine h _ ?_ ?_
  .have:=(kH.mp Nh).map (·.2);rw[<-pP,<-pP,GX] at this;exact this
  .have same:∀p∈(arrOf aT).toList,p.2=p.1:=by
    intro p hp;have:=(kH.mp Nh).mem_iff.mp hp;rw[xZ] at this;exact DL this
   rw[pP,ip];refine rN.mpr fun i j hi hj GK=>?_;rw[same _ (jd hi),same _ (jd hj)];have:=so i j (by lia) (by lia) (by simpa using hj);rw[cJ (by simpa using hi),cJ (by simpa using hj)] at this;simpa using this
 have UL:(vs.toArray.zip vs.toArray).size=vs.length:=by simp
 by_cases h2:vs.toArray.size<2
 .rw[ao h2,ao h2];refine aI (wpAny_pure ?_);rw[StateT.run_pure];refine aI (wpAny_pure ?_);dsimp only;refine aI (seqEpoch_at Ng rfl ?_);refine aI (listUpdate_at Ng rfl ?_ (df _) (by show ((vs.toArray.zip vs.toArray).map (·.2)).size<=_;rw[iG,UL,iJ];lia));simp only[bne_self_eq_false,l4,fz];exact wpAny_pure (fin (SortSt.mk' general' (vs.toArray.zip vs.toArray) #[] 7 none) (Array.Perm.refl _) fun i j _ h3 h4=>by
   have h4:j<(vs.toArray.zip vs.toArray).size:=h4;rw[UL] at h4;rw[cu] at h2;rw[show i=j by lia];exact lB _)
 .rw[ap h2,ap h2];have dY:2<=vs.length:=by rw[cu] at h2;lia
  obtain⟨fs,k1,k2,k3⟩:=XV.lF;refine aI (kat_kind (T:=.type "int") k1 (by lia) (fun v hv=>?_) rfl ?_)
  .obtain⟨m,t,rfl⟩:=k3 v hv;exact .now
  refine aI (h9 (BQ (a₀:=vs.toArray.zip vs.toArray) (κ:=tuples' true) (st:=SortSt.mk' (tuples' true) (vs.toArray.zip vs.toArray) #[] 7 none)
   (Q:=fun _ aT=>(arrOf aT).Perm (vs.toArray.zip vs.toArray)/\failedOf aT=none/\So (fun x=>kv g x.1) (arrOf aT) 0 (vs.toArray.zip vs.toArray).size) (BR XV) (Array.Perm.refl _) rfl rfl rfl fun aT b1 b2 b3=>⟨b1,b2,b3⟩) ?_ fun _ _ e=>e)
  rintro⟨⟨⟩,aT⟩ s' ⟨rfl,Nh,hf,so⟩;dsimp only;refine aI (seqEpoch_at Ng rfl ?_);refine aI (listUpdate_at Ng rfl ?_ (df _) (by refine bB (ub ((iG ..).trans (Nh.size_eq.trans UL))) ?_;rw[iJ];lia));rw[hf];simp only[bne_self_eq_false,l4,fz];exact wpAny_pure (fin aT Nh (by rw[Nh.size_eq];exact so))
theorem uV(hl:s.heap.IsList l vs.toArray)(hp:iX s.heap g vs)(hz:vs.length<=4096)(h:∀ (out:Array Value),out.toList.Perm vs->out.toList.Pairwise (fun u v=>kv g u<=kv g v)->Q (.ref (s.heap.objs.size+1)) { s with heap:=sortedAll s.heap vs out }):
  wpAny (model prog w) A (call (.builtin "sorted") [.ref l]) Q E s:=by
 have R6:vs.length<=sizeLine:=by rw[iJ];lia
 refine Calls.call_function_entry kind_sorted plain_sorted entry_sorted (args_sorted1 _) ?_;unfold Builtin.«sorted»;refine aI (m:=checkCount "sorted" 1 1 _) (wpAny_pure ?_);refine aI (collect_list hl ?_ R6);refine aI (wpAny_newList ?_ R6);have hsz:((s.heap.push (seqObj "list" #[] 0)).update s.heap.objs.size (Obj.mapSeq (·++vs.toArray))).objs.size=s.heap.objs.size+1:=by
  rw[kO,lD]
 have IX:(((s.heap.push (seqObj "list" #[] 0)).update s.heap.objs.size (Obj.mapSeq (·++vs.toArray))).push (seqObj "list" vs.toArray 0)).get? (s.heap.objs.size+1)=some (seqObj "list" vs.toArray 0):=by
  rw[<-hsz];exact cV _ rfl
 have UD:iX (((s.heap.push (seqObj "list" #[] 0)).update s.heap.objs.size (Obj.mapSeq (·++vs.toArray))).push (seqObj "list" vs.toArray 0)) g vs:=by
  intro v hv;obtain⟨b,o,n,t,u,ev,e,c,d⟩:=hp v hv;have hb:b<s.heap.objs.size:=aY e;refine⟨b,o,n,t,u,ev,?_,c,d⟩;rw[jb _ _ _ (by rw[hsz];exact aX (e_ hb)),pM _ _ _ _ (aX hb),jb _ _ _ (aX hb)];exact e
 show wpAny _ _ _ _ _ { s with heap:=((s.heap.push (seqObj "list" #[] 0)).update s.heap.objs.size (Obj.mapSeq (·++vs.toArray))).push (seqObj "list" vs.toArray 0) };rw[hsz];refine aI (ju (pS slot_list_sort ⟨_,IX,rfl⟩ entry_list_sort (oM IX UD hz fun out a1 a2=>⟨_,rfl,?_⟩) (args_list_sort _)));exact wpAny_pure ⟨_,rfl,h out a1 a2⟩
end
theorem wF:∀ {as:List Addr} {its:List Value},aW (as.map V.ref) its->its=as.map Value.ref
 |[],_,r=>by cases r;rfl
 |a::as,_,r=>by
  cases r with
  |cons r rr=>
   obtain rfl:=(show _=Value.ref a from r)
   rw[wF rr];rfl
theorem sJ:∀ {as:List Addr},aW (as.map V.ref) (as.map Value.ref)
 |[]=>.nil
 |_::_=>.cons rfl sJ
theorem BS(h:vs.Perm (as.map Value.ref)):∃mQ:List Addr,vs=mQ.map Value.ref/\mQ.Perm as:=by
 let un:Value->Addr:=fun v=>match v with|.ref a=>a|_=>0
 refine⟨vs.map un,?_,?_⟩
 .rw[fL];have:∀v∈vs,(Value.ref ∘ un) v=v:=by
   intro v hv;obtain⟨a,_,rfl⟩:=bP.mp (h.mem_iff.mp hv);rfl
  conv=>lhs;rw[<-jB vs]
  exact i9 fun v hv=>(this v hv).symm
 .have:=h.map un;rw[fL] at this;have e:as.map (un ∘ Value.ref)=as:=by
   conv=>rhs;rw[<-jB as]
   exact i9 fun a _=>rfl
  rw[e] at this;exact this
def DM(K:PySem.W.Frag):List V->Hp->VK->Prop:=fun xs H Q=>∃ (l:Addr) (as:List Addr) (g:Addr->Int×Int),xs=[.ref l]/\aU K H l (as.map V.ref)/\(∀a∈as,cx K H a [.int (g a).1,.int (g a).2]/\0<=(g a).2/\(g a).2<64)/\as.length<=4096/\
 ∀ (D:Addr) (mQ:List Addr),H D=none->mQ.Perm as->mQ.Pairwise (fun a b=>pk (g a)<=pk (g b))->Q (.ref D) (upd H D (.lst (mQ.map V.ref)))
theorem qH:eN X (.builtin "sorted") (DM X.K):=by
 intro ae s σ H xs us Q I r h;obtain⟨l,as,g,rfl,hl,hp,hz,q⟩:=h;obtain⟨u1,rfl,r1⟩:=r.one;obtain rfl:u1=Value.ref l:=r1;obtain⟨its,rv,pl,_⟩:=I.list hl;have yP:=wF rv;subst yP;have hpv:iX s.heap g (as.map Value.ref):=by
  intro v hv;obtain⟨a,ha,rfl⟩:=bP.mp hv;obtain⟨Fz,b1,b2⟩:=hp a ha;obtain⟨its,r,⟨o,e,c,n,d⟩,_⟩:=I.tuple Fz;obtain⟨u1,u2,rfl,r1,r2⟩:=r.two;obtain⟨t,rfl⟩:=r1;obtain⟨t',rfl⟩:=r2;exact⟨a,o,n,t,t',rfl,e,c,d,b1,b2⟩
 refine uV pl.isList hpv (by rw[aO];exact hz) fun out O6 O7=>?_;obtain⟨mQ,eo,pa⟩:=BS O6;have By:out=(mQ.map Value.ref).toArray:=by rw[<-eo]
 subst By;have ho:mQ.Pairwise (fun a b=>pk (g a)<=pk (g b)):=by
  rw[eo,ip] at O7;exact O7
 have UM:((s.heap.push (seqObj "list" #[] 0)).update s.heap.objs.size (Obj.mapSeq (·++(as.map Value.ref).toArray))).objs.size=s.heap.objs.size+1:=by rw[kO,lD]
 have k1:∀b u,s.heap.get? b=some u->(((s.heap.push (seqObj "list" #[] 0)).update s.heap.objs.size (Obj.mapSeq (·++(as.map Value.ref).toArray))).push (seqObj "list" (as.map Value.ref).toArray 0)).get? b=some u:=fun b u e=>by
  have hb:b<s.heap.objs.size:=aY e;rw[jb _ _ _ (by rw[UM];exact aX (e_ hb)),pM _ _ _ _ (aX hb),jb _ _ _ (aX hb)];exact e
 have IX:(((s.heap.push (seqObj "list" #[] 0)).update s.heap.objs.size (Obj.mapSeq (·++(as.map Value.ref).toArray))).push (seqObj "list" (as.map Value.ref).toArray 0)).get? (s.heap.objs.size+1)=some (seqObj "list" (as.map Value.ref).toArray 0):=by
  rw[<-UM];exact cV _ rfl
 have Ni:(((s.heap.push (seqObj "list" #[] 0)).update s.heap.objs.size (Obj.mapSeq (·++(as.map Value.ref).toArray))).push (seqObj "list" (as.map Value.ref).toArray 0)).objs.size=s.heap.objs.size+2:=by rw[lD,UM]
 show EP X ae σ Q (.ref (s.heap.objs.size+1)) { s with heap:=sortedHeap (((s.heap.push (seqObj "list" #[] 0)).update s.heap.objs.size (Obj.mapSeq (·++(as.map Value.ref).toArray))).push (seqObj "list" (as.map Value.ref).toArray 0)) (s.heap.objs.size+1) (as.map Value.ref) (mQ.map Value.ref).toArray };revert k1 IX Ni;generalize ((s.heap.push (seqObj "list" #[] 0)).update s.heap.objs.size (Obj.mapSeq (·++(as.map Value.ref).toArray))).push (seqObj "list" (as.map Value.ref).toArray 0)=h1;intro k1 IX Ni;obtain⟨e1,R7⟩:∃e1,(h1.update (s.heap.objs.size+1) (Obj.mapSeq fun _=>(#[]:Array Value))).get? (s.heap.objs.size+1)=some (seqObj "list" #[] e1):=⟨_,get?_update_seq IX (fun _=>#[])⟩
 have Ng:(((h1.update (s.heap.objs.size+1) (Obj.mapSeq fun _=>(#[]:Array Value))).push (seqObj "tuple" (as.map Value.ref).toArray 0)).push (seqObj "list" #[] 0)).get? (s.heap.objs.size+1)=some (seqObj "list" #[] e1):=by
  rw[jb _ _ _ (by rw[lD,kO,Ni];exact aX (e_ (jw _))),jb _ _ _ (by rw[kO,Ni];exact aX (jw _))];exact R7
 obtain⟨e2,ho7⟩:∃e2,(sortedHeap h1 (s.heap.objs.size+1) (as.map Value.ref) (mQ.map Value.ref).toArray).get? (s.heap.objs.size+1)=some (seqObj "list" (mQ.map Value.ref).toArray e2):=⟨_,get?_update_seq Ng (fun _=>(mQ.map Value.ref).toArray)⟩
 have keep:∀b u,s.heap.get? b=some u->(sortedHeap h1 (s.heap.objs.size+1) (as.map Value.ref) (mQ.map Value.ref).toArray).get? b=some u:=fun b u e=>by
  have hb:b<s.heap.objs.size:=aY e;unfold sortedHeap;rw[pM _ _ _ _ (aX (e_ hb)),jb _ _ _ (by rw[lD,kO,Ni];exact aX (e_ (e_ (e_ hb)))),jb _ _ _ (by rw[kO,Ni];exact aX (e_ (e_ hb))),pM _ _ _ _ (aX (e_ hb))];exact k1 b u e
 have Js:s.heap.get? (s.heap.objs.size+1)=none:=k_ (by lia);refine⟨.ref (s.heap.objs.size+1),_,I.vW (t':=s.toks) (o:=.lst (mQ.map V.ref)) keep Js ⟨?_,mQ.map Value.ref,e2,sJ,ho7⟩,rfl,q _ mQ (I.bA.uF Js) pa ho⟩;rw[aO,pa.length_eq];exact bB hz (by decide)
open PySem PySem.Spec PyProof.Rows
section
variable {prog:Program} {w:World} {A:Around} {E:Value->Shared->Prop} {s:Shared}
end
section
variable {X:Cx}
end
end L2
namespace rF
abbrev Ts:=List (Int×Int)
def T(ts:Ts)(a b:Nat):Prop:=(((a:Nat):Int),((b:Nat):Int))∈ts
instance (ts:Ts) (a b:Nat):Decidable (T ts a b):=inferInstanceAs (Decidable (_∈_))
def dj(ts:Ts):Nat->Nat->Nat->Prop
 |0,a,b=>a=b
 |k+1,a,b=>∃c,dj ts k a c/\T ts c b
theorem dj.trans(h:dj ts k a b):∀ {l:Nat} {c:Nat},dj ts l b c->dj ts (k+l) a c
 |0,_,e=>by cases e;exact h
 |l+1,_,⟨d,w,t⟩=>⟨d,h.trans w,t⟩
theorem dj.one(h:T ts a b):dj ts 1 a b:=⟨a,rfl,h⟩
theorem dj.cons(h:T ts a b)(w:dj ts k b c):dj ts (k+1) a c:=by
 have:=(dj.one h).trans w;rwa [Nat.add_comm] at this
theorem dj.DN{ts:Ts}:∀ {k:Nat} {a c:Nat},dj ts (k+1) a c->∃b,T ts a b/\dj ts k b c
 |0,a,c,⟨d,e,t⟩=>by cases e;exact⟨c,t,rfl⟩
 |k+1,a,c,⟨d,w,t⟩=>by
  obtain⟨b,t',w'⟩:=dj.DN w;exact⟨b,t',d,w',t⟩
def mB(ts:Ts)(a b d:Nat):Prop:=dj ts d a b/\∀k,dj ts k a b->d<=k
theorem mB.uniq(h:mB ts a b d)(g:mB ts a b e):d=e:=Nat.le_antisymm (h.2 _ g.1) (g.2 _ h.1)
theorem K_{ts:Ts}{a b:Nat}:∀k,dj ts k a b->∃d,mB ts a b d:=by
 intro k;induction k using Nat.strongRecOn with
 |ind k ih=>
  intro w;by_cases h:∃j,j<k/\dj ts j a b
  .obtain⟨j,hj,wj⟩:=h;exact ih j hj wj
  .exact⟨k,w,fun j wj=>tq fun z=>h ⟨j,by lia,wj⟩⟩
open Classical in
noncomputable def far(ts:Ts)(a b:Nat):Nat:=if h:∃d,mB ts a b d then h.choose else 0
theorem qI(h:mB ts a b d):far ts a b=d:=by
 unfold far;have hx:∃d,mB ts a b d:=⟨d,h⟩
 rw[dif_pos hx];exact hx.choose_spec.uniq h
theorem La{ts:Ts}{a b k:Nat}(w:dj ts k a b):mB ts a b (far ts a b):=by
 obtain⟨d,h⟩:=K_ k w;rw[qI h];exact h
structure eG(n:Nat)(ts:Ts):Prop where
 n1:2<=n
 n2:n<=32
 nd:ts.Nodup
 rg:∀t∈ts,(0<=t.1/\t.1<n)/\(0<=t.2/\t.2<n)
 ne:∀t∈ts,t.1≠t.2
 Jt:∀h:Int,(ts.filter fun t=>decide (t.1=h)).length=(ts.filter fun t=>decide (t.2=h)).length
 most:∀h:Int,(ts.filter fun t=>decide (t.1=h)).length<=8
 con:∀a b,a<n->b<n->∃k,dj ts k a b
theorem BU(f:α->Int):∀ (l:List α) (n:Nat),(∀x∈l,0<=f x/\f x<n)->(∀h:Int,(l.filter fun t=>decide (f t=h)).length<=8)->l.length<=8*n:=by
 intro l n;induction n generalizing l with
 |zero=>
  intro h _;cases l with
  |nil=>simp
  |cons x xs=>have:=h x b9;lia
 |succ n ih=>
  intro h h8;have e:l.length=(l.filter fun t=>decide (f t=(n:Int))).length+(l.filter fun t=>!decide (f t=(n:Int))).length:=by
   induction l with
   |nil=>rfl
   |cons x xs ih2=>
    have:=ih2 (fun y hy=>h y (cC _ hy)) (fun hh=>bB (by rw[jt];split <;> simp) (h8 hh));by_cases q:f x=(n:Int) <;> simp[jt,q] <;> lia
  have i2:=ih (l.filter fun t=>!decide (f t=(n:Int))) (fun x hx=>by
   have a:=h x (bX.mp hx |>.1);have b:=(bX.mp hx).2;simp at b;lia) (fun hh=>by
   refine bB ?_ (h8 hh);exact(List.filter_sublist.filter _).length_le)
  have:=h8 (n:Int);lia
theorem eG.len(F:eG n ts):ts.length<=256:=by
 have:=BU (·.1) ts n (fun t ht=>(F.rg t ht).1) F.most;have:=F.n2;lia
theorem eG.Cm(F:eG n ts)(h:T ts a b):a<n/\b<n/\a≠b:=by
 have q:=F.rg _ h;have q2:=F.ne _ h;refine⟨by have:=q.1;simp at this;lia,by have:=q.2;simp at this;lia,fun e=>q2 (by rw[e])⟩
theorem eG.GY{n:Nat}{ts:Ts}(F:eG n ts){a b:Nat}(ha:a<n)(hb:b<n):mB ts a b (far ts a b):=
 let ⟨_,w⟩:=F.con a b ha hb;La w
def eY(n:Nat)(ts:Ts)(h:Nat):List Nat:=((List.range n).map fun s=>(h+s) % n).filter fun o=>decide (T ts h o)
theorem jO(F:eG n ts)(hh:h<n):o∈eY n ts h↔T ts h o:=by
 unfold eY;rw[bX,pN];refine⟨fun z=>z.2,fun z=>⟨?_,z⟩⟩;obtain⟨_,h2,_⟩:=F.Cm z;refine bP.mpr ⟨if h<=o then o-h else o+n-h,bN.mpr (by split <;> lia),?_⟩;split
 .rw[show h+(o-h)=o by lia,jv h2]
 .rw[show h+(o+n-h)=o+n by lia,Nat.add_mod_right,jv h2]
theorem As(F:eG n ts)(hh:h<n)(ho:o∈eY n ts h):o<n:=(F.Cm ((jO F hh).mp ho)).2.1
def key(n h o:Nat):Int:=((o:Int)-(h:Int)) % (n:Int)
theorem lN(hh:h<n)(hs:s<n):key n h ((h+s) % n)=(s:Int):=by
 unfold key;by_cases c:h+s<n
 .rw[jv c,show (((h+s:Nat):Int)-(h:Int))=(s:Int) by lia];exact tR (by lia) (by lia)
 .have e:(h+s) % n=h+s-n:=by
   rw[Nat.mod_eq_sub_mod (by lia),jv (by lia)]
  rw[e,show ((((h+s-n:Nat)):Int)-(h:Int))=(s:Int)-(n:Int) by lia,Int.sub_emod_right];exact tR (by lia) (by lia)
theorem wG(hh:h<n):(eY n ts h).Pairwise fun a b=>key n h a<key n h b:=by
 unfold eY;refine pA _ ?_;refine ip.mpr ?_;refine xB ?_ (List.pairwise_lt_range (n:=n));intro a b ha hb O8;rw[lN hh (bN.mp ha),lN hh (bN.mp hb)];lia
theorem oz{α:Type}{k:α->Int}:∀ {a b:List α},a.Pairwise (fun x y=>k x<k y)->b.Pairwise (fun x y=>k x<k y)->(∀x,x∈a↔x∈b)->a=b
 |[],[],_,_,_=>rfl
 |[],y::ys,_,_,h=>absurd ((h y).mpr b9) (by simp)
 |x::xs,[],_,_,h=>absurd ((h x).mp b9) (by simp)
 |x::xs,y::ys,ha,hb,h=>by
  obtain⟨a1,a2⟩:=List.pairwise_cons.mp ha;obtain⟨b1,b2⟩:=List.pairwise_cons.mp hb;have e:x=y:=by
   rcases bK.mp ((h x).mp b9) with z|z
   .exact z
   .rcases bK.mp ((h y).mpr b9) with z'|z'
    .exact z'.symm
    .have q1:=b1 x z;have q2:=a1 y z';lia
  subst e;refine congrArg (x::·) (oz a2 b2 fun z=>⟨fun hz=>?_,fun hz=>?_⟩)
  .rcases bK.mp ((h z).mp (cC _ hz)) with q|q
   .subst q;exact absurd (a1 _ hz) (by lia)
   .exact q
  .rcases bK.mp ((h z).mpr (cC _ hz)) with q|q
   .subst q;exact absurd (b1 _ hz) (by lia)
   .exact q
structure xo(n:Nat)(ts:Ts)(s i:Nat)(R:List Nat)(f:Nat->Nat):Prop where
 nd:R.Nodup
 lt:∀x∈R,x<n
 st:s∈R
 z:f s=0
 wk:∀x∈R,dj ts (f x) s x
 up:R.Pairwise fun a b=>f a<=f b
 bd:∀u,R[i]?=some u->∀x∈R,f x<=f u+1
 cl:∀j u,j<i->R[j]?=some u->∀v,T ts u v->v∈R/\f v<=f u+1
theorem xo.start(hs:s<n):xo n ts s 0 [s] (fun _=>0):=
 ⟨by simp,fun x hx=>by simp at hx;lia,by simp,rfl,fun x hx=>by simp at hx;subst hx;rfl,by simp,fun u _ x _=>by lia,fun j u h=>absurd h (by lia)⟩
def put(f:Nat->Nat)(v k:Nat):Nat->Nat:=fun y=>if y=v then k else f y
theorem gB:put f v k v=k:=by simp[put]
theorem eT(h:x≠v):put f v k x=f x:=by simp[put,h]
theorem xo.add(B:xo n ts s i R f)(hu:R[i]?=some u)(hv:v<n)(t:T ts u v)(hn:v∉R):xo n ts s i (R++[v]) (put f v (f u+1)):=by
 have XW:u∈R:=dP hu;have nv:∀x∈R,x≠v:=fun x hx e=>hn (e ▸ hx);have hi:i<R.length:=(cK.mp hu).1;refine⟨?_,fun x hx=>?_,gW _ B.st,by rw[eT (nv s B.st)];exact B.z,fun x hx=>?_,?_,fun w hw x hx=>?_,fun j w hj hw x hx=>?_⟩
 .rw[jr];exact⟨B.nd,by simp,fun a ha b hb e=>by simp at hb;subst hb;exact hn (e ▸ ha)⟩
 .rcases bp.mp hx with z|z
  .exact B.lt x z
  .simp at z;lia
 .rcases bp.mp hx with z|z
  .rw[eT (nv x z)];exact B.wk x z
  .simp at z;subst z;rw[gB];exact⟨u,B.wk u XW,t⟩
 .rw[tH];refine⟨B.up.imp_of_mem fun {a b} ha hb h=>by rw[eT (nv a ha),eT (nv b hb)];exact h,by simp,fun a ha b hb=>?_⟩;simp at hb;subst hb;rw[eT (nv a ha),gB];exact B.bd u hu a ha
 .have hw':w=u:=by
   rw[i8 hi,hu] at hw;exact(bR hw).symm
  subst hw';rw[eT (nv w XW)];rcases bp.mp hx with z|z
  .rw[eT (nv x z)];exact B.bd w hu x z
  .simp at z;subst z;rw[gB];exact aL _
 .rw[i8 (by lia)] at hw;obtain⟨a,b⟩:=B.cl j w hj hw x hx;refine⟨gW _ a,?_⟩;rw[eT (nv x a),eT (nv w (dP hw))];exact b
theorem xo.next(B:xo n ts s i R f)(hu:R[i]?=some u)(h:∀v,T ts u v->v∈R/\f v<=f u+1):xo n ts s (i+1) R f:=by
 refine⟨B.nd,B.lt,B.st,B.z,B.wk,B.up,fun w hw x hx=>?_,fun j w hj hw v hv=>?_⟩
 .have h1:=B.bd u hu x hx;have h2:f u<=f w:=by
   have hi:i<R.length:=(cK.mp hu).1;have lW:i+1<R.length:=(cK.mp hw).1;have:=rN.mp B.up i (i+1) hi lW (by lia);rw[cm hi] at hu;rw[cm lW] at hw;rw[bR hu,bR hw] at this;exact this
  lia
 .by_cases e:j=i
  .subst e;rw[hu] at hw;cases hw;exact h v hv
  .exact B.cl j w (by lia) hw v hv
theorem eC:∀ {n:Nat} {R:List Nat},R.Nodup->(∀x∈R,x<n)->R.length<=n:=by
 intro n R hn hl;have key:∀ (a b:List Nat),a.Nodup->(∀x∈a,x∈b)->a.length<=b.length:=by
  intro a;induction a with
  |nil=>intro b _ _;exact df _
  |cons x xs ih=>
   intro b hn hs;obtain⟨h1,h2⟩:=dQ.mp hn;have hx:x∈b:=hs x b9;have:=ih (b.erase x) h2 fun y hy=>(xH (fun (e:y=x)=>h1 (e ▸ hy))).mpr (hs y (cC _ hy));rw[xz hx] at this;have:0<b.length:=tD hx;rw[cw];lia
 have:=key R (List.range n) hn fun x hx=>bN.mpr (hl x hx);rwa [fK] at this
theorem xo.done(B:xo n ts s i R f)(F:eG n ts)(hi:R.length<=i)(hx:x<n):x∈R/\f x=far ts s x:=by
 have cl:∀u∈R,∀v,T ts u v->v∈R/\f v<=f u+1:=fun u hu v hv=>by
  obtain⟨j,hj,e⟩:=mS.mp hu;exact B.cl j u (by lia) (by rw[cm hj,e]) v hv
 have walk:∀k x,dj ts k s x->x∈R/\f x<=k:=by
  intro k;induction k with
  |zero=>intro x e;cases e;exact⟨B.st,by rw[B.z];exact aL _⟩
  |succ k ih=>
   rintro x ⟨c,w,t⟩;obtain⟨c1,c2⟩:=ih c w;obtain⟨d1,d2⟩:=cl c c1 x t;exact⟨d1,by lia⟩
 obtain⟨k,w⟩:=F.con s x (B.lt s B.st) hx;obtain⟨m,_⟩:=walk k x w;exact⟨m,(qI ⟨B.wk x m,fun k w=>(walk k x w).2⟩).symm⟩
abbrev ci(x:Nat):Int:=(x:Int)
theorem eG.yZ{n:Nat}{ts:Ts}(F:eG n ts){a b k:Nat}(ha:a<n)(hb:b<n)(w:dj ts k a b):far ts a b<=k:=(F.GY ha hb).2 k w
end rF
namespace L2
open PySem PySem.Spec PyProof.Rows
section
variable {X:Cx}
end
end L2
namespace rF
end rF
namespace dD
open PySem L2
def gw(i:Nat):Stmt:=PySem.Challenge.pw_neverwait_k64_whole_rings_by_nearest_fir.main.body.getD i (.Pass ⟨0,0,0,0⟩)
abbrev nK:Stmt:=gw 8
abbrev j_:Stmt:=gw 9
abbrev y3:Stmt:=gw 10
abbrev Lb:Stmt:=gw 12
structure Bl(mg:Str->Option Value):Prop where
 DO:mg "isinstance"=none
 int:mg "int"=none
 bool:mg "bool"=none
 tup:mg "tuple"=none
 lst:mg "list"=none
 str:mg "str"=none
 set:mg "set"=none
 len:mg "len"=none
 range:mg "range"=none
 sorted:mg "sorted"=none
 any:mg "any"=none
 max:mg "max"=none
 min:mg "min"=none
 aab:mg "ValueError"=none
 all:mg "all"=none
def DP(K:PySem.W.Frag)(H:Hp)(x:V):Prop:=∃t,Ow K H x t/\(PySem.W.kitOne K t (.type "int")=some false\/(PySem.W.kitOne K t (.type "int")=some true/\PySem.W.kitOne K t (.type "bool")=some true))
theorem g_:PySem.W.kitOne K (.type "int") (.type "int")=some true:=by kernel_rfl
theorem gq:PySem.W.kitOne K (.type "int") (.type "bool")=some false:=by kernel_rfl
inductive Wh (K:PySem.W.Frag) (H:Hp):V->Option Int->Prop where
 |int (i:Int):Wh K H (.int i) (some i)
 |no {x:V} (h:DP K H x):Wh K H x none
def iY(K:PySem.W.Frag):Sp:=fun vs H Q _=>∃x o,vs=[x]/\Wh K H x o/\Q (.bl o.isSome) H
section
variable {P:Program} {w:World} {K:PySem.W.Frag} {mg:Str->Option Value} {base:Heap}
theorem uW:aG ["thing"] ["thing"] (am nK):=⟨rfl,rfl,rfl,by decide +kernel,rfl,by decide +kernel,by decide +kernel⟩
theorem qJ(F:fQ K "is_whole" "is_whole" nK f fd)(B:Bl mg):br P w K mg base aZ 1 f fd ["thing"] (iY K):=by
 refine F.ok uW (fun vs H Q E h=>?_) (fun dL A outer s H vs Q E hr h=>?_)
 .obtain⟨x,o,rfl,_⟩:=h;rfl
 .obtain⟨x,o,rfl,W,k⟩:=h;refine⟨_,al (aF (fc (aA eQ (by rfl) B.DO kG (aa (pv 0) (aa (fE (v:=.ty "int") rfl B.int pG rfl) ag)))
   (fX (ym (aA eQ (by rfl) B.DO kG (aa (pv 0) (aa (fE (v:=.ty "bool") rfl B.bool xD rfl) ag))))))),?_⟩
  cases W with
  |int i=>
   refine⟨_,rfl,_,_,_,.type "int",true,rfl,⟨rfl,g_⟩,.of (.int _),true,rfl,?_⟩;exact⟨_,rfl,_,_,_,.type "int",false,rfl,⟨rfl,gq⟩,.of (.int _),false,rfl,k⟩
  |no h=>
   obtain⟨t,ty,h|⟨h1,h2⟩⟩:=h
   .exact⟨_,rfl,_,_,_,t,false,rfl,⟨rfl,h⟩,ty,false,rfl,k⟩
   .refine⟨_,rfl,_,_,_,t,true,rfl,⟨rfl,h1⟩,ty,true,rfl,?_⟩;exact⟨_,rfl,_,_,_,t,true,rfl,⟨rfl,h2⟩,ty,true,rfl,k⟩
def ie(o:Option Int)(lo hi:Int):Bool:=match o with
 |some i=>decide (lo<=i)&&decide (i<=hi)
 |none=>false
def fU(K:PySem.W.Frag):Sp:=fun vs H Q _=>∃x o lo hi,vs=[x,.int lo,.int hi]/\Wh K H x o/\Q (.bl (ie o lo hi)) H
theorem qK:aG ["thing","least","most"] ["thing","least","most"] (am j_):=⟨rfl,rfl,rfl,by decide +kernel,rfl,by decide +kernel,by decide +kernel⟩
theorem nM(F:fQ K "is_whole_within" "is_whole_within" j_ f fd)(W:b_ P w K mg base aZ 1 "is_whole" ["thing"] (iY K)):br P w K mg base aZ 2 f fd ["thing","least","most"] (fU K):=by
 refine F.ok qK (fun vs H Q E h=>?_) (fun dL A outer s H vs Q E hr h=>?_)
 .obtain⟨x,o,lo,hi,rfl,_⟩:=h;rfl
 .obtain⟨x,o,lo,hi,rfl,wh,k⟩:=h;refine⟨_,al (aF (fc (aD W hr aQ (aa (pv 0) ag)) (fX (vJ zN zN (pv 1) (pv 0) (pv 2))))),?_⟩;refine⟨_,rfl,x,o,rfl,wh,?_⟩;cases wh with
  |no h=>exact⟨false,rfl,k⟩
  |int i=>
   refine⟨true,rfl,_,rfl,_,rfl,_,_,rfl,rfl,_,rfl,?_⟩;show if decide (lo<=i)=true then _ else _
   have k':Q (.bl (decide (lo<=i)&&decide (i<=hi))) H:=k;by_cases h:lo<=i
   .rw[bJ h] at k' |-;exact⟨_,rfl,_,_,rfl,rfl,k'⟩
   .rw[cE h] at k' |-;exact k'
def o8(K:PySem.W.Frag):Sp:=fun vs H Q _=>∃x o n,vs=[.int n,x]/\Wh K H x o/\Q (.bl (ie o 0 (n-1))) H
theorem GZ:aG ["many","thing"] ["many","thing"] (am y3):=⟨rfl,rfl,rfl,by decide +kernel,rfl,by decide +kernel,by decide +kernel⟩
theorem DQ(F:fQ K "is_house" "is_house" y3 f fd)(W:b_ P w K mg base aZ 2 "is_whole_within" ["thing","least","most"] (fU K)):br P w K mg base aZ 3 f fd ["many","thing"] (o8 K):=by
 refine F.ok GZ (fun vs H Q E h=>?_) (fun dL A outer s H vs Q E hr h=>?_)
 .obtain⟨x,o,n,rfl,_⟩:=h;rfl
 .obtain⟨x,o,n,rfl,wh,k⟩:=h;refine⟨_,al (aF (aD W hr aQ (aa (pv 1) (aa aq (aa (bo nt (pv 0) aq) ag))))),?_⟩;exact⟨_,rfl,_,rfl,_,_,rfl,rfl,x,o,0,n-1,rfl,wh,k⟩
inductive Rw (K:PySem.W.Frag) (H:Hp):V->Option (List V)->Prop where
 |tup {p:Addr} {xs:List V} (h:H p=some (.tup xs)):Rw K H (.ref p) (some xs)
 |no {x:V} {t:Value} (ty:Ow K H x t) (h:PySem.W.kitOne K t (.type "tuple")=some false):Rw K H x none
def O9(o:Option (List V))(m:Int):Bool:=match o with
 |some xs=>decide ((xs.length:Int)=m)
 |none=>false
theorem G0:PySem.W.kitOne K (.type "tuple") (.type "tuple")=some true:=by kernel_rfl
def DR(K:PySem.W.Frag):Sp:=fun vs H Q _=>∃x o m,vs=[x,.int m]/\Rw K H x o/\Q (.bl (O9 o m)) H
theorem O_:aG ["thing","length"] ["thing","length"] (am Lb):=⟨rfl,rfl,rfl,by decide +kernel,rfl,by decide +kernel,by decide +kernel⟩
theorem Lc(F:fQ K "is_row" "is_row" Lb f fd)(B:Bl mg):br P w K mg base aZ 1 f fd ["thing","length"] (DR K):=by
 refine F.ok O_ (fun vs H Q E h=>?_) (fun dL A outer s H vs Q E hr h=>?_)
 .obtain⟨x,o,m,rfl,_⟩:=h;rfl
 .obtain⟨x,o,m,rfl,W,k⟩:=h;refine⟨_,al (aF (fc (aA eQ (by rfl) B.DO kG (aa (pv 0) (aa (fE (v:=.ty "tuple") rfl B.tup pE rfl) ag)))
   (fX (cY eO (aA aH (by rfl) B.len cG (aa (pv 0) ag)) (pv 1) (aM _))))),?_⟩
  cases W with
  |@tup p xs h=>
   refine⟨_,rfl,_,_,_,.type "tuple",true,rfl,⟨rfl,G0⟩,.of (.tup h),true,rfl,?_⟩;refine⟨_,rfl,_,_,rfl,.inr (cx.of h),_,rfl,rfl,?_⟩;have e:decide (V.int ((xs.length:Nat):Int)=V.int m)=decide (((xs.length:Nat):Int)=m):=by simp
   rw[e];exact k
  |no ty h=>exact⟨_,rfl,_,_,_,_,false,rfl,⟨rfl,h⟩,ty,false,rfl,k⟩
end
theorem bD(s:aE H H')(hD:H D=none):aE H (upd H' D o):=fun b u e=>by rw[ak (ai e hD)];exact s b u e
abbrev IV(ns:List Int):List V:=ns.map V.int
abbrev NV(ns:List Nat):List V:=ns.map fun (x:Nat)=>V.int (x:Int)
abbrev Zs:=List (Addr×(Int×Int))
abbrev FE(u:Int×Int):HO:=.tup [.int u.1,.int u.2]
def zr(zs:Zs):List V:=zs.map fun z=>V.ref z.1
def zp(zs:Zs):List (Int×Int):=zs.map (·.2)
def PO(H:Hp)(zs:Zs):Prop:=∀z∈zs,H z.1=some (FE z.2)
theorem iA:zr (a++b)=zr a++zr b:=cD
theorem iB:zp (a++b)=zp a++zp b:=cD
theorem iZ:(zr a).length=a.length:=aO _
theorem dO:(zp a).length=a.length:=aO _
theorem uX:zr a=(a.map (·.1)).map V.ref:=by unfold zr;rw[fL];rfl
theorem y4{zs:Zs}{i:Nat}{x:V}(h:(zr zs)[i]?=some x):∃z,zs[i]?=some z/\x=.ref z.1:=by
 unfold zr at h;rw[bn] at h;cases e:zs[i]? with
 |none=>rw[e] at h;cases h
 |some z=>rw[e] at h;exact⟨z,rfl,(bR h).symm⟩
theorem PO.nil:PO H []:=fun z hz=>(nomatch hz)
theorem PO.same(h:PO H zs)(s:aE H H'):PO H' zs:=fun z hz=>s _ _ (h z hz)
theorem PO.putL(h:PO H zs)(e:H D=some (.lst xs)):PO (upd H D o) zs:=fun z hz=>by
 have:=h z hz;rw[ak (by rintro rfl;rw[e] at this;cases this)];exact this
theorem PO.putN(h:PO H zs)(e:H D=none):PO (upd H D o) zs:=h.same (aj e)
theorem PO.append(h:PO H a)(h':PO H b):PO H (a++b):=fun z hz=>(bp.mp hz).elim (h z) (h' z)
theorem PO.one(h:H p=some (FE u)):PO H [(p,u)]:=fun z hz=>by rw[bS.mp hz];exact h
theorem DS{zs:Zs}{i:Nat}(h:i<zs.length):(zs.map (·.1)).getD i 0=zs[i].1:=by
 rw[bO,bn,cm h];rfl
theorem G4(h:i<zs.length):(zp zs).getD i (0,0)=zs[i].2:=by
 unfold zp;rw[bO,bn,cm h];rfl
theorem BV{H:Hp}{zs:Zs}(ho:PO H zs):∃g:Addr->Int×Int,(∀z∈zs,g z.1=z.2)/\∀ {as:List Addr},as.Perm (zs.map (·.1))->∃lR:Zs,lR.Perm zs/\as=lR.map (·.1):=by
 classical
 let f:Addr->Int×Int:=fun a=>match H a with
  |some (.tup [.int x,.int y])=>(x,y)
  |_=>(0,0)
 have e2:∀z∈zs,f z.1=z.2:=fun z hz=>by
  show (match H z.1 with|some (.tup [.int x,.int y])=>(x,y)|_=>(0,0))=z.2;rw[ho z hz]
 have e:(zs.map (·.1)).map (fun a=>(a,f a))=zs:=by
  rw[fL];conv=>rhs;rw[<-jB zs]
  refine i9 fun z hz=>?_;show (z.1,f z.1)=z;rw[e2 z hz]
 refine⟨f,e2,fun {as} h=>⟨as.map fun a=>(a,f a),?_,?_⟩⟩
 .have:=h.map (fun a=>(a,f a));rw[e] at this;exact this
 .rw[fL];exact(jB as).symm
abbrev uY(us:List (Int×Int)):Prop:=us.Pairwise fun u v=>pk u<=pk v
theorem uZ{K:PySem.W.Frag}{H:Hp}{l:Addr}{zs:Zs}{Q:VK}(hl:H l=some (.lst (zr zs)))(ho:PO H zs)(hz:zs.length<=4096)(hb:∀u∈zp zs,0<=u.2/\u.2<64)(q:∀ (D:Addr) (lR:Zs),H D=none->lR.Perm zs->uY (zp lR)->Q (.ref D) (upd H D (.lst (zr lR)))):DM K [.ref l] H Q:=by
 obtain⟨g,hg,UN⟩:=BV ho;refine⟨l,zs.map (·.1),g,rfl,aU.of (by rw[<-uX];exact hl),fun a ha=>?_,by rw[aO];exact hz,fun D mQ hD hp so=>?_⟩
 .obtain⟨z,hz,rfl⟩:=bP.mp ha;rw[hg z hz];exact⟨cx.of (ho z hz),hb _ (bP.mpr ⟨z,hz,rfl⟩)⟩
 .obtain⟨lR,h1,rfl⟩:=UN hp;rw[<-uX];refine q D lR hD h1 ?_;unfold zp uY;rw[ip] at so |-;refine so.imp_of_mem fun {a b} ha hb h=>?_;rw[hg a (h1.mem_iff.mp ha),hg b (h1.mem_iff.mp hb)] at h;exact h
theorem DT{K:PySem.W.Frag}{a D:Addr}{FF:Zs}{g:TG}{tt:TT}{te:TE}{fin:Hp->Prop}{σB:St}{H0:Hp}(F:Int×Int->Int×Int)(dt:St->Prop)(ha:H0 a=some (.lst (zr FF)))(XX:PO H0 FF)(hD:H0 D=none)(hn:FF.length<=100000)(h0:dt σB)(hs:∀z σ H (R:V->St->Hp->Prop) (Kf:St->Hp->Prop),z∈FF->dt σ->H z.1=some (FE z.2)->(∀σ2 p,dt σ2->H p=none->R (.ref p) σ2 (upd H p (FE (F z.2))))->g (.ref z.1) σ H fun σ2 H2=>tt σ2 H2 fun b H3=>if b=true then te σ2 H3 fun v H4=>R v σ2 H4 else Kf σ2 H3)(hd:∀zs H,aE H0 H->H D=some (.lst (zr zs))->PO H zs->zp zs=(zp FF).map F->(∀z∈zs,H0 z.1=none)->fin H):gZ (CP K a) g tt te D fin σB (upd H0 D (.lst [])):=by
 refine eX (xs:=zr FF) (fun i ys σ H=>dt σ/\aE H0 H/\H D=some (.lst ys)/\∃zs:Zs,ys=zr zs/\PO H zs/\zp zs=((zp FF).take i).map F/\∀z∈zs,H0 z.1=none) ⟨h0,aj hD,af,[],rfl,PO.nil,rfl,fun z hz=>nomatch hz⟩ (fun i ys σ H _ z=>aU.of (z.2.1 _ _ ha)) ?_ ?_
 .rintro i x ys σ H Kt Kf hx ⟨sh,sm,nN,zs,rfl,po,ep,fr⟩ kt kf;obtain⟨z,hz,rfl⟩:=y4 hx;have hi:i<FF.length:=(cK.mp hz).1;have Ju:z∈FF:=dP hz;have hl:zs.length=i:=by rw[<-dO,ep,aO,jc,dO];lia
  refine hs z σ H Kt Kf Ju sh (sm _ _ (XX z Ju)) (fun σ2 p BW hp=>?_)
  .have nD:D≠p:=ai nN hp;refine kt _ _ _ (by rw[ak nD];exact nN) (by rw[iZ,hl];exact bV hi (bB hn (by decide))) ⟨BW,bD (sm.trans (aj hp)) hD,af,zs++[(p,F z.2)],?_,?_,?_,?_⟩
   .rw[iA];rfl
   .refine PO.putL (xs:=zr zs) ?_ (by rw[ak nD];exact nN);exact(po.putN hp).append (PO.one af)
   .have e2:(zp FF)[i]?=some z.2:=by unfold zp;rw[bn,hz];rfl
    rw[iB,ep,io,e2,Option.toList_some,cD];rfl
   .intro z hz;rcases bp.mp hz with z'|z'
    .exact fr z z'
    .rw[bS.mp z'];exact sm.free hp
 .rintro ys σ H ⟨_,sm,nN,zs,rfl,po,ep,fr⟩;rw[iZ,<-dO,gy] at ep;exact hd zs H sm nN po ep fr
open rF
abbrev At:Stmt:=oX (gw 29) 0
abbrev wH:Stmt:=oX (gw 29) 4
abbrev DU:Stmt:=oX (gw 29) 6
abbrev y6:Stmt:=oX (gw 29) 8
theorem n12:¬ (("house_count":Str)="tie_list"):=by decide +kernel
theorem n13:¬ (("house_count":Str)="out_lists"):=by decide +kernel
theorem n14:¬ (("house_count":Str)="distances"):=by decide +kernel
theorem n34:¬ (("out_lists":Str)="distances"):=by decide +kernel
def oN(n:Int)(tl ol ds:Addr):List (Str×V):=dC "distances" (.ref ds) (dC "out_lists" (.ref ol) (dC "tie_list" (.ref tl) (dC "house_count" (.int n) [])))
theorem G5(n:Int)(tl ol ds:Addr):(oN n tl ol ds).lookup ("house_count":Str)=some (.int n):=by
 unfold oN;rw[bg,ap n14,bg,ap n13,bg,ap n12,bg,ao rfl]
theorem u0(n:Int)(tl ol ds:Addr){m:Str}(h1:¬ m="house_count")(h2:¬ m="tie_list")(h3:¬ m="out_lists")(h4:¬ m="distances"):(oN n tl ol ds).lookup m=none:=by
 unfold oN;rw[bg,ap h4,bg,ap h3,bg,ap h2,bg,ap h1];all_goals rfl
theorem G6(n:Int)(tl ol ds:Addr):(oN n tl ol ds).lookup ("out_lists":Str)=some (.ref ol):=by
 unfold oN;rw[bg,ap n34,bg,ao rfl]
theorem Au(n:Int)(tl ol ds:Addr):(oN n tl ol ds).lookup ("distances":Str)=some (.ref ds):=by
 unfold oN;rw[bg,ao rfl]
def ig(H:Hp)(L:Addr->Prop)(l:Addr)(n:Nat)(r:Nat->List Nat):Prop:=∃bs:List Addr,H l=some (.lst (bs.map V.ref))/\(∀b∈bs,L b)/\Holds H bs n (fun h=>.lst (NV (r h)))
theorem ig.keep(R:ig H L l n r)(hl:L l)(k:∀b o,L b->H b=some o->H' b=some o):ig H' L l n r:=
 let ⟨bs,a,b,c⟩:=R
 ⟨bs,k _ _ hl a,b,c.mono fun j hj e=>k _ _ (b _ (by rw[bO,cm (by rw[c.1];exact hj)];exact jd _)) e⟩
theorem ig.row(R:ig H L l n r)(hh:h<n):∃ (bs:List Addr) (b:Addr),H l=some (.lst (bs.map V.ref))/\(bs.map V.ref)[h]?=some (V.ref b)/\H b=some (.lst (NV (r h)))/\L b:=by
 obtain⟨bs,a,b,c⟩:=R;have hl:h<bs.length:=by rw[c.1];exact hh
 refine⟨bs,bs[h],a,by rw[bn,cm hl];rfl,?_,b _ (jd _)⟩;have:=c.2 h hh;rw[bO,cm hl] at this;exact this
def G7(H:Hp)(L:Addr->Prop)(tl:Addr)(ts:Ts):Prop:=L tl/\∃zs:Zs,H tl=some (.lst (zr zs))/\PO H zs/\(∀z∈zs,L z.1)/\(zp zs).Perm ts/\uY (zp zs)
theorem G7.keep(h:G7 H L tl ts)(k:∀b o,L b->H b=some o->H' b=some o):G7 H' L tl ts:=
 let ⟨a,zs,b,c,d,e⟩:=h;⟨a,zs,k _ _ a b,fun z hz=>k _ _ (d z hz) (c z hz),d,e⟩
structure cS(C:Addr)(H:Hp)(L:Addr->Prop)(p:Addr)(n:Nat)(ts:Ts):Prop where
 i6:eG n ts
 ob:∃dx tl ol ds,H p=some (.ins C dx (oN n tl ol ds))/\L ol/\L ds/\ig H L ol n (eY n ts)/\ig H L ds n (fun h=>(List.range n).map (far ts h))/\G7 H L tl ts
theorem cS.keep(N:cS C H L p n ts)(k:∀b o,L b->H b=some o->H' b=some o)(kp:∀o,H p=some o->H' p=some o):cS C H' L p n ts:=
 let ⟨dx,tl,ol,ds,a,l1,l2,b,c,d⟩:=N.ob
 ⟨N.i6,dx,tl,ol,ds,kp _ a,l1,l2,b.keep l1 k,c.keep l2 k,d.keep k⟩
theorem cS.same(N:cS C H L p n ts)(s:aE H H'):cS C H' L p n ts:=N.keep (fun b o _ e=>s b o e) (fun o e=>s _ o e)
structure NT(K:PySem.W.Frag)(mg:Str->Option Value)(C:Addr):Prop where
 cl:Fx K C
 nH:h_ K C "house_count"
 nT:h_ K C "tie_list"
 nO:h_ K C "out_lists"
 nD:h_ K C "distances"
 mgC:mg "Net"=some (.ref C)
structure mC(P:Program)(w:World)(K:PySem.W.Frag)(mg:Str->Option Value)(base:Heap)(CX:vK)(k:Nat)(C:Addr)(x:Str)(ps:List Str)(sp:Sp):Prop where
 ex:∃f fd,Kn K C x f/\jI K fd ps []/\br P w K mg base CX k f fd ps sp
section
variable {P:Program} {w:World} {K:PySem.W.Frag} {mg:Str->Option Value} {base:Heap}
theorem G8:aG ["self","thing"] ["self","thing"] (am y6):=⟨rfl,rfl,rfl,by decide +kernel,rfl,by decide +kernel,by decide +kernel⟩
theorem sK{i n:Nat}(h:i<n):ie (some (i:Int)) 0 ((n:Int)-1)=true:=by unfold ie;simp;lia
def qL(C:Addr):Sp:=fun vs H Q _=>∃ (L:Addr->Prop) (p:Addr) (n:Nat) (ts:Ts) (i:Nat),vs=[.ref p,.int i]/\cS C H L p n ts/\i<n/\Q .bH H
theorem BX{f C:Addr}{fd:FuncData}(F:fQ K "check_house" "Net.check_house" y6 f fd)(T:NT K mg C)(HH:b_ P w K mg base aZ 3 "is_house" ["many","thing"] (o8 K)):
  br P w K mg base aZ 4 f fd ["self","thing"] (qL C):=by
 refine F.ok G8 (fun vs H Q E h=>?_) (fun dL A outer s H vs Q E hr h=>?_)
 .obtain⟨L,p,n,ts,i,rfl,_⟩:=h;rfl
 .obtain⟨L,p,n,ts,i,rfl,N,hi,k⟩:=h;obtain⟨dx,tl,ol,ds,h1,_⟩:=N.ob;refine⟨_,al (bx (dU (dA (aD HH hr aQ (aa (nw (pv 0) rfl) (aa (pv 1) ag))))) dJ aR),?_⟩;refine⟨_,rfl,p,C,dx,_,_,rfl,h1,T.cl,T.nH,G5 _ _ _ _,_,rfl,_,some (i:Int),n,rfl,.int _,_,rfl,?_⟩;rw[sK hi];exact lJ k
theorem Pa(n:Int)(tl ol ds:Addr):(oN n tl ol ds).lookup ("check_house":Str)=none:=u0 n tl ol ds (by decide +kernel) (by decide +kernel) (by decide +kernel) (by decide +kernel)
theorem BY(n:Int)(tl ol ds:Addr):(oN n tl ol ds).lookup ("far":Str)=none:=u0 n tl ol ds (by decide +kernel) (by decide +kernel) (by decide +kernel) (by decide +kernel)
theorem qM:(NV xs).length=xs.length:=aO _
theorem oA:aG ["self","one","other"] ["self","one","other"] (am wH):=⟨rfl,rfl,rfl,by decide +kernel,rfl,by decide +kernel,by decide +kernel⟩
def nQ(C:Addr):Sp:=fun vs H Q _=>∃ (L:Addr->Prop) (p:Addr) (n:Nat) (ts:Ts) (i j:Nat),vs=[.ref p,.int i,.int j]/\cS C H L p n ts/\i<n/\j<n/\Q (.int (far ts i j:Nat)) H
theorem G9(F:fQ K "far" "Net.far" wH f fd)(T:NT K mg C)(M:mC P w K mg base aZ 4 C "check_house" ["self","thing"] (qL C)):
  br P w K mg base aZ 5 f fd ["self","one","other"] (nQ C):=by
 obtain⟨fM,fdM,mM,bM,GM⟩:=M.ex;refine F.ok oA (fun vs H Q E h=>?_) (fun dL A outer s H vs Q E hr h=>?_)
 .obtain⟨L,p,n,ts,i,j,rfl,_⟩:=h;rfl
 .obtain⟨L,p,n,ts,i,j,rfl,N,hi,hj,k⟩:=h;obtain⟨dx,tl,ol,ds,h1,_,_,_,R,_⟩:=N.ob;refine⟨_,ah (cP (iR (pv 0) T.cl mM GM hr bM .nil aQ (aa (pv 1) ag)))
   (ah (cP (iR (pv 0) T.cl mM GM hr bM .nil aQ (aa (pv 2) ag)))
   (al (aF (au az (au az (nw (pv 0) rfl) (pv 1) (fun _ _=>rfl)) (pv 2) (fun _ _=>rfl))))),?_⟩
  refine⟨_,rfl,p,dx,_,rfl,h1,Pa _ _ _ _,_,rfl,L,p,n,ts,i,rfl,N,hi,?_⟩;refine⟨_,rfl,p,dx,_,rfl,h1,Pa _ _ _ _,_,rfl,L,p,n,ts,j,rfl,N,hj,?_⟩;obtain⟨bs,b,r1,r2,r3,_⟩:=R.row hi;have hg:(NV ((List.range n).map (far ts i)))[j]?=some (.int (far ts i j:Nat)):=by
   rw[bn,bn,k9 hj];rfl
  exact⟨_,rfl,p,C,dx,_,_,rfl,h1,T.cl,T.nD,Au _ _ _ _,_,rfl,ds,_,_,_,rfl,rfl,aU.of r1,bf r2,_,rfl,b,_,_,_,rfl,rfl,aU.of r3,bf hg,k⟩
end
open PySem L2 rF
abbrev y7:Stmt:=gw 30
abbrev Ld:Stmt:=gw 31
abbrev Le:Stmt:=gw 32
section
variable {P:Program} {w:World} {K:PySem.W.Frag} {mg:Str->Option Value} {base:Heap}
abbrev Lf:Stmt:=gw 11
theorem Pc:aG ["many","one","other"] ["many","one","other"] (am Lf):=⟨rfl,rfl,rfl,by decide +kernel,rfl,by decide +kernel,by decide +kernel⟩
def DV:Sp:=fun vs H Q _=>∃ (n a b:Int),vs=[.int n,.int a,.int b]/\0<=a/\a<n/\0<=b/\b<n/\a≠b/\Q (.bl true) H
theorem Lg(F:fQ K "are_unlike_houses" "are_unlike_houses" Lf f fd)(HH:b_ P w K mg base aZ 3 "is_house" ["many","thing"] (o8 K)):
  br P w K mg base aZ 4 f fd ["many","one","other"] DV:=by
 refine F.ok Pc (fun vs H Q E h=>?_) (fun dL A outer s H vs Q E hr h=>?_)
 .obtain⟨n,a,b,rfl,_⟩:=h;rfl
 .obtain⟨n,a,b,rfl,a1,a2,b1,b2,jn,k⟩:=h;refine⟨_,al (aF (fc (aD HH hr aQ (aa (pv 0) (aa (pv 1) ag))) (fc (aD HH hr aQ (aa (pv 0) (aa (pv 2) ag))) (fX (cY rV (pv 1) (pv 2) (aM _)))))),?_⟩;refine⟨_,rfl,_,rfl,_,_,n,rfl,.int a,_,rfl,?_⟩;rw[ao (show ie (some a) 0 (n-1)=true by unfold ie;simp;lia)];refine⟨_,rfl,_,rfl,_,_,n,rfl,.int b,_,rfl,?_⟩;rw[ao (show ie (some b) 0 (n-1)=true by unfold ie;simp;lia)];refine⟨_,rfl,_,rfl,rfl,?_⟩;have e:(!decide (V.int a=V.int b))=true:=by simp[jn]
  rw[e];exact k
theorem Pd:aG ["many","thing"] ["many","thing"] (am Ld):=⟨rfl,rfl,rfl,by decide +kernel,rfl,by decide +kernel,by decide +kernel⟩
def DW:Sp:=fun vs H Q _=>∃ (n:Int) (p:Addr) (a b:Int),vs=[.int n,.ref p]/\H p=some (.tup [.int a,.int b])/\0<=a/\a<n/\0<=b/\b<n/\a≠b/\Q (.bl true) H
theorem Li(F:fQ K "is_tie" "is_tie" Ld f fd)(R:b_ P w K mg base aZ 1 "is_row" ["thing","length"] (DR K))(U:b_ P w K mg base aZ 4 "are_unlike_houses" ["many","one","other"] DV):
  br P w K mg base aZ 5 f fd ["many","thing"] DW:=by
 refine F.ok Pd (fun vs H Q E h=>?_) (fun dL A outer s H vs Q E hr h=>?_)
 .obtain⟨n,p,a,b,rfl,_⟩:=h;rfl
 .obtain⟨n,p,a,b,rfl,hp,a1,a2,b1,b2,jn,k⟩:=h;refine⟨_,al (aF (fc (aD R (hr.mono (by decide)) aQ (aa (pv 1) (aa aq ag)))
   (fX (aD U hr aQ (aa (pv 0) (aa (au aV (pv 1) aq (fun _ _=>rfl)) (aa (au aV (pv 1) aq (fun _ _=>rfl)) ag))))))),?_⟩
  refine⟨_,rfl,_,_,_,rfl,.tup hp,true,rfl,?_⟩;exact⟨_,rfl,_,rfl,p,_,_,_,rfl,rfl,cx.of hp,bf (j:=0) rfl,_,rfl,p,_,_,_,rfl,rfl,cx.of hp,bf (j:=1) rfl,n,a,b,rfl,a1,a2,b1,b2,jn,k⟩
theorem Av:aG ["many","ties","tie"] ["many","ties"] (am y7):=⟨rfl,rfl,rfl,by decide +kernel,rfl,by decide +kernel,by decide +kernel⟩
theorem DX:PySem.W.kitOne K (.type "list") (.type "list")=some true:=by kernel_rfl
structure fk(H:Hp)(l:Addr)(n:Nat)(zs:Zs):Prop where
 i6:eG n (zp zs)
 at_:H l=some (.lst (zr zs))
 po:PO H zs
theorem fk.same(h:fk H l n zs)(s:aE H H'):fk H' l n zs:=⟨h.i6,s _ _ h.at_,h.po.same s⟩
def kd:Sp:=fun vs H Q _=>∃ (n:Nat) (l:Addr) (zs:Zs),vs=[.int n,.ref l]/\fk H l n zs/\∀H',aE H H'->Q .bH H'
theorem DY(F:fQ K "check_ties" "check_ties" y7 f fd)(B:Bl mg)(gF:∃t,mg "FEWEST_HOUSES"=some (.int 2 t))(gM:∃t,mg "MOST_HOUSES"=some (.int 32 t))(W:b_ P w K mg base aZ 2 "is_whole_within" ["thing","least","most"] (fU K))(T:b_ P w K mg base aZ 5 "is_tie" ["many","thing"] DW):
  br P w K mg base aZ 6 f fd ["many","ties"] kd:=by
 obtain⟨tF,gF⟩:=gF;obtain⟨tM,gM⟩:=gM;refine F.ok Av (fun vs H Q E h=>?_) (fun dL A outer s H vs Q E hr h=>?_)
 .obtain⟨n,l,zs,rfl,_⟩:=h;rfl
 .refine⟨_,ah (bx (dU (dA (aD W (hr.mono (by decide)) aQ (aa (pv 0) (aa (ue (v:=.int 2) rfl gF ⟨_,rfl⟩) (aa (ue (v:=.int 32) rfl gM ⟨_,rfl⟩) ag)))))) dJ aR)
   (ah (bx (dU (dA (aA eQ (by rfl) B.DO kG (aa (pv 1) (aa (fE (v:=.ty "list") rfl B.lst tu rfl) ag))))) dJ aR)
   (ah (dM eM rfl (cf (pv 1)) (aB (i:=2) Av.nd rfl (Or.inl rfl)) (al (bx (dU (dA (aD T hr aQ (aa (pv 0) (aa (pv 2) ag))))) dJ aR)))
   (al (bx (aN rV (aA wd (by rfl) B.len cG (aa (dg (Bu rfl (by have:=hr.un;show (A.deeper _).units+8<_;lia)) (by rfl) B.set PyProof.Rows.boot_set (aa (pv 1) ag)) ag)) (aA aH (by rfl) B.len cG (aa (pv 1) ag)) (aM _)) dJ aR)))),?_⟩
  obtain⟨n,l,zs,rfl,tt,k⟩:=h;obtain⟨fi,hl,po⟩:=id tt;have n1:=fi.n1;have n2:=fi.n2;refine⟨_,rfl,_,_,2,32,rfl,.int n,_,rfl,?_⟩;rw[show ie (some (n:Int)) 2 32=true by unfold ie;simp;lia];refine lJ ?_;refine⟨_,rfl,_,_,_,.type "list",true,rfl,⟨rfl,DX⟩,.of (.lst hl),_,rfl,lJ ?_⟩;refine⟨_,rfl,l,rfl,⟨_,aU.of hl⟩,jG (K:=K) (a:=l) (xs:=zr zs) (fun i σ H2=>H2=H/\∃v,σ=[some (.int n),some (.ref l),v]) ⟨rfl,none,rfl⟩ (fun i σ H2 _ ⟨e,_⟩=>by rw[e];exact aU.of hl) ?_ ?_⟩
  .rintro i x σ H2 hx ⟨rfl,v,rfl⟩;obtain⟨z,hz,rfl⟩:=y4 hx;have Ju:z∈zs:=dP hz;have XY:z.2∈zp zs:=bP.mpr ⟨z,Ju,rfl⟩;have r:=fi.rg _ XY;exact⟨_,rfl,_,rfl,n,_,_,_,rfl,po z Ju,r.1.1,r.1.2,r.2.1,r.2.2,fi.ne _ XY,_,rfl,lJ ⟨rfl,_,rfl⟩⟩
  .rintro σ H2 ⟨rfl,v,rfl⟩;have dY:(zp zs).length<=256:=fi.len;refine⟨_,rfl,l,zs.map (·.1),zp zs,rfl,aU.of (by rw[<-uX];exact hl),by rw[aO,dO],fun i hi=>?_,fi.nd,fun y hy=>?_,by lia,fun D hD=>?_⟩
   .rw[dO] at hi;rw[DS hi,G4 hi];exact cx.of (po _ (jd hi))
   .have r:=fi.rg _ hy;lia
   .have nl:l≠D:=ai hl hD;refine⟨D,_,rfl,af,by lia,_,rfl,l,zr zs,rfl,.inl (aU.of (by rw[ak nl];exact hl)),rfl,_,rfl,?_⟩;have ez:(!decide (V.int (((zp zs).length:Nat):Int)=V.int (((zr zs).length:Nat):Int)))=false:=by rw[dO,iZ];simp
    rw[ez];exact lJ (k _ (aj hD))
end
abbrev wI:Stmt:=gw 33
section
variable {P:Program} {w:World} {K:PySem.W.Frag} {mg:Str->Option Value} {base:Heap}
theorem nR(S:St->Prop)(p q:Int×Int->Int)(h:Int)(hD:H D=none)(hl:H l=some (.lst (zr zs)))(po:PO H zs)(hn:zs.length<=1000)(s0:S σB)(hg:∀z σ H2 (Kt:V->St->Hp->Prop) (Kf:St->Hp->Prop),z∈zs->S σ->H2 z.1=some (FE z.2)->(∀σ2,S σ2->p z.2=h->Kt (.int (q z.2)) σ2 H2)->(∀σ2,S σ2->p z.2≠h->Kf σ2 H2)->
   g (.ref z.1) σ H2 fun σ2 H2=>tt σ2 H2 fun b H3=>if b=true then te σ2 H3 fun v H4=>Kt v σ2 H4 else Kf σ2 H3)(hd:fin (upd H D (.lst (IV (((zp zs).filter fun y=>decide (p y=h)).map q))))):gZ (CP K l) g tt te D fin σB (upd H D (.lst [])):=by
 have nl:l≠D:=ai hl hD;have tk:∀ {i:Nat} {z:Addr×(Int×Int)},zs[i]?=some z->(zp zs).take (i+1)=(zp zs).take i++[z.2]:=fun {i z} hz=>by
  rw[io,show (zp zs)[i]?=some z.2 by unfold zp;rw[bn,hz];rfl];rfl
 refine eX (xs:=zr zs) (fun i ys σ H2=>S σ/\ys=IV ((((zp zs).take i).filter fun y=>decide (p y=h)).map q)/\H2=upd H D (.lst ys)) ⟨s0,by simp,rfl⟩ (fun i ys σ H2 _ ⟨_,_,e⟩=>by rw[e];exact aU.of (by rw[ak nl];exact hl)) ?_ ?_
 .rintro i x ys σ H2 Kt Kf hx ⟨hS,ey,rfl⟩ kt kf;obtain⟨z,hz,rfl⟩:=y4 hx;have Ju:z∈zs:=dP hz;have hp:=po z Ju;have na:z.1≠D:=ai hp hD;have hi:i<zs.length:=(cK.mp hz).1;refine hg z σ _ Kt Kf Ju hS (by rw[ak na];exact hp) (fun σ2 s2 e=>?_) (fun σ2 s2 e=>?_)
  .refine kt _ _ _ af ?_ ⟨s2,?_,?_⟩
   .rw[ey,aO,aO];exact gg (n5 _ _) (gg (xM _ _) (bV (show i<1000 by lia) (by decide)))
   .rw[ey,tk hz,jq,cD];have:decide (p z.2=h)=true:=by simp[e]
    simp[jt,this]
   .rw[gY]
  .refine kf _ _ ⟨s2,?_,rfl⟩;have:decide (p z.2=h)=false:=by simp[e]
   rw[ey,tk hz,jq];simp[jt,this]
 .rintro ys σ H2 ⟨_,ey,rfl⟩;rw[iZ,<-dO,gy] at ey;rw[ey];exact hd
theorem Nj:(["one","other","house"]:List Str).Nodup:=by decide +kernel
theorem Aw:aG ["many","ties","house","leading_out","leading_in"] ["many","ties"] (am Le):=⟨rfl,rfl,rfl,by decide +kernel,rfl,by decide +kernel,by decide +kernel⟩
theorem Lj(F:fQ K "check_balance" "check_balance" Le f fd)(B:Bl mg)(gM:∃t,mg "MOST_TIES_OUT"=some (.int 8 t)):
  br P w K mg base aZ 1 f fd ["many","ties"] kd:=by
 obtain⟨tM,gM⟩:=gM;refine F.ok Aw (fun vs H Q E h=>?_) (fun dL A outer s H vs Q E hr h=>?_)
 .obtain⟨n,l,zs,rfl,_⟩:=h;rfl
 .obtain⟨n,l,zs,rfl,T,k⟩:=h;have fi:=T.i6;have n1:=fi.n1;have n2:=fi.n2;have dY:zs.length<=256:=by have:=fi.len;rw[dO] at this;exact this
  refine'⟨_,al (dM eM rfl (d_ rfl B.range (aa (pv 0) ag)) (aB (i:=2) Aw.nd rfl (Or.inr rfl))
   (ah (aP (i:=3) Aw.nd rfl (Or.inl rfl) (aA aH (by rfl) B.len cG (aa ?c1 ag)))
   (ah (aP (i:=4) Aw.nd rfl (Or.inl rfl) (aA aH (by rfl) B.len cG (aa ?c2 ag)))
   (ah (bx (aN rV (pv 3) (pv 4) (aM _)) dJ aR)
   (al (bx (aN zO (pv 3) (ue (v:=.int 8) rfl gM ⟨_,rfl⟩) (aM _)) dJ aR)))))),?_⟩
  case c1=>
   refine' cR (g:=ui K 2 (fP (bC 0) (fP (bC 1) uh))) (NB:=["one","other","house"]) (src:=[none,none,some 2]) (cg (by kernel_rfl)) rfl (cf (pv 1)) ?g ?t ?e;case g=>exact fun cl C s₃ H₃ fp=>fA (n:=2) rfl (a9 (aB (i:=0) Nj rfl (Or.inl rfl) (Or.inr rfl)) (a9 (aB (i:=1) Nj rfl (Or.inl rfl) (Or.inr rfl)) d9))
   case t=>exact fun cl C s₃ H₃ fp=>fg (aN eO (pv 0) (pv 2) (aM _))
   case e=>exact fun cl C s₃ H₃ fp=>pv 0
  case c2=>
   refine' cR (g:=ui K 2 (fP (bC 0) (fP (bC 1) uh))) (NB:=["one","other","house"]) (src:=[none,none,some 2]) (cg (by kernel_rfl)) rfl (cf (pv 1)) ?g ?t ?e;case g=>exact fun cl C s₃ H₃ fp=>fA (n:=2) rfl (a9 (aB (i:=0) Nj rfl (Or.inl rfl) (Or.inr rfl)) (a9 (aB (i:=1) Nj rfl (Or.inl rfl) (Or.inr rfl)) d9))
   case t=>exact fun cl C s₃ H₃ fp=>fg (aN eO (pv 1) (pv 2) (aM _))
   case e=>exact fun cl C s₃ H₃ fp=>pv 1
  refine⟨_,rfl,n,rfl,by lia,by lia,eW (n:=n) (lo:=0) (fun i σ H2=>aE H H2/\∃a b c,σ=[some (.int n),some (.ref l),a,b,c]) ⟨aE.refl _,none,none,none,rfl⟩ ?_ ?_⟩
  .rintro i σ H2 hi ⟨sm,a,b,c,rfl⟩;have T2:=T.same sm;refine⟨_,rfl,l,rfl,⟨_,aU.of T2.at_⟩,fun D hD=>nR (fun σ=>∃a b,σ=[a,b,some (.int (0+(i:Int)))]) (·.1) (·.1) (0+(i:Int)) hD T2.at_ T2.po (by lia) ⟨_,_,rfl⟩ ?_ ?_⟩
   .rintro z σ H3 Kt Kf hj ⟨x,y,rfl⟩ ha kt kf;refine⟨z.1,_,rfl,cx.of ha,rfl,_,_,rfl,_,_,rfl,rfl,?_⟩;refine⟨_,rfl,_,rfl,rfl,_,rfl,?_⟩;refine bL (fun e=>?_) (fun e=>?_)
    .exact⟨_,rfl,kt _ ⟨_,_,rfl⟩ (by simpa using e)⟩
    .exact kf _ ⟨_,_,rfl⟩ (by simpa using e)
   .refine⟨D,_,rfl,.inl (aU.of af),?_⟩;have Pf:=bD (o:=.lst (IV (((zp zs).filter fun y=>decide (y.1=0+(i:Int))).map (·.1)))) (sm.trans (aE.refl _)) (H:=H) (by cases z:H D with|none=>rfl|some o=>rw[sm _ _ z] at hD;cases hD);have T3:=T.same Pf;refine⟨_,rfl,l,rfl,⟨_,aU.of T3.at_⟩,fun D' DZ=>nR (fun σ=>∃a b,σ=[a,b,some (.int (0+(i:Int)))]) (·.2) (·.2) (0+(i:Int)) DZ T3.at_ T3.po (by lia) ⟨_,_,rfl⟩ ?_ ?_⟩
    .rintro z σ H3 Kt Kf hj ⟨x,y,rfl⟩ ha kt kf;refine⟨z.1,_,rfl,cx.of ha,rfl,_,_,rfl,_,_,rfl,rfl,?_⟩;refine⟨_,rfl,_,rfl,rfl,_,rfl,?_⟩;refine bL (fun e=>?_) (fun e=>?_)
     .exact⟨_,rfl,kt _ ⟨_,_,rfl⟩ (by simpa using e)⟩
     .exact kf _ ⟨_,_,rfl⟩ (by simpa using e)
    .refine⟨D',_,rfl,.inl (aU.of af),?_⟩;rw[lx] at *;have q1:(IV (((zp zs).filter fun y=>decide (y.1=(i:Int))).map (·.1))).length=(IV (((zp zs).filter fun y=>decide (y.2=(i:Int))).map (·.2))).length:=by
      rw[aO,aO,aO,aO];exact fi.Jt i
     have q2:(IV (((zp zs).filter fun y=>decide (y.1=(i:Int))).map (·.1))).length<=8:=by
      rw[aO,aO];exact fi.most i
     refine⟨_,rfl,_,rfl,rfl,_,rfl,?_⟩;rw[<-q1];rw[show (!decide (V.int (((IV (((zp zs).filter fun y=>decide (y.1=(i:Int))).map (·.1))).length:Nat):Int)=V.int (((IV (((zp zs).filter fun y=>decide (y.1=(i:Int))).map (·.1))).length:Nat):Int)))=false by simp];refine lJ ?_;refine⟨_,rfl,_,_,rfl,rfl,_,rfl,?_⟩;rw[show decide ((((IV (((zp zs).filter fun y=>decide (y.1=(i:Int))).map (·.1))).length:Nat):Int) > 8)=false by rw[decide_eq_false_iff_not];lia];exact lJ ⟨Pf.trans (aj DZ),_,_,_,rfl⟩
  .rintro σ H2 ⟨sm,a,b,c,rfl⟩;exact k H2 sm
end
def G_:Expr:=match (bT wI).getD 1 (.Pass ⟨0,0,0,0⟩) with
 |.Return (some (.Call _ _ (k::_) _)) _=>k.value
 |_=>.Name "x" ⟨0,0,0,0⟩
def Ha:Arguments:=match G_ with
 |.Lambda a _ _ _=>a
 |_=>{ posonlyargs:=[],args:=[],vararg:=none,kwonlyargs:=[],kw_defaults:=[],kwarg:=none,defaults:=[] }
def Hb:Expr:=match G_ with
 |.Lambda _ b _ _=>b
 |e=>e
def Pg:Scope:=match G_ with
 |.Lambda _ _ s _=>s
 |_=>{ kind:=.function,names:=[],isGenerator:=false,isCoroutine:=false }
def Lk:Pos:=match G_ with
 |.Lambda _ _ _ p=>p
 |_=>⟨0,0,0,0⟩
def Jv:Str:=("houses_out":Str)++".<locals>."++"<lambda>"
abbrev o9(Pt:Addr)(H:Hp):Prop:=jK Lk Jv Pt H
def cy(Pt:Addr)(H H':Hp):Prop:=∀b o,H b=some o->b≠Pt->H' b=some o
theorem cy.trans{Pt:Addr}{H H1 H2:Hp}(a:cy Pt H H1)(b:cy Pt H1 H2):cy Pt H H2:=fun c o h n=>b c o (a c o h n) n
theorem cy.of(a:aE H H'):cy Pt H H':=fun c o h _=>a c o h
theorem o9.not(t:o9 Pt H)(h:H b=some o)(n:∀ps,o≠.m6 ps):b≠Pt:=by
 rintro rfl;rcases t with z|⟨c,z,_⟩ <;> · rw[h] at z;exact n _ (bR z)
theorem o9.same(t:o9 Pt H)(e:aE H H'):o9 Pt H':=by
 rcases t with z|⟨c,z,y⟩
 .exact .inl (e _ _ z)
 .exact .inr ⟨c,e _ _ z,e _ _ y⟩
theorem He{n a b h:Int}(hn:0<n)(a0:0<=a)(a1:a<n)(b0:0<=b)(b1:b<n)(e:(a-h) % n=(b-h) % n):a=b:=by
 have h1:=Int.emod_emod_of_dvd (a-h) (Int.dvd_refl n);have q:(a-b) % n=0:=by
  have:a-b=(a-h)-(b-h):=by lia
  rw[this,Int.sub_emod,e,Int.sub_self,Int.zero_emod]
 obtain⟨c,hc⟩:=Int.dvd_of_emod_eq_zero q;have c0:c=0:=by
  rcases Int.lt_trichotomy c 0 with z|z|z
  .have:n*c<=n*(-1):=Cu (by lia) (by lia);lia
  .exact z
  .have:n*1<=n*c:=Cu (by lia) (by lia);lia
 rw[c0] at hc;lia
theorem rG{ts:Ts}{h:Int}(nd:ts.Nodup):((ts.filter fun y=>decide (y.1=h)).map (·.2)).Nodup:=by
 refine L2.nF (nd.filter _) fun x hx y hy e=>?_;have a:=(bX.mp hx).2;have b:=(bX.mp hy).2;simp at a b;exact Prod.ext (a.trans b.symm) e
theorem BZ{n:Nat}{ts:Ts}{h:Nat}(F:eG n ts)(hh:h<n){out:List Int}(ko:KM (h:Int) (n:Int) ((ts.filter fun y=>decide (y.1=(h:Int))).map (·.2)) out):out.map V.int=NV (eY n ts h):=by
 obtain⟨ps,hp,rfl,hs⟩:=ko;have By:(ps.map (·.2)).Perm ((ts.filter fun y=>decide (y.1=(h:Int))).map (·.2)):=by
  have:=hp.map (·.2);rw[fL] at this;refine this.trans (tX ?_);conv=>rhs;rw[<-jB ((ts.filter fun y=>decide (y.1=(h:Int))).map (·.2))]
  rfl
 have mem:∀z,z∈ps.map (·.2)↔((h:Int),z)∈ts:=fun z=>by
  rw[By.mem_iff,bP];constructor
  .rintro⟨y,hy,rfl⟩;obtain⟨y1,y2⟩:=bX.mp hy;have:y.1=(h:Int):=by simpa using y2
   rw[<-this];exact y1
  .intro hz;exact⟨_,bX.mpr ⟨hz,by simp⟩,rfl⟩
 have nd:(ps.map (·.2)).Nodup:=By.nodup_iff.mpr (rG F.nd);have key:∀q∈ps,q.1=(q.2-(h:Int)) % (n:Int):=fun q hq=>by
  obtain⟨z,_,e⟩:=bP.mp (hp.mem_iff.mp hq);rw[<-e]
 have hn:(0:Int)<n:=by have:=F.n1;lia
 have sorted:(ps.map (·.2)).Pairwise fun x y=>(x-(h:Int)) % (n:Int)<(y-(h:Int)) % (n:Int):=by
  refine ip.mpr ?_;have nd2:=ip.mp nd;refine(hs.and nd2).imp_of_mem fun {x y} hx hy Fz=>?_;have l1:=Fz.1;rw[key x hx,key y hy] at l1;have ax:=F.rg _ ((mem x.2).mp (bP.mpr ⟨x,hx,rfl⟩));have ay:=F.rg _ ((mem y.2).mp (bP.mpr ⟨y,hy,rfl⟩));have ne:(x.2-(h:Int)) % (n:Int)≠(y.2-(h:Int)) % (n:Int):=fun z=>Fz.2 (He hn ax.2.1 ax.2.2 ay.2.1 ay.2.2 z);lia
 have e:ps.map (·.2)=(eY n ts h).map fun (o:Nat)=>(o:Int):=by
  refine oz (k:=fun z=>(z-(h:Int)) % (n:Int)) sorted ?_ fun z=>?_
  .refine ip.mpr ?_;exact wG hh
  .rw[mem,bP];constructor
   .intro hz;have r:=F.rg _ hz;refine⟨z.toNat,(jO F hh).mpr ?_,by lia⟩;show (((h:Nat):Int),((z.toNat:Nat):Int))∈ts;rw[show ((z.toNat:Nat):Int)=z by lia];exact hz
   .rintro⟨o,ho,rfl⟩;exact(jO F hh).mp ho
 rw[e,fL];rfl
section
variable {P:Program} {w:World} {K:PySem.W.Frag} {mg:Str->Option Value} {base:Heap}
theorem D4:aG ["many","ties","house","others"] ["many","ties","house"] (am wI):=⟨rfl,rfl,rfl,by decide +kernel,rfl,by decide +kernel,by decide +kernel⟩
def u3(Pt:Addr):Sp:=fun vs H Q _=>∃ (n:Nat) (l:Addr) (h:Nat) (zs:Zs),vs=[.int n,.ref l,.int h]/\h<n/\fk H l n zs/\o9 Pt H/\
 ∀ (r:Addr) (H':Hp),o9 Pt H'->cy Pt H H'->H r=none->H' r=some (.lst (NV (eY n (zp zs) h)))->Q (.ref r) H'
theorem Hf(F:wg K "houses_out" "houses_out" wI f fd c)(B:Bl mg)(kb:K.In base)(hb:rD mg base)(hc:PySem.W.codeHdIn K c Pt=true):
  br P w K mg base aZ 1 f fd ["many","ties","house"] (u3 Pt):=by
 refine F.ok D4 (fun vs H Q E h=>?_) (fun A outer s H vs Q E hr h=>?_)
 .obtain⟨n,l,h,zs,rfl,_⟩:=h;rfl
 .obtain⟨n,l,h,zs,rfl,hh,T,tb,k⟩:=h;have fi:=T.i6;have n1:=fi.n1;have dY:zs.length<=256:=by have:=fi.len;rw[dO] at this;exact this
  have LS:OJ (uv aZ P w K mg base ["many","ties","house","others"] "houses_out" (am wI) f (.ref c) A outer s H E).I_ Jv Ha Hb Pg "other" "house" "many" 2 0:=
   ⟨⟨_,_,_,_,_,rfl⟩,fun _ _ _ _ _=>rfl,rfl,rfl,rfl,rfl,rfl,rfl,rfl,by decide +kernel,by decide +kernel,by decide +kernel,rfl,rfl,rfl,by decide,⟨by decide,by decide⟩,⟨by decide,by decide⟩⟩
  refine'⟨_,ah (gA (i:=3) (g:=ui K 2 (fP (bC 0) (fP (bC 1) uh))) (NB:=["one","other","house"]) (src:=[none,none,some 2]) (cg (by kernel_rfl)) rfl (cf (pv 1)) ?g ?t ?e D4.nd rfl rfl rfl)
   (al (aF (Bx (yQ LS hr) rfl B.sorted xy (aa (pv 3) ag) (F6 (Dq (NB:=["other","house","many"]) (src:=[none,some 2,some 0]) (Ac kb hb hc) (cg (by kernel_rfl))) Ks)))),?_⟩
  case g=>exact fun cl C s₃ H₃ fp=>fA (n:=2) rfl (a9 (aB (i:=0) Nj rfl (Or.inl rfl) (Or.inr rfl)) (a9 (aB (i:=1) Nj rfl (Or.inl rfl) (Or.inr rfl)) d9))
  case t=>exact fun cl C s₃ H₃ fp=>fg (aN eO (pv 0) (pv 2) (aM _))
  case e=>exact fun cl C s₃ H₃ fp=>pv 1
  refine⟨_,rfl,l,rfl,⟨_,aU.of T.at_⟩,fun D hD=>nR (fun σ=>∃a b,σ=[a,b,some (.int (h:Int))]) (·.1) (·.2) (h:Int) hD T.at_ T.po (by lia) ⟨_,_,rfl⟩ ?_ ?_⟩
  .rintro z σ H3 Kt Kf hj ⟨x,y,rfl⟩ ha kt kf;refine⟨z.1,_,rfl,cx.of ha,rfl,_,_,rfl,_,_,rfl,rfl,?_⟩;refine⟨_,rfl,_,rfl,rfl,_,rfl,?_⟩;refine bL (fun e=>?_) (fun e=>?_)
   .exact⟨_,rfl,kt _ ⟨_,_,rfl⟩ (by simpa using e)⟩
   .exact kf _ ⟨_,_,rfl⟩ (by simpa using e)
  .generalize XZ:((zp zs).filter fun y=>decide (y.1=(h:Int))).map (·.2)=os;have Jk:os.length<=8:=by rw[<-XZ,aO];exact fi.most h
   have sm:aE H (upd H D (.lst (IV os))):=aj hD;refine⟨_,rfl,tb.same sm,fun f' c' H2 UO old FT Br=>?_⟩;have t2:o9 Pt H2:=UO;have lX:H2 D=some (.lst (IV os)):=old _ _ af ((tb.same sm).not af (by intro ps z;cases z));refine⟨D,f',c',os,h,n,rfl,rfl,aU.of lX,(by lia),Br,FT,rfl,rfl,by lia,fun r out vv ko=>?_⟩;rw[<-XZ] at ko;rw[BZ fi hh ko];have Pf:aE H2 (upd H2 r (.lst (NV (eY n (zp zs) h)))):=aj vv;refine k r _ (t2.same Pf) (fun b o e hb=>Pf _ _ (old b o (sm _ _ e) hb)) ?_ af;cases z:H r with
   |none=>rfl
   |some o=>
    by_cases hP:r=Pt
    .rcases t2 with q|⟨_,q,_⟩ <;> · rw[<-hP,vv] at q;cases q
    .rw[old r o (sm _ _ z) hP] at vv;cases vv
end
abbrev D5:Stmt:=gw 34
abbrev y8:Stmt:=gw 35
def kC(n:Nat)(R:List Nat)(f:Nat->Nat):List V:=(List.range n).map fun x=>if x∈R then V.int ((f x:Nat):Int) else .bH
theorem jP:(kC n R f).length=n:=by unfold kC;rw[aO,fK]
theorem jQ(h:x<n):(kC n R f)[x]?=some (if x∈R then V.int ((f x:Nat):Int) else .bH):=by
 unfold kC;rw[bn,k9 h];rfl
theorem y9(hs:s<n):(List.replicate n V.bH).set s (V.int 0)=kC n [s] (fun _=>0):=by
 apply xU;intro x;by_cases hx:x<n
 .rw[jQ hx];by_cases e:x=s
  .subst e;rw[pF (by rw[pr];exact hx),ao (by simp)];rfl
  .rw[tJ (fun z=>e z.symm),xC,ao hx,ap (by simp[e])]
 .rw[gU (by rw[lf,pr];lia),gU (by rw[jP];lia)]
theorem D8(hv:v<n):(kC n R f).set v (V.int ((k:Nat):Int))=kC n (R++[v]) (put f v k):=by
 apply xU;intro x;by_cases hx:x<n
 .rw[jQ hx];by_cases e:x=v
  .subst e;rw[pF (by rw[jP];exact hx),ao (by simp),gB]
  .rw[tJ (fun z=>e z.symm),jQ hx,eT e];by_cases h:x∈R
   .rw[ao h,ao (gW _ h)]
   .rw[ap h,ap (fun z=>(bp.mp z).elim h fun z=>e (by simpa using z))]
 .rw[gU (by rw[lf,jP];lia),gU (by rw[jP];lia)]
def Jw(σ:St):Nat:=match σ[4]? with
 |some (some (V.int z))=>z.toNat
 |_=>0
theorem nbO:(["others"]:List Str).Nodup:=by decide +kernel
def ii(H:Hp)(ol:Addr)(n:Nat)(ts:Ts):Prop:=∃bs:List Addr,H ol=some (.lst (bs.map V.ref))/\Holds H bs n (fun h=>.lst (NV (eY n ts h)))
theorem ii.same(x:ii H ol n ts)(e:aE H H'):ii H' ol n ts:=let ⟨bs,a,b⟩:=x;⟨bs,e _ _ a,b.mono fun _ _ z=>e _ _ z⟩
theorem Jx{as:List Addr}{i:Nat}{x:V}(h:(as.map V.ref)[i]?=some x):i<as.length/\x=.ref (as.getD i 0):=by
 rw[bn] at h;cases e:as[i]? with
 |none=>rw[e] at h;cases h
 |some a=>
  rw[e] at h;refine⟨(cK.mp e).1,?_⟩;rw[bO,e];exact(bR h).symm
section
variable {P:Program} {w:World} {K:PySem.W.Frag} {mg:Str->Option Value} {base:Heap}
theorem lS:aG ["out_lists","start","distances","reached","at","house","other"] ["out_lists","start"] (am D5):=⟨rfl,rfl,rfl,by decide +kernel,rfl,by decide +kernel,by decide +kernel⟩
def u4:Sp:=fun vs H Q _=>∃ (ol:Addr) (n s:Nat) (ts:Ts),vs=[.ref ol,.int s]/\eG n ts/\s<n/\ii H ol n ts/\
 ∀ (r:Addr) (H':Hp),aE H H'->H r=none->H' r=some (.lst (NV ((List.range n).map (far ts s))))->Q (.ref r) H'
theorem Hg{f:Addr}{fd:FuncData}(F:fQ K "distances_from" "distances_from" D5 f fd)(B:Bl mg):br P w K mg base aZ 1 f fd ["out_lists","start"] u4:=by
 refine F.ok lS (fun vs H Q E h=>?_) (fun dL A outer s H vs Q E hr h=>?_)
 .obtain⟨ol,n,s,ts,rfl,_⟩:=h;rfl
 .obtain⟨ol,n,st,ts,rfl,fi,hs,O,k⟩:=h;have n1:=fi.n1;have n2:=fi.n2;refine'⟨_,ah (gA (i:=2) (g:=bC 0) (NB:=["others"]) (src:=[none]) (cg (by kernel_rfl)) rfl (cf (pv 0)) ?g ?t ?e lS.nd rfl rfl rfl)
   (ah (iO aq (nr (pv 2) (pv 1) ir))
   (ah (aP (i:=3) lS.nd rfl (Or.inl rfl) (dX (aa (pv 1) ag)))
   (ah (aP (i:=4) lS.nd rfl (Or.inl rfl) aq)
   (ah (p9 eM (aN qb (pv 4) (aA aH (by rfl) B.len cG (aa (pv 3) ag)) (aM _))
    (ah (aP (i:=5) lS.nd rfl (Or.inl rfl) (au az (pv 3) (pv 4) (fun _ _=>rfl)))
    (ah (dM eM rfl (cf (au az (pv 0) (pv 5) (fun _ _=>rfl))) (aB (i:=6) lS.nd rfl (Or.inl rfl))
     (al (bx (aN iQ (au az (pv 2) (pv 6) (fun _ _=>rfl)) ce (aM _))
      (ah (iO (bo dB (au az (pv 2) (pv 5) (fun _ _=>rfl)) aq) (nr (pv 2) (pv 6) ir))
      (al (cP (iy ij kJ kI dh (pv 3) (aa (pv 6) ag))))) aR)))
    (al (CL (i:=4) lS.nd rfl (Or.inl rfl) aq CM)))))
   (al (aF (pv 2))))))),?_⟩
  case g=>exact fun cl C s₃ H₃ fp=>aB (i:=0) nbO rfl (Or.inl rfl) (Or.inr rfl)
  case t=>exact fun cl C s₃ H₃ fp=>ff
  case e=>exact fun cl C s₃ H₃ fp=>ce
  obtain⟨bs,Jk,UP,Nc⟩:=id O;refine⟨_,rfl,ol,rfl,⟨_,aU.of Jk⟩,fun D hD=>?_⟩;have nol:ol≠D:=ai Jk hD;refine eX (xs:=bs.map V.ref) (fun i ys σ H2=>(∃a,σ=[a])/\ys=List.replicate i V.bH/\H2=upd H D (.lst ys)) ⟨⟨_,rfl⟩,rfl,rfl⟩ (fun i ys σ H2 _ ⟨_,_,e⟩=>by rw[e];exact aU.of (by rw[ak nol];exact Jk)) ?_ ?_
  .rintro i x ys σ H2 Kt Kf hx ⟨⟨a,rfl⟩,rfl,rfl⟩ kt kf;have hi:=(Jx hx).1;refine kt _ _ _ af ?_ ⟨⟨_,rfl⟩,?_,by rw[gY]⟩
   .rw[pr];exact bV hi (by rw[UP];exact bB n2 (by decide))
   .rw[List.replicate_succ']
  .rintro ys σ H2 ⟨_,rfl,rfl⟩;rw[aO,UP];refine⟨_,rfl,_,rfl,D,_,st,st,rfl,rfl,af,by rw[pr];exact j7 hs,?_⟩;rw[gY,y9 hs];refine⟨_,rfl,by show 1<=sizeLine;decide,fun R hR=>?_⟩;have Jy:D≠R:=ai (H:=upd H D (.lst (kC n [st] (fun _=>0)))) af hR;have Pi:H R=none:=by rw[ak Jy.symm] at hR;exact hR
   refine vI (fun σ H2=>∃ (i:Nat) (Rs:List Nat) (f:Nat->Nat),i<=Rs.length/\xo n ts st i Rs f/\(∃a b,σ=[some (.ref ol),some (.int st),some (.ref D),some (.ref R),some (.int (i:Int)),a,b])/\aE H H2/\H2 D=some (.lst (kC n Rs f))/\H2 R=some (.lst (NV Rs)))
    (fun σ _=>n-Jw σ) ⟨0,[st],fun _=>0,df _,xo.start hs,⟨none,none,rfl⟩,bD (aj hD) Pi,?_,af⟩ ?_ ?_
   .rw[ak Jy,af]
   .rintro σ H2 ⟨i,Rs,f,hi,Bf,⟨a,b,rfl⟩,sm,lX,Nk⟩;have hRn:Rs.length<=n:=eC Bf.nd Bf.lt;refine⟨_,rfl,_,rfl,R,_,rfl,.inl (aU.of Nk),_,_,rfl,rfl,_,rfl,?_⟩;rw[qM];by_cases sH:i<Rs.length
    .rw[show decide ((i:Int)<((Rs.length:Nat):Int))=true by simp;lia];refine Ge ?_;have hu:Rs[i]?=some Rs[i]:=cm sH;generalize Rs[i]=u at hu;have Hh:u<n:=Bf.lt u (dP hu);have R8:(NV Rs)[i]?=some (.int (u:Int)):=by rw[bn,hu];rfl
     refine⟨_,rfl,_,rfl,R,_,_,_,rfl,rfl,aU.of Nk,bf R8,?_⟩;have Nl:(bs.map V.ref)[u]?=some (.ref (bs.getD u 0)):=by
      rw[bn,bO,cm (by rw[UP];exact Hh)];rfl
     have Ll:=sm _ _ (Nc _ Hh);refine⟨_,rfl,_,rfl,ol,_,_,_,rfl,rfl,aU.of (sm _ _ Jk),bf Nl,_,rfl,⟨_,aU.of Ll⟩,?_⟩;have nbD:bs.getD u 0≠D:=ai (Nc _ Hh) hD;have nbR:bs.getD u 0≠R:=ai (Nc _ Hh) Pi;refine jG (K:=K) (xs:=NV (eY n ts u)) (fun j σ H3=>∃ (f_:List Nat) (f':Nat->Nat),xo n ts st i f_ f'/\f_[i]?=some u/\(∀v∈(eY n ts u).take j,v∈f_/\f' v<=f' u+1)/\
      (∃b,σ=[some (.ref ol),some (.int st),some (.ref D),some (.ref R),some (.int (i:Int)),some (.int (u:Int)),b])/\aE H H3/\H3 D=some (.lst (kC n f_ f'))/\H3 R=some (.lst (NV f_)))
      ⟨Rs,f,Bf,hu,fun v hv=>by simp at hv,⟨_,rfl⟩,sm,lX,Nk⟩ (fun j σ H3 _ ⟨_,_,_,_,_,_,rH,_⟩=>aU.of (rH _ _ (Nc _ Hh))) ?_ ?_
     .rintro j x σ H3 hx ⟨f_,f',sL,vX,dn,⟨b',rfl⟩,rH,kD,vw⟩;rw[bn] at hx;cases hv:(eY n ts u)[j]? with
      |none=>rw[hv] at hx;cases hx
      |some v=>
       rw[hv] at hx;obtain rfl:V.int ((v:Nat):Int)=x:=bR hx;have R9:v∈eY n ts u:=dP hv;have D9:v<n:=As fi Hh R9;have UQ:T ts u v:=(jO fi Hh).mp R9;have tk:(eY n ts u).take (j+1)=(eY n ts u).take j++[v]:=by rw[io,hv];rfl
       have D_:u∈f_:=dP vX;refine⟨_,rfl,_,rfl,D,_,_,_,rfl,rfl,aU.of kD,bf (jQ D9),rfl,_,rfl,?_⟩;by_cases y_:v∈f_
       .rw[ao y_];refine lJ ⟨f_,f',sL,vX,fun x hx=>?_,⟨_,rfl⟩,rH,kD,vw⟩;rw[tk] at hx;rcases bp.mp hx with z|z
        .exact dn x z
        .simp at z;subst z;exact⟨y_,sL.bd u vX _ y_⟩
       .rw[ap y_];refine Ge ?_;have hg2:(kC n f_ f')[u]?=some (.int ((f' u:Nat):Int)):=by rw[jQ Hh,ao D_]
        refine⟨_,rfl,_,rfl,D,_,_,_,rfl,rfl,aU.of kD,bf hg2,_,_,rfl,rfl,_,rfl,_,rfl,D,_,_,_,rfl,rfl,kD,by rw[jP];exact j7 D9,?_⟩;have e1:(kC n f_ f').set v (.int (((f' u:Nat):Int)+1))=kC n (f_++[v]) (put f' v (f' u+1)):=by
         rw[show ((f' u:Nat):Int)+1=((f' u+1:Nat):Int) by lia,D8 D9]
        rw[e1];have rj:(upd H3 D (.lst (kC n (f_++[v]) (put f' v (f' u+1))))) R=some (.lst (NV f_)):=by rw[ak Jy.symm];exact vw
        have Ea:f_.length<=n:=eC sL.nd sL.lt;refine⟨_,rfl,.inl ⟨rfl,_,aU.of rj⟩,_,rfl,R,_,_,rfl,rfl,rj,by rw[qM];exact bV (show f_.length<33 by lia) (by decide),?_⟩;have lW:i<f_.length:=(cK.mp vX).1;have UR:u≠v:=fun z=>y_ (z ▸ D_);refine⟨f_++[v],put f' v (f' u+1),sL.add vX D9 UQ y_,by rw[i8 lW];exact vX,fun x hx=>?_,⟨_,rfl⟩,bD (bD rH hD) Pi,?_,?_⟩
        .rw[eT UR];rw[tk] at hx;rcases bp.mp hx with z|z
         .obtain⟨q1,q2⟩:=dn x z;exact⟨gW _ q1,by rw[eT (fun (z:x=v)=>y_ (z ▸ q1))];exact q2⟩
         .simp at z;subst z;exact⟨by simp,by rw[gB];exact aL _⟩
        .rw[ak Jy,af]
        .rw[af];show _=some (HO.lst (NV (f_++[v])));rw[show NV (f_++[v])=NV f_++[.int (v:Int)] by unfold NV;rw[cD];rfl]
     .rintro σ H3 ⟨f_,f',sL,vX,dn,⟨b',rfl⟩,rH,kD,vw⟩;rw[qM,gy] at dn;have lW:i<f_.length:=(cK.mp vX).1;have Ea:f_.length<=n:=eC sL.nd sL.lt;refine⟨_,rfl,_,_,rfl,rfl,⟨⟨i+1,f_,f',lW,sL.next vX (fun v t=>dn v ((jO fi Hh).mpr t)),⟨_,_,rfl⟩,rH,kD,vw⟩,?_⟩⟩;show n-((i:Int)+1).toNat<n-(i:Int).toNat;lia
    .rw[show decide ((i:Int)<((Rs.length:Nat):Int))=false by rw[decide_eq_false_iff_not];lia];have e:kC n Rs f=NV ((List.range n).map (far ts st)):=by
      unfold kC NV;rw[fL];refine i9 fun x hx=>?_;obtain⟨q1,q2⟩:=Bf.done fi (by lia) (bN.mp hx);rw[ao q1,q2];rfl
     rw[e] at lX;refine lJ ⟨_,rfl,k D H2 sm hD lX⟩
   .rintro σ H2 Q1 Q2 imp ⟨v,e1,v2,e2,p,ys,e3,e4,i1,i2,e5,e6,kk,e7,q⟩;exact⟨v,e1,v2,e2,p,ys,e3,e4,i1,i2,e5,e6,kk,e7,imp _ _ q⟩
end
theorem Pj:(["row"]:List Str).Nodup:=by decide +kernel
section
variable {P:Program} {w:World} {K:PySem.W.Frag} {mg:Str->Option Value} {base:Heap}
theorem Hi:aG ["distances"] ["distances"] (am y8):=⟨rfl,rfl,rfl,by decide +kernel,rfl,by decide +kernel,by decide +kernel⟩
def u5:Sp:=fun vs H Q _=>∃ (l:Addr) (ds:List Addr) (n:Nat) (o:Nat->List V),vs=[.ref l]/\H l=some (.lst (ds.map V.ref))/\n<=32/\Holds H ds n (fun j=>.lst (o j))/\(∀j,j<n->∀x∈o j,∃i,x=.int i)/\∀H',aE H H'->Q .bH H'
theorem Eb(F:fQ K "check_reached" "check_reached" y8 f fd)(B:Bl mg):br P w K mg base aZ 1 f fd ["distances"] u5:=by
 refine F.ok Hi (fun vs H Q E h=>?_) (fun dL A outer s H vs Q E hr h=>?_)
 .obtain⟨l,ds,n,o,rfl,_⟩:=h;rfl
 .obtain⟨l,ds,n,o,rfl,hl,n2,hh,hx,k⟩:=h;refine'⟨_,al (bx (dA (aA (Bv rfl) (by rfl) B.any PyProof.Rows.boot_any (aa ?c ag))) dJ aR),?_⟩;case c=>
   refine' cR (g:=bC 0) (te:=l_ (RJ K false) (tC .bH) (bb 0)) (NB:=["row"]) (src:=[none]) (cg (by kernel_rfl)) rfl (cf (pv 0)) ?g ?t ?e;case g=>exact fun cl C s₃ H₃ fp=>aB (i:=0) Pj rfl (Or.inl rfl) (Or.inr rfl)
   case t=>exact fun cl C s₃ H₃ fp=>ff
   case e=>exact fun cl C s₃ H₃ fp=>cY nz ce (pv 0) rfl
  refine⟨_,rfl,l,rfl,⟨_,aU.of hl⟩,fun D hD=>?_⟩;have nl:l≠D:=ai hl hD;refine eX (xs:=ds.map V.ref) (fun i ys σ H2=>(∃a,σ=[a])/\ys=(List.replicate i false).map V.bl/\H2=upd H D (.lst ys)) ⟨⟨_,rfl⟩,rfl,rfl⟩ (fun i ys σ H2 _ ⟨_,_,e⟩=>by rw[e];exact aU.of (by rw[ak nl];exact hl)) ?_ ?_
  .rintro i x ys σ H2 Kt Kf hxi ⟨⟨a,rfl⟩,rfl,rfl⟩ kt kf;obtain⟨hi,rfl⟩:=Jx hxi;rw[hh.1] at hi;have hd:=hh.2 i hi;have nd:ds.getD i 0≠D:=ai hd hD;have q1:(o i).all gh=true:=mW.mpr fun x sr=>by obtain⟨z,rfl⟩:=hx i hi x sr;rfl
   have q2:C6 .bH (o i)=false:=by
    unfold C6;rw[xV];intro x sr;obtain⟨z,rfl⟩:=hx i hi x sr;exact fun z=>by cases z
   refine⟨_,rfl,_,_,rfl,.inl (aU.of (by rw[ak nd];exact hd)),rfl,q1,?_⟩;refine kt _ _ _ af ?_ ⟨⟨_,rfl⟩,?_,by rw[gY]⟩
   .rw[aO,pr];exact bV hi (bB n2 (by decide))
   .rw[List.replicate_succ',cD,q2];rfl
  .rintro ys σ H2 ⟨_,rfl,rfl⟩;refine⟨D,_,rfl,aU.of af,_,rfl,?_⟩;have e:(List.replicate (ds.map V.ref).length false).any id=false:=by
    rw[xV];intro x sr;rw[(List.mem_replicate.mp sr).2];decide
   rw[e];exact lJ (k _ (aj hD))
end
theorem X0:(["one","other"]:List Str).Nodup:=by decide +kernel
theorem Pk:(["house","many","ties"]:List Str).Nodup:=by decide +kernel
theorem US:(["house","self"]:List Str).Nodup:=by decide +kernel
def kT(p Pt:Addr)(H H':Hp):Prop:=∀b o,H b=some o->b≠p->b≠Pt->H' b=some o
theorem fk.mono(h:fk H l n zs)(e:kT p Pt H H')(hp:H p=some (.ins C dx fs))(tb:o9 Pt H):fk H' l n zs:=
 ⟨h.i6,e _ _ h.at_ (cX h.at_ hp (by intro z;cases z)) (tb.not h.at_ (by intro ps z;cases z)),fun z hz=>e _ _ (h.po z hz) (cX (h.po z hz) hp (by intro z;cases z)) (tb.not (h.po z hz) (by intro ps z;cases z))⟩
theorem o9.mono(t:o9 Pt H)(e:∀b o,H b=some o->b≠p->H' b=some o)(hp:H p=some (.ins C dx fs)):o9 Pt H':=by
 rcases t with z|⟨c,z,y⟩
 .exact .inl (e _ _ z (cX z hp (by intro q;cases q)))
 .exact .inr ⟨c,e _ _ z (cX z hp (by intro q;cases q)),e _ _ y (cX y hp (by intro q;cases q))⟩
theorem o9.full(t:o9 Pt H):H Pt≠none:=by
 rcases t with z|⟨c,z,y⟩ <;> rw[z] <;> intro q <;> cases q
theorem kT.free(s:kT p Pt H H')(hp:H' p≠none)(tb:o9 Pt H')(h:H' r=none):H r=none:=by
 cases z:H r with
 |none=>rfl
 |some o=>
  by_cases e1:r=p
  .subst e1;exact absurd h hp
  .by_cases e2:r=Pt
   .subst e2;exact absurd h tb.full
   .rw[s r o z e1 e2] at h;cases h
theorem Ec(h:k [] H):lH σ H k:=h
theorem kh{H:Hp}{p:Addr}{o:HO}(h:H p=some o):H p≠none:=by rw[h];intro z;cases z
section
variable {P:Program} {w:World} {K:PySem.W.Frag} {mg:Str->Option Value} {base:Heap}
theorem Lm:aG ["self","many","ties"] ["self","many","ties"] (am At):=⟨rfl,rfl,rfl,by decide +kernel,rfl,by decide +kernel,by decide +kernel⟩
def u6(C Pt:Addr):Sp:=fun vs H Q E=>∃ (p dx:Addr) (n:Nat) (l:Addr) (zs:Zs),vs=[.ref p,.int n,.ref l]/\H p=some (.ins C dx [])/\fk H l n zs/\o9 Pt H/\
  ∀H',cS C H' (fun a=>H a=none) p n (zp zs)->o9 Pt H'->kT p Pt H H'->Q .bH H'
theorem Hj{f C Pt:Addr}{fd:FuncData}(F:fQ K "__init__" "Net.__init__" At f fd)(T:NT K mg C)(B:Bl mg)(CT:b_ P w K mg base aZ 6 "check_ties" ["many","ties"] kd)(CB:b_ P w K mg base aZ 1 "check_balance" ["many","ties"] kd)(HO':b_ P w K mg base aZ 1 "houses_out" ["many","ties","house"] (u3 Pt))(DF:b_ P w K mg base aZ 1 "distances_from" ["out_lists","start"] u4)(CR:b_ P w K mg base aZ 1 "check_reached" ["distances"] u5):
  br P w K mg base aZ 7 f fd ["self","many","ties"] (u6 C Pt):=by
 refine F.ok Lm (fun vs H Q E h=>?_) (fun dL A outer s H vs Q E hr h=>?_)
 .obtain⟨p,dx,n,l,zs,rfl,_⟩:=h;rfl
 .have R_:bW 1 _:=hr.mono (by decide);refine'⟨_,ah (cP (aD CT hr aQ (aa (pv 1) (aa (pv 2) ag))))
   (ah (cP (aD CB R_ aQ (aa (pv 1) (aa (pv 2) ag))))
   (ah (ut (pv 0) (pv 1) rfl)
   (ah (ut (pv 0) (aA qH (by rfl) B.sorted xy (aa ?c1 ag)) rfl)
   (ah (ut (pv 0) ?c2 rfl)
   (ah (ut (pv 0) ?c3 rfl)
   (al (cP (aD CR R_ aQ (aa (nw (pv 0) rfl) ag))))))))),?_⟩
  case c1=>
   refine' cR (g:=ui K 2 (fP (bC 0) (fP (bC 1) uh))) (te:=yz (cH (bb 0) (cH (bb 1) lH))) (NB:=["one","other"]) (src:=[none,none]) (cg (by kernel_rfl)) rfl (cf (pv 2)) ?g ?t ?e;case g=>exact fun cl C s₃ H₃ fp=>fA (n:=2) rfl (a9 (aB (i:=0) X0 rfl (Or.inl rfl) (Or.inr rfl)) (a9 (aB (i:=1) X0 rfl (Or.inl rfl) (Or.inr rfl)) d9))
   case t=>exact fun cl C s₃ H₃ fp=>ff
   case e=>exact fun cl C s₃ H₃ fp=>fZ (aa (pv 0) (aa (pv 1) ag))
  case c2=>
   refine' cR (g:=bC 0) (te:=rY (u3 Pt) [] E0 (cH (bb 1) (cH (bb 2) (cH (bb 0) lH)))) (NB:=["house","many","ties"]) (src:=[none,some 1,some 2]) (cg (by kernel_rfl)) rfl (d_ rfl B.range (aa (pv 1) ag)) ?g ?t ?e;case g=>exact fun cl C s₃ H₃ fp=>aB (i:=0) Pk rfl (Or.inl rfl) (Or.inr rfl)
   case t=>exact fun cl C s₃ H₃ fp=>ff
   case e=>exact fun cl C s₃ H₃ fp=>aD HO' R_ aQ (aa (pv 1) (aa (pv 2) (aa (pv 0) ag)))
  case c3=>
   refine' cR (g:=bC 0) (te:=rY u4 [] E0 (cH (Ko K (bb 1) "out_lists") (cH (bb 0) lH))) (NB:=["house","self"]) (src:=[none,some 0]) (cg (by kernel_rfl)) rfl (d_ rfl B.range (aa (pv 1) ag)) ?g ?t ?e;case g=>exact fun cl C s₃ H₃ fp=>aB (i:=0) US rfl (Or.inl rfl) (Or.inr rfl)
   case t=>exact fun cl C s₃ H₃ fp=>ff
   case e=>exact fun cl C s₃ H₃ fp=>aD DF R_ aQ (aa (nw (pv 1) rfl) (aa (pv 0) ag))
  obtain⟨p,dx,n,l,zs,rfl,hp,TT,tb,k⟩:=h;have fi:=TT.i6;have n1:=fi.n1;have n2:=fi.n2;have dY:zs.length<=256:=by have:=fi.len;rw[dO] at this;exact this
  refine⟨_,rfl,_,rfl,n,l,zs,rfl,TT,fun H1 s1=>?_⟩;refine⟨_,rfl,_,rfl,n,l,zs,rfl,TT.same s1,fun H2 s2=>?_⟩;have Nm:aE H H2:=s1.trans s2;refine⟨_,rfl,_,rfl,p,C,dx,[],rfl,Nm _ _ hp,T.cl,T.nH,(by show 0<1000;decide),?_⟩
  let G1:Hp:=upd H2 p (.ins C dx (dC "house_count" (.int n) []))
  have d1:kT p Pt H G1:=fun b o e h1 _=>by show upd _ _ _ _=_;rw[ak h1];exact Nm _ _ e
  have Sa:G1 p=some (.ins C dx (dC "house_count" (.int n) [])):=af;have UT:fk G1 l n zs:=TT.mono d1 hp tb;have Hk:o9 Pt G1:=tb.mono (fun b o e h1=>by show upd _ _ _ _=_;rw[ak h1];exact Nm _ _ e) hp;refine⟨_,rfl,l,rfl,⟨_,aU.of UT.at_⟩,fun D hD=>?_⟩;refine DT (fun y=>y) (fun σ=>∃a b,σ=[a,b]) UT.at_ UT.po hD (by lia) ⟨_,_,rfl⟩ ?_ ?_
  .rintro z σ H3 R Kf hz ⟨a,b,rfl⟩ ha kk;refine⟨_,_,rfl,cx.of ha,rfl,_,_,rfl,_,_,rfl,rfl,?_⟩;exact⟨_,rfl,_,rfl,by show 2<=sizeLine;decide,fun t ht=>kk _ _ ⟨_,_,rfl⟩ ht⟩
  .intro X7 H3 sm kD Jz ez fr2;rw[List.map_id'] at ez;have Zn:X7.length=zs.length:=by rw[<-dO,ez,dO]
   refine Ec ?_;refine uZ kD Jz (by lia) (fun u hu=>by have:=(fi.rg u (ez ▸ hu)).2;lia) fun tl Nn UU pm ord=>?_;have UV:H tl=none:=d1.free (kh Sa) Hk (sm.free UU);have Ki:∀z∈Nn,H z.1=none:=fun z hz=>d1.free (kh Sa) Hk (fr2 z (pm.mem_iff.mp hz));have UW:H3 p=some (.ins C dx (dC "house_count" (.int n) [])):=sm _ _ Sa;have Ln:p≠tl:=ai UW UU;refine⟨_,rfl,p,C,dx,_,rfl,by rw[ak Ln];exact UW,T.cl,T.nT,by show 1<1000;decide,?_⟩
   let G2:Hp:=upd (upd H3 tl (.lst (zr Nn))) p (.ins C dx (dC "tie_list" (.ref tl) (dC "house_count" (.int n) [])))
   have q2:∀b o,H3 b=some o->b≠p->G2 b=some o:=fun b o e h1=>by
    show upd _ _ _ _=_;rw[ak h1,ak (ai e UU)];exact e
   have d2:kT p Pt H G2:=fun b o e h1 h2=>q2 _ _ (sm _ _ (d1 _ _ e h1 h2)) h1;have X9:G2 tl=some (.lst (zr Nn)):=by show upd _ _ _ _=_;rw[ak Ln.symm,af]
   have UX:PO G2 Nn:=fun z hz=>q2 _ _ (Jz z (pm.mem_iff.mp hz)) (cX (Jz z (pm.mem_iff.mp hz)) UW (by intro z;cases z));have Lo:G2 p=some (.ins C dx (dC "tie_list" (.ref tl) (dC "house_count" (.int n) []))):=af;have TT2:fk G2 l n zs:=TT.mono d2 hp tb;have xp:o9 Pt G2:=Hk.mono (fun b o e h1=>q2 _ _ (sm _ _ e) h1) Sa;refine⟨_,rfl,n,rfl,by lia,by lia,fun D2 lX=>?_⟩;refine lM (n:=n) (lo:=0) (fun i ys σ H4=>(∃a,σ=[a,some (.int n),some (.ref l)])/\∃bs:List Addr,ys=bs.map V.ref/\(∀b∈bs,H b=none)/\Holds H4 bs i (fun h=>.lst (NV (eY n (zp zs) h)))/\cy Pt G2 H4/\o9 Pt H4/\H4 D2=some (.lst ys)/\∀b∈bs,b≠D2)
    ⟨⟨_,rfl⟩,[],rfl,(fun _ h=>nomatch h),Holds.nil,cy.of (aj lX),xp.same (aj lX),af,(fun _ h=>nomatch h)⟩ ?_ ?_
   .rintro i ys σ H4 Kt Kf hi ⟨⟨a,rfl⟩,bs,rfl,UY,hb,qN,No,B0,UZ⟩ kt kf;have TT4:fk H4 l n zs:=TT2.mono (p:=p) (fun b o e _ h2=>qN _ _ e h2) Lo xp;have Np:=qN _ _ Lo (xp.not Lo (by intro ps z;cases z));refine⟨_,rfl,_,rfl,_,rfl,n,l,i,zs,by rw[lx];rfl,hi,TT4,No,fun r H5 t5 zJ Sb hr5=>?_⟩;have U0:H r=none:=kT.free (fun b o e h1 h2=>qN _ _ (d2 _ _ e h1 h2) h2) (kh Np) No Sb;have Sc:H5 D2=some (.lst (bs.map V.ref)):=zJ _ _ B0 (No.not B0 (by intro ps z;cases z));have Pl:r≠D2:=by rintro rfl;rw[B0] at Sb;cases Sb
    have kU:∀b o oJ,H5 b=some o->b≠D2->(upd H5 D2 oJ) b=some o:=fun b o oJ e h=>by rw[ak h];exact e
    refine kt _ _ _ Sc (by rw[aO,hb.1];exact bV hi (bB n2 (by decide))) ⟨⟨_,rfl⟩,bs++[r],by rw[cD];rfl,?_,?_,?_,?_,af,?_⟩
    .intro b oI;rcases bp.mp oI with z|z
     .exact UY b z
     .rw[bS.mp z];exact U0
    .refine Holds.snoc (hb.mono fun j hj e=>?_) (kU _ _ _ hr5 Pl);refine kU _ _ _ (zJ _ _ e (No.not e (by intro ps z;cases z))) (UZ _ ?_);rw[bO,cm (by rw[hb.1];exact hj)];exact jd _
    .intro b o e h;exact kU _ _ _ (zJ _ _ (qN _ _ e h) h) (ai e lX)
    .rcases t5 with z|⟨c,z,y⟩
     .exact .inl (kU _ _ _ z (cX z Sc (by intro q;cases q)))
     .exact .inr ⟨c,kU _ _ _ z (cX z Sc (by intro q;cases q)),kU _ _ _ y (cX y Sc (by intro q;cases q))⟩
    .intro b oI;rcases bp.mp oI with z|z
     .exact UZ b z
     .rw[bS.mp z];exact Pl
   .rintro ys σ H4 ⟨_,bs,rfl,UY,hb,qN,No,B0,UZ⟩;have Np:H4 p=some (.ins C dx (dC "tie_list" (.ref tl) (dC "house_count" (.int n) []))):=qN _ _ Lo (xp.not Lo (by intro ps z;cases z));have U1:H D2=none:=d2.free (kh Lo) xp lX;refine⟨_,rfl,p,C,dx,_,rfl,Np,T.cl,T.nO,by have h1:=dW "tie_list" (V.ref tl) (dC "house_count" (V.int n) []);have h2:=dW "house_count" (V.int n) [];simp at h2;lia,?_⟩
    let G3:Hp:=upd H4 p (.ins C dx (dC "out_lists" (.ref D2) (dC "tie_list" (.ref tl) (dC "house_count" (.int n) []))))
    have q3:∀b o,H4 b=some o->b≠p->G3 b=some o:=fun b o e h1=>by show upd _ _ _ _=_;rw[ak h1];exact e
    have Lq:G3 p=some (.ins C dx (dC "out_lists" (.ref D2) (dC "tie_list" (.ref tl) (dC "house_count" (.int n) [])))):=af;have d3:kT p Pt H G3:=fun b o e h1 h2=>q3 _ _ (qN _ _ (d2 _ _ e h1 h2) h2) h1;have U2:o9 Pt G3:=No.mono q3 Np;have X_:Holds G3 bs n (fun h=>.lst (NV (eY n (zp zs) h))):=hb.mono fun j hj e=>q3 _ _ e (cX e Np (by intro z;cases z));have U3:G3 D2=some (.lst (bs.map V.ref)):=q3 _ _ B0 (cX B0 Np (by intro z;cases z));have O3:ii G3 D2 n (zp zs):=⟨bs,U3,X_⟩
    refine⟨_,rfl,n,rfl,by lia,by lia,fun D3 Lr=>?_⟩;refine lM (n:=n) (lo:=0) (fun i ys σ H6=>(∃a,σ=[a,some (.ref p)])/\∃ds:List Addr,ys=ds.map V.ref/\(∀b∈ds,H b=none)/\Holds H6 ds i (fun s=>.lst (NV ((List.range n).map (far (zp zs) s))))/\aE G3 H6/\H6 D3=some (.lst ys)/\∀b∈ds,b≠D3)
     ⟨⟨_,rfl⟩,[],rfl,(fun _ h=>nomatch h),Holds.nil,aj Lr,af,(fun _ h=>nomatch h)⟩ ?_ ?_
    .rintro i ys σ H6 Kt Kf hi ⟨⟨a,rfl⟩,ds,rfl,U4,hd,Cn,JA,N7⟩ kt kf;refine⟨_,rfl,p,C,dx,_,_,rfl,Cn _ _ Lq,T.cl,T.nO,by rw[bg,ao rfl],_,rfl,D2,n,i,zp zs,by rw[lx];rfl,fi,hi,O3.same Cn,fun r H7 U5 U6 hr7=>?_⟩;have e7D:H7 D3=some (.lst (ds.map V.ref)):=U5 _ _ JA;have Pl:r≠D3:=by rintro rfl;rw[JA] at U6;cases U6
     have U0:H r=none:=kT.free (fun b o e h1 h2=>Cn _ _ (d3 _ _ e h1 h2)) (kh (Cn _ _ Lq)) (U2.same Cn) U6;have kU:∀b o oJ,H7 b=some o->b≠D3->(upd H7 D3 oJ) b=some o:=fun b o oJ e h=>by rw[ak h];exact e
     refine kt _ _ _ e7D (by rw[aO,hd.1];exact bV hi (bB n2 (by decide))) ⟨⟨_,rfl⟩,ds++[r],by rw[cD];rfl,?_,?_,?_,af,?_⟩
     .intro b oI;rcases bp.mp oI with z|z
      .exact U4 b z
      .rw[bS.mp z];exact U0
     .refine Holds.snoc (hd.mono fun j hj e=>?_) (kU _ _ _ hr7 Pl);refine kU _ _ _ (U5 _ _ e) (N7 _ ?_);rw[bO,cm (by rw[hd.1];exact hj)];exact jd _
     .intro b o e;exact kU _ _ _ (U5 _ _ (Cn _ _ e)) (ai e Lr)
     .intro b oI;rcases bp.mp oI with z|z
      .exact N7 b z
      .rw[bS.mp z];exact Pl
    .rintro ys σ H6 ⟨_,ds,rfl,U4,hd,Cn,JA,N7⟩;have Pm:=Cn _ _ Lq;refine⟨_,rfl,p,C,dx,_,rfl,Pm,T.cl,T.nD,by have h1:=dW "tie_list" (V.ref tl) (dC "house_count" (V.int n) []);have h2:=dW "house_count" (V.int n) [];have h3:=dW "out_lists" (V.ref D2) (dC "tie_list" (V.ref tl) (dC "house_count" (V.int n) []));simp at h2;lia,?_⟩;have q4:∀b o u,H6 b=some o->b≠p->(upd H6 p u) b=some o:=fun b o u e h1=>by rw[ak h1];exact e
     refine⟨_,rfl,p,C,dx,_,_,rfl,af,T.cl,T.nD,by rw[bg,ao rfl],D3,ds,n,fun s=>NV ((List.range n).map (far (zp zs) s)),rfl,q4 _ _ _ JA (cX JA Pm (by intro z;cases z)),n2,hd.mono fun j hj e=>q4 _ _ _ e (cX e Pm (by intro z;cases z)),fun j hj x hx=>?_,fun H8 s8=>?_⟩
     .obtain⟨y,hy,rfl⟩:=bP.mp hx;exact⟨_,rfl⟩
     .have up:∀b o,G3 b=some o->b≠p->H8 b=some o:=fun b o e h1=>s8 _ _ (q4 _ _ _ (Cn _ _ e) h1);have U7:H D3=none:=d3.free (kh Lq) U2 Lr;have Ya:∀b o,G2 b=some o->b≠p->b≠Pt->H8 b=some o:=fun b o e h1 h2=>up _ _ (q3 _ _ (qN _ _ e h2) h1) h1;refine k H8 ⟨fi,dx,tl,D2,D3,s8 _ _ af,U1,U7,⟨bs,up _ _ U3 (cX U3 Lq (by intro z;cases z)),UY,X_.mono fun j hj e=>up _ _ e (cX e Lq (by intro z;cases z))⟩,
       ⟨ds,s8 _ _ (q4 _ _ _ JA (cX JA Pm (by intro z;cases z))),U4,hd.mono fun j hj e=>s8 _ _ (q4 _ _ _ e (cX e Pm (by intro z;cases z)))⟩,
       ⟨UV,Nn,Ya _ _ X9 Ln.symm (xp.not X9 (by intro ps z;cases z)),fun z hz=>Ya _ _ (UX z hz) (cX (UX z hz) Lo (by intro z;cases z)) (xp.not (UX z hz) (by intro ps z;cases z)),Ki,((show (zp Nn).Perm (zp X7) from pm.map _).trans (tX ez)),ord⟩⟩ ?_ fun b o e h1 h2=>up _ _ (d3 _ _ e h1 h2) h1
      exact U2.mono up Lq
end
end dD
namespace vx
open PySem L2
def gw(i:Nat):Stmt:=PySem.Challenge.pw_neverwait_k64_whole_rings_by_nearest_fir.main.body.getD i (.Pass ⟨0,0,0,0⟩)
abbrev Lu:Stmt:=gw 37
abbrev Ed:Stmt:=gw 38
abbrev Ee:Stmt:=gw 39
structure Bl(mg:Str->Option Value):Prop where
 DO:mg "isinstance"=none
 int:mg "int"=none
 bool:mg "bool"=none
 lst:mg "list"=none
 tup:mg "tuple"=none
 dict:mg "dict"=none
 len:mg "len"=none
 range:mg "range"=none
 enum:mg "enumerate"=none
 all:mg "all"=none
 abs:mg "abs"=none
 max:mg "max"=none
 min:mg "min"=none
 repr:mg "repr"=none
def bj(H:Hp)(p:Addr):Prop:=∃a b:Int,H p=some (.lst [.int a,.int b])/\0<=a/\0<=b/\b<2147483647
theorem bj.same{H H':Hp}{p:Addr}(h:bj H p)(s:aE H H'):bj H' p:=let ⟨a,b,e,r⟩:=h;⟨a,b,s _ _ e,r⟩
theorem bj.upd{H:Hp}{p:Addr}{a b:Int}(h1:0<=a)(h2:0<=b)(h3:b<2147483647):bj (upd H p (.lst [.int a,.int b])) p:=⟨a,b,af,h1,h2,h3⟩
section
variable {P:Program} {w:World} {K:PySem.W.Frag} {mg:Str->Option Value} {base:Heap}
theorem Ax:aG ["_law_script","_law_k","_law_cell","_law_mixed"] ["_law_script","_law_k"] (am Lu):=⟨rfl,rfl,rfl,by decide +kernel,rfl,by decide +kernel,by decide +kernel⟩
def Ef(K:PySem.W.Frag):Sp:=fun vs H Q _=>∃ (a:Addr) (ns:List Int) (k:Nat),vs=[.ref a,.int k]/\aU K H a (ns.map V.int)/\k<64/\∀ (r:Addr) (H':Hp),aE H H'->H r=none->bj H' r->Q (.ref r) H'
theorem Eg{x:Int}(h0:0<=x)(h1:x<2 ^ 63):x.natAbs<2 ^ 64:=by lia
theorem Lv{f:Addr}{fd:FuncData}(F:fQ K "_law_pot" "_law_pot" Lu f fd)(B:Bl mg):br P w K mg base aZ 1 f fd ["_law_script","_law_k"] (Ef K):=by
 refine F.ok Ax (fun vs H Q E h=>?_) (fun dL A outer s H vs Q E hr h=>?_)
 .obtain⟨a,ns,k,rfl,_⟩:=h;rfl
 .obtain⟨a,ns,k,rfl,hS,hk,q⟩:=h;refine⟨_,ah (aP (i:=2) Ax.nd rfl (Or.inl rfl) aq)
   (ah (bx (aN qb (pv 1) (aA aH (by rfl) B.len cG (aa (pv 0) ag)) (aM _)) (al (aP (i:=2) Ax.nd rfl (Or.inl rfl) (au az (pv 0) (pv 1) (fun _ _=>rfl)))) aR)
   (ah (aP (i:=3) Ax.nd rfl (Or.inl rfl) (bo fY (bo CQ (bo dB (bo dB (bo fY (aA CW (by rfl) B.abs PyProof.Rows.boot_abs (aa (pv 2) ag)) aq) (bo yq aq (pv 1))) aq) aq) aq))
   (al (aF (dX (aa (aA (rW rfl) (by rfl) B.max PyProof.Rows.boot_max (aa aq (aa (bo nt (pv 2) (bo CQ aq aq)) ag))) (aa (pv 3) ag))))))),?_⟩
  refine⟨_,rfl,_,rfl,a,ns.map V.int,rfl,.inl hS,_,_,rfl,rfl,_,rfl,?_⟩;have fin:∀c:Int,0<=(if c<0 then -c else c):=fun c=>by split <;> lia
  refine bL (fun e=>?_) (fun e=>?_)
  .have et:k<ns.length:=by
    have:(k:Int)<((ns.map V.int).length:Int):=by simpa using e
    rw[aO] at this;lia
   refine⟨_,rfl,_,rfl,a,_,_,_,rfl,rfl,hS,bf (v:=.int ns[k]) (by rw[bn,cm et];rfl),?_⟩;have m0:0<=(if ns[k]<0 then -ns[k] else ns[k]) % 2147483587:=l5 _ (by decide);have m1:(if ns[k]<0 then -ns[k] else ns[k]) % 2147483587<2147483587:=l0 _ (by decide);refine⟨_,rfl,_,rfl,_,_,rfl,rfl,(by show (0:Int)<2147483587;decide),_,rfl,_,_,rfl,rfl,.inl ⟨by decide,by decide⟩,_,_,rfl,rfl,_,_,rfl,rfl,_,_,rfl,rfl,⟨by decide,by decide,Eg (by lia) (by lia)⟩,_,_,rfl,rfl,(by show (0:Int)<2147483629;decide),?_⟩;refine⟨_,rfl,_,_,rfl,rfl,⟨by decide,by decide,by decide⟩,_,_,rfl,rfl,0,_,rfl,_,rfl,by show 2<=sizeLine;decide,fun r vv=>?_⟩;refine q r _ (aj vv) vv ⟨_,_,af,?_,l5 _ (by decide),Int.lt_trans (l0 _ (by decide)) (by decide)⟩;split <;> lia
  .have m0:0<=(if (0:Int)<0 then -0 else (0:Int)) % 2147483587:=by decide
   have m1:(if (0:Int)<0 then -0 else (0:Int)) % 2147483587<2147483587:=by decide
   refine⟨_,rfl,_,rfl,_,_,rfl,rfl,(by show (0:Int)<2147483587;decide),_,rfl,_,_,rfl,rfl,.inl ⟨by decide,by decide⟩,_,_,rfl,rfl,_,_,rfl,rfl,_,_,rfl,rfl,⟨by decide,by decide,Eg (by lia) (by lia)⟩,_,_,rfl,rfl,(by show (0:Int)<2147483629;decide),?_⟩;refine⟨_,rfl,_,_,rfl,rfl,⟨by decide,by decide,by decide⟩,_,_,rfl,rfl,0,_,rfl,_,rfl,by show 2<=sizeLine;decide,fun r vv=>?_⟩;refine q r _ (aj vv) vv ⟨_,_,af,?_,l5 _ (by decide),Int.lt_trans (l0 _ (by decide)) (by decide)⟩;split <;> lia
theorem Eh:aG ["_law_pot_here","_law_many","_law_digit"] ["_law_pot_here","_law_many"] (am Ed):=⟨rfl,rfl,rfl,by decide +kernel,rfl,by decide +kernel,by decide +kernel⟩
def lT:Sp:=fun vs H Q _=>∃ (p:Addr) (m:Int),vs=[.ref p,.int m]/\0<m/\m<1000000/\bj H p/\∀ (d a b:Int),0<=d->d<m->0<=a->0<=b->b<2147483647->Q (.int d) (upd H p (.lst [.int a,.int b]))
theorem Hl{f:Addr}{fd:FuncData}(F:fQ K "_law_take" "_law_take" Ed f fd):br P w K mg base aZ 1 f fd ["_law_pot_here","_law_many"] lT:=by
 refine F.ok Eh (fun vs H Q E h=>?_) (fun dL A outer s H vs Q E hr h=>?_)
 .obtain⟨p,m,rfl,_⟩:=h;rfl
 .obtain⟨p,m,rfl,m0,m1,⟨a,b,hp,a0,b0,b1⟩,q⟩:=h;refine⟨_,ah (bx (aN zO (au az (pv 0) aq (fun _ _=>rfl)) aq (aM _))
    (ah (aP (i:=2) Eh.nd rfl (Or.inl rfl) (bo fY (au az (pv 0) aq (fun _ _=>rfl)) (pv 1)))
    (ah (iO (bo zK (au az (pv 0) aq (fun _ _=>rfl)) (pv 1)) (nr (pv 0) aq ir))
    (al (aF (pv 2))))) aR)
   (ah (iO (bo fY (bo dB (bo yq (au az (pv 0) aq (fun _ _=>rfl)) aq) aq) aq) (nr (pv 0) aq ir))
   (al (aF (bo fY (bo zK (bo fY (bo yq (au az (pv 0) aq (fun _ _=>rfl)) (au az (pv 0) aq (fun _ _=>rfl))) aq) aq) (pv 1))))),?_⟩
  have g0:ft [V.int a,V.int b] 0=some (.int a):=bf (j:=0) rfl;have g1:ft [V.int a,V.int b] 1=some (.int b):=bf (j:=1) rfl;refine⟨_,rfl,p,_,_,_,rfl,rfl,aU.of hp,g0,_,_,rfl,rfl,_,rfl,?_⟩;refine bL (fun e=>?_) (fun e=>?_)
  .refine⟨_,rfl,p,_,_,_,rfl,rfl,aU.of hp,g0,_,rfl,_,_,rfl,rfl,m0,?_⟩;refine⟨_,rfl,p,_,_,_,rfl,rfl,aU.of hp,g0,_,rfl,_,_,rfl,rfl,⟨m0,by lia⟩,?_⟩;refine⟨_,rfl,p,_,0,0,rfl,rfl,hp,j7 (j:=0) (by show 0<2;decide),?_⟩;refine⟨_,rfl,?_⟩;exact q _ _ _ (l5 _ (by lia)) (l0 _ m0) (Int.ediv_nonneg a0 (by lia)) b0 b1
  .refine⟨_,rfl,p,_,_,_,rfl,rfl,aU.of hp,g1,_,_,rfl,rfl,.inl ⟨by lia,by lia⟩,_,_,rfl,rfl,_,_,rfl,rfl,(by show (0:Int)<2147483647;decide),?_⟩;refine⟨_,rfl,p,_,1,1,rfl,rfl,hp,j7 (j:=1) (by show 1<2;decide),?_⟩;have c0:0<=(b*39373+20011) % 2147483647:=l5 _ (by decide);have c1:(b*39373+20011) % 2147483647<2147483647:=l0 _ (by decide);refine⟨_,rfl,p,_,_,_,rfl,rfl,aU.of af,bf (j:=1) rfl,_,rfl,p,_,_,_,rfl,rfl,aU.of af,bf (j:=1) rfl,_,_,rfl,rfl,.inl ⟨by lia,by lia⟩,_,_,rfl,rfl,(by show (0:Int)<2147483563;decide),_,_,rfl,rfl,⟨by decide,by decide⟩,_,rfl,_,_,rfl,rfl,m0,?_⟩;exact q _ _ _ (l5 _ (by lia)) (l0 _ m0) a0 c0 c1
theorem zc:aG ["_law_pot_here","_law_some","_law_found","_law_one"] ["_law_pot_here","_law_some"] (am Ee):=⟨rfl,rfl,rfl,by decide +kernel,rfl,by decide +kernel,by decide +kernel⟩
def ze(K:PySem.W.Frag):Sp:=fun vs H Q _=>∃ (p l:Addr) (xs:List V),vs=[.ref p,.ref l]/\bj H p/\H l=some (.lst xs)/\l≠p/\xs.length<4096/\∀ (r:Addr) (ys:List V) (H':Hp),ys.Perm xs->a_ p H H'->bj H' p->H r=none->H' r=some (.lst ys)->Q (.ref r) H'
theorem Hm{f:Addr}{fd:FuncData}(F:fQ K "_law_shuffled" "_law_shuffled" Ee f fd)(B:Bl mg)(T:b_ P w K mg base aZ 1 "_law_take" ["_law_pot_here","_law_many"] lT):br P w K mg base aZ 2 f fd ["_law_pot_here","_law_some"] (ze K):=by
 refine F.ok zc (fun vs H Q E h=>?_) (fun dL A outer s H vs Q E hr h=>?_)
 .obtain⟨p,l,xs,rfl,_⟩:=h;rfl
 .obtain⟨p,l,xs,rfl,hp,hl,hlp,hz,q⟩:=h;refine⟨_,ah (aP (i:=2) zc.nd rfl (Or.inl rfl) (dX ag))
   (ah (dM eM rfl (cf (pv 1)) (aB (i:=3) zc.nd rfl (Or.inl rfl))
    (al (cP (iy ij PySem.F.slot_list_insert PySem.F.type_list_insert BF (pv 2) (aa (aD T hr aQ (aa (pv 0) (aa (bo dB (aA aH (by rfl) B.len cG (aa (pv 2) ag)) aq) ag))) (aa (pv 3) ag))))))
   (al (aF (pv 2)))),?_⟩
  refine⟨by show 0<=sizeLine;decide,fun D hD=>?_⟩;have nl:l≠D:=ai hl hD;have np:p≠D:=by obtain⟨a,b,e,_⟩:=hp;exact ai e hD
  refine⟨_,rfl,l,rfl,⟨_,aU.of (by rw[ak nl];exact hl)⟩,jG (K:=K) (a:=l) (xs:=xs) (fun i σ H2=>(∃v,σ=[some (.ref p),some (.ref l),some (.ref D),v])/\a_ p H H2/\bj H2 p/\∃ys,H2 D=some (.lst ys)/\ys.Perm (xs.take i)) ⟨⟨_,rfl⟩,a_.of (aj hD),hp.same (aj hD),[],af,by simp⟩ (fun i σ H2 _ ⟨_,sm,_⟩=>aU.of (sm _ _ hl hlp)) ?_ ?_⟩
  .rintro i x σ H2 hx ⟨⟨v,rfl⟩,sm,p2,ys,lX,pm⟩;have hi:=(cK.mp hx).1;have hly:ys.length=i:=by rw[pm.length_eq,jc];lia
   refine⟨_,rfl,.inl ⟨rfl,_,aU.of lX⟩,_,rfl,_,rfl,D,ys,rfl,.inl (aU.of lX),_,_,rfl,rfl,p,_,rfl,by lia,by lia,p2,fun d a b d0 d1 a0 b0 b1=>?_⟩;refine⟨_,rfl,D,ys,d,d.toNat,x,rfl,rfl,by lia,by rw[ak np.symm];exact lX,by lia,by lia,?_⟩;refine⟨⟨_,rfl⟩,fun b' o e h=>?_,⟨a,b,by rw[ak np,af],a0,b0,b1⟩,_,af,?_⟩
   .rw[ak (ai e hD),ak h];exact sm _ _ e h
   .have e1:xs.take (i+1)=xs.take i++[x]:=by rw[io,hx];rfl
    rw[e1];have e2:(ys.take d.toNat++[x]++ys.drop d.toNat).Perm (ys++[x]):=by
     have h1:(ys.take d.toNat++[x]++ys.drop d.toNat).Perm (ys.take d.toNat++(ys.drop d.toNat++[x])):=by
      rw[i_];exact List.Perm.append_left _ pq
     rw[<-i_,xG] at h1;exact h1
    exact e2.trans (pm.append_right [x])
  .rintro σ H2 ⟨⟨v,rfl⟩,sm,p2,ys,lX,pm⟩;rw[gy] at pm;exact⟨_,rfl,q D ys H2 pm sm p2 hD lX⟩
end
abbrev NV(js:List Nat):List V:=js.map fun (j:Nat)=>V.int j
def inn(g:Nat->List Nat)(n x:Nat):Nat:=(List.range n).countP fun o=>decide (x∈g o)
structure gc(n:Nat)(g:Nat->List Nat):Prop where
 nd:∀h,h<n->(g h).Nodup
 lt:∀h,h<n->∀o∈g h,o<n/\o≠h
 le:∀h,h<n->(g h).length<=8
 Jt:∀h,h<n->(g h).length=inn g n h
def Se(row:List Nat):List Nat:=row.getLast?.toList++row.dropLast
theorem Ei{row:List Nat}{k:Nat}(h:k<row.length):ft (NV row) ((k:Int)-1)=some (.int ((Se row).getD k 0:Nat)):=by
 rcases pI row with e|⟨l,x,e⟩
 .subst e;exact absurd h (by simp)
 .subst e;rw[pJ] at h |-;have er:Se (l++[x])=x::l:=by unfold Se;rw[List.getLast?_concat,List.dropLast_concat];rfl
  rw[er];cases k with
  |zero=>
   have e2:NV (l++[x])=NV l++[.int x]:=by unfold NV;rw[cD];rfl
   rw[e2];exact mf _ _
  |succ k=>
   have hk:k<l.length:=by rw[cr] at h;simp at h;lia
   have e2:(((k+1:Nat):Int)-1)=(k:Int):=by lia
   rw[e2];refine bf ?_;rw[bn,i8 hk,xN,bO,cm hk];rfl
def eE(A:Nat->Addr)(ks:List Nat):List (dq×V):=ks.map fun (h:Nat)=>(Sum.inl (h:Int),V.ref (A h))
abbrev eU(as:List Addr)(ks:List Nat):List (dq×V):=eE (fun h=>as.getD h 0) ks
theorem gx{A:Nat->Addr}{h:Nat}:∀ {ks:List Nat},iz (eE A ks) (.inl (h:Int))=if h∈ks then some (.ref (A h)) else none
 |[]=>rfl
 |y::ys=>by
  unfold eE;rw[cW];by_cases e:y=h
  .subst e;rw[jL rfl,ao b9]
  .have e2:¬ ((Sum.inl (y:Int):dq)=Sum.inl (h:Int)):=fun z=>e (dR (pW z));rw[jM e2];have ih:=gx (A:=A) (h:=h) (ks:=ys);unfold eE at ih;rw[ih];by_cases m:h∈ys
   .rw[ao m,ao (cC _ m)]
   .rw[ap m,ap (fun z=>(bK.mp z).elim (fun q=>e q.symm) m)]
theorem cp{A:Nat->Addr}{ks:List Nat}:(eE A ks).length=ks.length:=aO _
theorem mD{A:Nat->Addr}{ks:List Nat}{i:Nat}{k:dq}{v:V}(h:(eE A ks)[i]?=some (k,v)):∃x,ks[i]?=some x/\k=.inl ((x:Nat):Int):=by
 unfold eE at h;rw[bn] at h;obtain⟨x,hx,e⟩:=pj.mp h;exact⟨x,hx,(congrArg Prod.fst e).symm⟩
theorem jR{A B:Nat->Addr}{ks:List Nat}(h:∀x∈ks,A x=B x):eE A ks=eE B ks:=i9 fun x hx=>by rw[h x hx]
theorem sO{A:Nat->Addr}:∀ {ks:List Nat},ks.Nodup->iU [] (eE A ks)=eE A ks:=by
 intro ks;rcases pI ks with e|⟨l,x,e⟩
 .intro _;rw[e];rfl
 .rw[pJ] at e;subst e;intro nd;have e:eE A (l++[x])=eE A l++[(.inl (x:Int),.ref (A x))]:=by unfold eE;rw[cD];rfl
  obtain⟨n1,n2,n3⟩:=jr.mp nd;have ih:=sO (A:=A) n1;rw[e];unfold iU at ih |-;rw[List.foldl_append,ih];exact mq _ (by rw[gx,ap (fun z=>n3 x z x (bS.mpr rfl) rfl)])
 termination_by ks=>ks.length
 decreasing_by simp_all
def uY(ks:List Nat)(n:Nat):Prop:=ks.Perm (List.range n)
theorem uY.len{ks:List Nat}{n:Nat}(h:uY ks n):ks.length=n:=by rw[List.Perm.length_eq h,fK]
theorem uY.mem{ks:List Nat}{n x:Nat}(h:uY ks n):x∈ks↔x<n:=by rw[List.Perm.mem_iff h,bN]
theorem uY.nd{ks:List Nat}{n:Nat}(h:uY ks n):ks.Nodup:=(List.Perm.nodup_iff h).mpr kN
theorem uY.at_{ks:List Nat}{n i x:Nat}(h:uY ks n)(e:ks[i]?=some x):i<n/\x<n/\ks.take (i+1)=ks.take i++[x]/\x∉ks.take i:=by
 obtain⟨hi,ex⟩:=cK.mp e;refine⟨by rw[<-h.len];exact hi,h.mem.mp (dP e),by rw[io,e];rfl,fun z=>?_⟩;obtain⟨j,hj,ej⟩:=Cz.mp z;have:=rN.mp (tj.mp h.nd) j i (by lia) hi (by lia);exact this (ej.trans ex.symm)
structure ii(H:Hp)(O:Addr)(as:List Addr)(n:Nat)(g:Nat->List Nat):Prop where
 dict:∃ks,uY ks n/\H O=some (.dK (eU as ks))
 rows:Holds H as n (fun h=>.lst (NV (g h)))
 inj:∀i j,i<n->j<n->as.getD i 0=as.getD j 0->i=j
structure rJ(H:Hp)(F:Addr)(A:Nat->Addr)(ks:List Nat)(g:Nat->List Nat):Prop where
 dict:H F=some (.dK (eE A ks))
 rows:∀h∈ks,H (A h)=some (.lst (NV (g h)))
 inj:∀i∈ks,∀j∈ks,A i=A j->i=j
theorem rJ.same{H H':Hp}{F:Addr}{A:Nat->Addr}{ks:List Nat}{g:Nat->List Nat}(p:rJ H F A ks g)(s:aE H H'):rJ H' F A ks g:=⟨s _ _ p.dict,fun h m=>s _ _ (p.rows h m),p.inj⟩
def jk(A:Nat->Addr)(x:Nat)(D:Addr):Nat->Addr:=fun y=>if y=x then D else A y
theorem rJ.push{H:Hp}{F D:Addr}{A:Nat->Addr}{ks:List Nat}{g:Nat->List Nat}{x:Nat}(p:rJ H F A ks g)(hx:x∉ks)(hD:H D=some (.lst (NV (g x))))(off:∀h∈ks,D≠A h):
  rJ (upd H F (.dK (fS (eE A ks) (.inl (x:Int)) (.ref D)))) F (jk A x D) (ks++[x]) g:=by
 have kE:jk A x D x=D:=by unfold jk;rw[ao rfl]
 have Nq:∀h∈ks,jk A x D h=A h:=fun h m=>by unfold jk;rw[ap (fun (z:h=x)=>hx (by rw[<-z];exact m))]
 have DF:D≠F:=cX hD p.dict (by intro z;cases z);refine⟨?_,fun h m=>?_,fun i mi j mj e=>?_⟩
 .rw[af,mq _ (by rw[gx,ap hx])];have:eE (jk A x D) (ks++[x])=eE (jk A x D) ks++[(.inl (x:Int),.ref (jk A x D x))]:=by unfold eE;rw[cD];rfl
  rw[this,kE,jR Nq]
 .rcases bp.mp m with m|m
  .rw[Nq h m,ak (cX (p.rows h m) p.dict (by intro z;cases z))];exact p.rows h m
  .rw[bS.mp m,kE,ak DF];exact hD
 .rcases bp.mp mi with mi|mi <;> rcases bp.mp mj with mj|mj
  .rw[Nq i mi,Nq j mj] at e;exact p.inj i mi j mj e
  .rw[Nq i mi,bS.mp mj,kE] at e;exact absurd e.symm (off i mi)
  .rw[Nq j mj,bS.mp mi,kE] at e;exact absurd e (off j mj)
  .rw[bS.mp mi,bS.mp mj]
theorem hJ{A:Nat->Addr}{n h:Nat}(hh:h<n):((List.range n).map A).getD h 0=A h:=by rw[bO,bn,k9 hh];rfl
theorem rJ.done{H:Hp}{F:Addr}{A:Nat->Addr}{ks:List Nat}{g:Nat->List Nat}{n:Nat}(p:rJ H F A ks g)(o:uY ks n):ii H F ((List.range n).map A) n g:=
 ⟨⟨ks,o,by rw[p.dict];exact congrArg (fun z=>some (HO.dK z)) (jR fun x hx=>(hJ (o.mem.mp hx)).symm)⟩,⟨by rw[aO,fK],fun h hh=>by rw[hJ hh];exact p.rows h (o.mem.mpr hh)⟩,fun i j hi hj e=>by rw[hJ hi,hJ hj] at e;exact p.inj i (o.mem.mpr hi) j (o.mem.mpr hj) e⟩
def U8(as:List Addr)(n:Nat)(p:Addr):Prop:=∀h,h<n->p≠as.getD h 0
theorem o_{x:Nat}:∀ {js:List Nat},C6 (.int x) (NV js)=decide (x∈js)
 |[]=>by simp[C6,NV]
 |j::js=>by
  have ih:=o_ (x:=x) (js:=js);unfold C6 NV at ih |-;rw[cW,jy,ih];have e:ux (.int (j:Int)) (.int (x:Int))=decide (x=j):=by
   show ((j:Int)==(x:Int))=_;by_cases z:x=j
   .subst z;simp
   .rw[cE z,kM];lia
  rw[e];by_cases z:x=j
  .subst z;simp
  .simp[z]
theorem qO{js:List Nat}:(NV js).all gh=true:=by
 rw[mW];intro v hv;obtain⟨j,_,rfl⟩:=bP.mp hv;rfl
theorem wJ{js:List Nat}{k:Nat}(h:k<js.length):ft (NV js) (k:Int)=some (.int (js.getD k 0:Nat)):=by
 refine bf ?_;rw[bn,cm h,bO,cm h];rfl
section
variable {P:Program} {w:World} {K:PySem.W.Frag} {mg:Str->Option Value} {base:Heap}
end
theorem sP{p c:Addr}{H H2:Hp}{o:HO}(s:a_ p H H2)(h:H c=none):a_ p H (upd H2 c o):=fun b u e n=>by rw[ak (ai e h)];exact s b u e n
inductive Rc (g:Nat->List Nat):Nat->Nat->Prop where
 |refl (a:Nat):Rc g a a
 |step {a b c:Nat} (h:Rc g a b) (t:c∈g b):Rc g a c
theorem Rc.trans{g:Nat->List Nat}{a b:Nat}(h:Rc g a b):∀ {c:Nat},Rc g b c->Rc g a c:=by
 intro c k;induction k with
 |refl=>exact h
 |step _ t ih=>exact .step ih t
def Lw(n:Nat)(g:Nat->List Nat):Prop:=∀a b,a<n->b<n->Rc g a b
theorem Lw.mono{n:Nat}{g g':Nat->List Nat}(h:Lw n g)(m:∀a,a<n->∀o∈g a,o∈g' a)(lt:∀a,a<n->∀o∈g a,o<n):Lw n g':=by
 intro a b ha hb;have h1:∀ {c:Nat},Rc g a c->Rc g' a c/\c<n:=by
  intro c k;induction k with
  |refl=>exact⟨.refl _,ha⟩
  |step _ t ih=>exact⟨.step ih.1 (m _ ih.2 _ t),lt _ ih.2 _ t⟩
 exact(h1 (h a b ha hb)).1
theorem Ej{row:List Nat}{k:Nat}(h:k<row.length):(Se row).getD k 0=row.getD (if k=0 then row.length-1 else k-1) 0:=by
 have:=Ei h;rcases Nat.eq_zero_or_pos k with e|e
 .subst e;have hl:ft (NV row) ((0:Nat)-1:Int)=some (.int (row.getD (row.length-1) 0:Nat)):=by
   rcases pI row with z|⟨l,x,z⟩
   .subst z;exact absurd h (by simp)
   .subst z;rw[pJ];have:NV (l++[x])=NV l++[.int (x:Nat)]:=by unfold NV;rw[cD];rfl
    rw[this];have e1:((0:Nat)-1:Int)=-1:=rfl;rw[e1,mf];have:(l++[x]).getD ((l++[x]).length-1) 0=x:=by
     rw[cr,pH,Nat.add_sub_cancel,bO,nZ (aL _)];simp
    rw[this]
  rw[hl] at this;have z:=V.int.inj (bR this);rw[ao rfl];lia
 .have e1:((k:Nat):Int)-1=((k-1:Nat):Int):=by lia
  rw[e1] at this;have h2:ft (NV row) ((k-1:Nat):Int)=some (.int (row.getD (k-1) 0:Nat)):=by
   refine bf ?_;rw[bn,bO,cm (by lia)];rfl
  rw[h2] at this;have z:=V.int.inj (bR this);rw[ap (by lia)];lia
theorem Ek{X:Cx}{es:List Expr}{t:TA}{i:Expr}{ti:TE}{p pos:Pos}(h:PA X es t)(hi:PE X i ti)(hs:zT i):PE X (.Subscript (.List es p) i pos) (l_ (Bd X.K) (N_ t) ti):=au az (dX h) hi hs
section
variable {P:Program} {w:World} {K:PySem.W.Frag} {mg:Str->Option Value} {base:Heap}
def El(H H':Hp)(O:Addr)(as:List Addr)(n:Nat)(g:Nat->List Nat):Prop:=gc n g/\2<=n/\n<=32/\ii H' O as n g/\H O=none/\(∀h,h<n->H (as.getD h 0)=none)/\Lw n g
end
def Hn:V->Nat
 |.int i=>i.toNat
 |_=>0
theorem Ho{ys:List V}{xs:List Nat}(h:ys.Perm (NV xs)):∃zs:List Nat,ys=NV zs/\zs.Perm xs:=by
 refine⟨ys.map Hn,?_,?_⟩
 .unfold NV;rw[fL];have:∀v∈ys,((fun (j:Nat)=>V.int j) ∘ Hn) v=v:=by
   intro v hv;obtain⟨j,_,rfl⟩:=bP.mp (h.mem_iff.mp hv);show V.int (((j:Int).toNat:Nat):Int)=_;rw[cM]
  conv=>lhs;rw[<-jB ys]
  exact i9 fun v hv=>(this v hv).symm
 .have:=h.map Hn;unfold NV at this;rw[fL] at this;have e:xs.map (Hn ∘ fun (j:Nat)=>V.int j)=xs:=by
   conv=>rhs;rw[<-jB xs]
   exact i9 fun j _=>cM j
  rw[e] at this;exact this
theorem bj.some{H:Hp}{p:Addr}(h:bj H p):H p≠none:=by obtain⟨a,b,e,_⟩:=h;rw[e];intro z;cases z
theorem mE{js:List Nat}{k:Nat}(h:k<js.length):js.getD k 0∈js:=by rw[bO,cm h];exact jd h
theorem pc{js:List Nat}{k:Nat}(h:k<js.length):js.getD k 0=js[k]:=by rw[bO,cm h];rfl
theorem Pn{js:List Nat}(nn:js.Nodup){x y:Nat}(hx:x<js.length)(hy:y<js.length)(e:js.getD x 0=js.getD y 0):x=y:=by
 rw[pc hx,pc hy] at e;have:=rN.mp (tj.mp nn);rcases Nat.lt_trichotomy x y with z|z|z
 .exact absurd e (this x y hx hy z)
 .exact z
 .exact absurd e.symm (this y x hy hx z)
section
variable {P:Program} {w:World} {K:PySem.W.Frag} {mg:Str->Option Value} {base:Heap}
end
abbrev Sf:Stmt:=gw 40
def B1(n:Nat)(g:Nat->List Nat)(h k:Nat):List Nat:=((List.range k).map fun s=>(h+(1+s)) % n).filter fun o=>decide (o∈g h)
def gr(n:Nat)(g:Nat->List Nat)(h:Nat):List Nat:=B1 n g h (n-1)
theorem wK{n:Nat}{g:Nat->List Nat}{h k:Nat}:B1 n g h (k+1)=B1 n g h k++(if (h+(1+k)) % n∈g h then [(h+(1+k)) % n] else []):=by
 unfold B1;rw[jx,cD,jq];congr 1;rw[cW,lw];by_cases e:(h+(1+k)) % n∈g h
 .rw[ao e,List.filter_cons_of_pos (by simpa using e),List.filter_nil]
 .rw[ap e,List.filter_cons_of_neg (by simpa using e),List.filter_nil]
theorem u7{n h s:Nat}(hh:h<n)(hs:s<n-1):(h+(1+s)) % n=if h+(1+s)<n then h+(1+s) else h+(1+s)-n:=by
 by_cases e:h+(1+s)<n
 .rw[ao e,jv e]
 .rw[ap e,Nat.mod_eq_sub_mod (by lia),jv (by lia)]
theorem gu{n:Nat}{g:Nat->List Nat}(G:gc n g){h:Nat}(hh:h<n):(gr n g h).Perm (g h):=by
 have nd:(gr n g h).Nodup:=by
  unfold gr B1;refine pA _ ?_;refine ip.mpr ?_;refine xB ?_ (kN (n:=n-1));intro a b ha hb O8 e;rw[u7 hh (bN.mp ha),u7 hh (bN.mp hb)] at e;have:=bN.mp ha;have:=bN.mp hb;split at e <;> split at e <;> lia
 refine(xv nd (G.nd h hh)).mpr fun o=>?_;unfold gr B1;rw[bX,eZ];refine⟨fun z=>z.2,fun z=>⟨bP.mpr ?_,z⟩⟩;obtain⟨o1,o2⟩:=G.lt h hh o z;by_cases e:h<o
 .refine⟨o-h-1,bN.mpr (by lia),?_⟩;rw[u7 hh (by lia),ao (by lia)];lia
 .refine⟨o+n-h-1,bN.mpr (by lia),?_⟩;rw[u7 hh (by lia),ap (by lia)];lia
theorem Ay{n:Nat}{g:Nat->List Nat}(G:gc n g):gc n (gr n g):=by
 refine⟨fun h hh=>(gu G hh).nodup_iff.mpr (G.nd h hh),fun h hh o ho=>G.lt h hh o ((gu G hh).mem_iff.mp ho),fun h hh=>by rw[(gu G hh).length_eq];exact G.le h hh,fun h hh=>?_⟩;rw[(gu G hh).length_eq,G.Jt h hh];unfold inn;refine List.countP_congr fun o ho=>?_;simp only[pN];exact(gu G (bN.mp ho)).mem_iff.symm
theorem U9:(["_law_step","_law_house","_law_many","_law_outs"]:List Str).Nodup:=by decide +kernel
section
variable {P:Program} {w:World} {K:PySem.W.Frag} {mg:Str->Option Value} {base:Heap}
theorem Hq:aG ["_law_outs","_law_many","_law_found","_law_house"] ["_law_outs"] (am Sf):=⟨rfl,rfl,rfl,by decide +kernel,rfl,by decide +kernel,by decide +kernel⟩
def Lx:Sp:=fun vs H Q _=>∃ (O:Addr) (as:List Addr) (n:Nat) (g:Nat->List Nat),vs=[.ref O]/\gc n g/\Lw n g/\2<=n/\n<=32/\ii H O as n g/\
 ∀ (O':Addr) (mQ:List Addr) (g':Nat->List Nat) (H':Hp),El H H' O' mQ n g'->g'=gr n g->a_ O H H'->H' O≠none->Q (.ref O') H'
theorem Pr{f:Addr}{fd:FuncData}(F:fQ K "_law_going_round" "_law_going_round" Sf f fd)(B:Bl mg):br P w K mg base aZ 1 f fd ["_law_outs"] Lx:=by
 refine F.ok Hq (fun vs H Q E h=>?_) (fun dL A outer s H vs Q E hr h=>?_)
 .obtain⟨O,as,n,g,rfl,_⟩:=h;rfl
 .obtain⟨O,as,n,g,rfl,G,gC,n2,FG,hO,q⟩:=h;have hu:(A.deeper (PyProof.Rows.envOfC "_law_going_round" (am Sf) s.heap.objs.size f dL)).units+1<cLine:=by have:=hr.un;lia
  refine'⟨_,ah (aP (i:=1) Hq.nd rfl (Or.inr rfl) (aA BC (by rfl) B.len cG (aa (pv 0) ag)))
   (ah (aP (i:=2) Hq.nd rfl (Or.inl rfl) wq)
   (ah (dM eM rfl (Ai (pv 0)) (aB (i:=3) Hq.nd rfl (Or.inr rfl)) (al (mr hu (pv 2) (pv 3) ?c rfl)))
   (al (aF (pv 2))))),?_⟩
  case c=>
   refine' cR (g:=bC 0) (tt:=md (l_ (RJ K false) (l_ (rI (fun _ j=>0<j) fun i j=>.int (i % j)) (l_ (Ci fun i j=>.int (i+j)) (bb 1) (bb 0)) (bb 2)) (ow (bb 3) (bb 1)))) (te:=l_ (rI (fun _ j=>0<j) fun i j=>.int (i % j)) (l_ (Ci fun i j=>.int (i+j)) (bb 1) (bb 0)) (bb 2)) (NB:=["_law_step","_law_house","_law_many","_law_outs"]) (src:=[none,some 3,some 1,some 0]) (cg (by kernel_rfl)) rfl
    (rT rfl B.range (aa aq (aa (pv 1) ag))) ?g ?t ?e
   case g=>exact fun cl C s₃ H₃ fp=>aB (i:=0) U9 rfl (Or.inl rfl) (Or.inr rfl)
   case t=>exact fun cl C s₃ H₃ fp=>fg (aN nz (bo fY (bo dB (pv 1) (pv 0)) (pv 2)) (bY hu (pv 3) (pv 1) (fun _ _=>rfl)) (by rfl))
   case e=>exact fun cl C s₃ H₃ fp=>bo fY (bo dB (pv 1) (pv 0)) (pv 2)
  obtain⟨ks,OK,hd⟩:=hO.dict;have kl:=OK.len;refine⟨_,rfl,O,_,rfl,hd,?_⟩;change bC 1 (V.int (((eU as ks).length:Nat):Int)) _ _ _;rw[cp,kl];intro F' hF;have Yb:O≠F':=ai hd hF;have Ps:=aj (o:=.dK []) hF _ _ hd;refine⟨_,rfl,O,_,rfl,Ps,fun o=>?_⟩;refine qy (fun i σ H3=>(∃v3,σ=[some (.ref O),some (.int n),some (.ref F'),v3])/\H3 O=some (.iF o (.dK (eU as ks)))/\a_ O H H3/\∃A,rJ H3 F' A (ks.take i) (gr n g)/\∀h∈ks.take i,H (A h)=none)
   ⟨⟨_,rfl⟩,af,fun b u e jn=>by rw[ak jn,ak (ai e hF)];exact e,fun _=>0,⟨by rw[ak Yb.symm,af];rfl,fun h m=>by simp at m,fun h m=>by simp at m⟩,fun h m=>by simp at m⟩ (fun i σ H3 _ ⟨_,z,_⟩=>z) ?_ ?_
  .rintro j k v σ H3 hk ⟨⟨v3,rfl⟩,hf,se,A,hB,fr⟩;obtain⟨i,xq,rfl⟩:=mD hk;obtain⟨hj,hi,tk,ni⟩:=OK.at_ xq;have Pu:Holds H3 as n (fun h=>.lst (NV (g h))):=hO.rows.mono fun j hj e=>se _ _ e (fun z=>by rw[z] at e;rw[hd] at e;cases e);change bC 3 (V.int (i:Int)) _ _ _;refine⟨_,rfl,1,n,rfl,⟨by decide,by decide,by lia,by lia⟩,fun D hD=>?_⟩;have Yc:((n:Int)-1).toNat=n-1:=by lia
   have U_:O≠D:=ai hf hD;have Yd:H D=none:=by
    cases z:H D with
    |none=>rfl
    |some u=>rw[se _ _ z U_.symm] at hD;cases hD
   refine lM (fun j ys σ H4=>(∃v,σ=[v,some (.int i),some (.int n),some (.ref O)])/\ys=NV (B1 n g i j)/\H4=upd H3 D (.lst ys)) ⟨⟨_,rfl⟩,rfl,rfl⟩ ?_ ?_
   .rintro j ys σ H4 Kt Kf hj ⟨⟨v,rfl⟩,rfl,rfl⟩ kt kf;rw[Yc] at hj;have Pw:Holds (upd H3 D (.lst (NV (B1 n g i j)))) as n (fun h=>.lst (NV (g h))):=Pu.mono fun x _ e=>aj hD _ _ e;have em:((i:Int)+(1+(j:Int))) % (n:Int)=(((i+(1+j)) % n:Nat):Int):=by
     rw[Int.natCast_emod];rfl
    have gt:iT (upd H3 D (.lst (NV (B1 n g i j)))) O (.int (i:Int)) (some (.ref (as.getD i 0))):=.inl ⟨eU as ks,.inl (i:Int),.inr ⟨o,by rw[ak U_];exact hf⟩,rfl,by rw[gx,ao (OK.mem.mpr hi)]⟩;refine⟨_,rfl,_,rfl,_,_,rfl,rfl,_,rfl,_,_,rfl,rfl,by lia,_,rfl,_,rfl,O,_,rfl,gt,as.getD i 0,NV (g i),rfl,.inl (aU.of (Pw.2 i hi)),rfl,qO,_,rfl,?_⟩;have ei:C6 (V.int (((i:Int)+(1+(j:Int))) % (n:Int))) (NV (g i))=decide ((i+(1+j)) % n∈g i):=by rw[em,o_]
    refine bL (fun e=>?_) (fun e=>?_)
    .have e':(i+(1+j)) % n∈g i:=by
      have e2:C6 (V.int (((i:Int)+(1+(j:Int))) % (n:Int))) (NV (g i))=true:=e;rw[ei] at e2;exact bU e2
     refine⟨_,rfl,_,rfl,_,_,rfl,rfl,_,rfl,_,_,rfl,rfl,by lia,kt _ _ _ af ?_ ⟨⟨_,rfl⟩,?_,?_⟩⟩
     .rw[aO];unfold B1;refine gg (n5 _ _) ?_;rw[aO,fK];exact bV (show j<32 by lia) (by decide)
     .rw[wK,ao e'];show _++[V.int (((i:Int)+(1+(j:Int))) % (n:Int))]=_;rw[em];unfold NV;rw[cD];rfl
     .rw[gY]
    .have e':¬ (i+(1+j)) % n∈g i:=by
      have e2:¬ C6 (V.int (((i:Int)+(1+(j:Int))) % (n:Int))) (NV (g i))=true:=e;rw[ei] at e2;simpa using e2
     refine kf _ _ ⟨⟨_,rfl⟩,?_,rfl⟩;rw[wK,ap e',mZ]
   .rintro ys σ H4 ⟨_,rfl,rfl⟩;rw[Yc];have off:∀h∈ks.take j,D≠A h:=fun h m=>(ai (hB.rows h m) hD).symm;have Nd:=hB.same (aj (o:=.lst (NV (B1 n g i (n-1)))) hD);have Sg:=Nd.push ni (D:=D) af off;have nFD:F'≠D:=ai hB.dict hD;refine⟨_,rfl,_,rfl,F',_,rfl,qm.k (k:=.inl (i:Int)) Nd.dict (by rw[cp,jc];exact bV (show min j ks.length<33 by lia) (by decide)),⟨_,rfl⟩,?_,?_,jk A i D,by rw[tk];exact Sg,?_⟩
    .rw[ak Yb,ak U_];exact hf
    .intro b u e jn;rw[ak (ai e hF),ak (ai e Yd)];exact se _ _ e jn
    .intro h hh;rw[tk] at hh;unfold jk;by_cases e:h=i
     .rw[ao e];exact Yd
     .rw[ap e];rcases bp.mp hh with m|m
      .exact fr h m
      .exact absurd (bS.mp m) e
  .rintro σ H3 ⟨⟨v3,rfl⟩,hf,se,A,hB,fr⟩;rw[cp,gy] at hB fr;exact⟨_,rfl,q F' _ (gr n g) H3 ⟨Ay G,n2,FG,hB.done OK,hF,fun h hh=>by rw[hJ hh];exact fr h (OK.mem.mpr hh),gC.mono (fun a ha o ho=>(gu G ha).mem_iff.mpr ho) fun a ha o ho=>(G.lt a ha o ho).1⟩ rfl se (by rw[hf];intro z;cases z)⟩
end
end vx
namespace L2
open PySem PySem.Spec PyProof.Rows
section
variable {X:Cx} {tg:Expr}
theorem sQ:eN X (.builtin "len") (fun xs H Q=>∃a kvs,xs=[V.ref a]/\(∃o,H a=some (.iF o (.dK kvs)))/\Q (.int kvs.length) H):=by
 intro ae s σ H xs us Q I r h;obtain⟨a,kvs,rfl,ha,q⟩:=h;obtain⟨u,rfl,ru⟩:=qc r;cases ru;exact Jq I (.inr ha) fun t s' I'=>⟨.int kvs.length,H,I',⟨t,rfl⟩,q⟩
def Ly(tl:TE):TI:=fun σ H R=>tl σ H fun x H1=>∃d kvs o,x=.ref d/\H1 d=some (.iF o (.dK kvs))/\R (KZ d o kvs) H1
theorem wL{l:Expr}{tl:TE}(hl:PE X l tl):PI X tg l (Ly tl):=by
 intro ae s σ H R I h;refine bZ (hl ae s σ H _ I h) fun v s1 ⟨x,H1,I1,r1,q1⟩=>?_;obtain⟨d,kvs,o,e,hd,q⟩:=q1;subst e;cases r1;obtain⟨ho,z,hS,vs,kv,o',es,ep,g1,g2,g3,g4,g5,g6⟩:=I1.bA d _ hd;rw[ho] at g1;cases g1;have hm:s1.heap.DictAt (bq X.prog X.w) d vs ep:=⟨o,es,ho,g2,g3,g4,g5,g6⟩
 refine wpAny_pyIter_dict hS hm ?_;refine⟨s1.heap.objs.size,[s1.heap.objs.size],_,_,_,rfl,I1.kept (t':=s1.toks) fun b o e=>cq _ e,sG d _ o kvs es ep g3,⟨_,cV _ rfl,rfl,by rw[kv.length];rfl⟩,fun b hb=>?_,q⟩;have e:b=s1.heap.objs.size:=by simpa using hb
 subst e;exact I1.vG (aL _) (I1.bA.fresh (aL _))
end
theorem B2{d D:Addr}{o:Obj}{kvs:List (dq×V)}{g:TG}{tt:TT}{te:TE}{fin:Hp->Prop}{σB:St}{H0:Hp}(Pv:Nat->List V->St->Hp->Prop)(h0:Pv 0 [] σB H0)(hl:∀i ys σ H,i<=kvs.length->Pv i ys σ H->H d=some (.iF o (.dK kvs)))(hs:∀i k v ys σ H (Kt:V->St->Hp->Prop) (Kf:St->Hp->Prop),kvs[i]?=some (k,v)->Pv i ys σ H->
   (∀v σ2 H4,H4 D=some (.lst ys)->ys.length<sizeLine->Pv (i+1) (ys++[v]) σ2 (upd H4 D (.lst (ys++[v])))->Kt v σ2 H4)->(∀σ2 H3,Pv (i+1) ys σ2 H3->Kf σ2 H3)->
   g (kV k) σ H fun σ2 H2=>tt σ2 H2 fun b H3=>if b=true then te σ2 H3 fun v H4=>Kt v σ2 H4 else Kf σ2 H3)(hd:∀ys σ H,Pv kvs.length ys σ H->fin H):gZ (KZ d o kvs) g tt te D fin σB H0:=by
 refine⟨fun i m σ H=>m=kvs.length-i/\i<=kvs.length/\∃ys,Pv i ys σ H,⟨kvs.length,by simp,df _,[],h0⟩,?_⟩;rintro i m σ H ⟨rfl,hi,ys,p⟩;have q:=hl i ys σ H hi p;by_cases et:i<kvs.length
 .refine .inr ⟨⟨q,et⟩,?_⟩;rintro x H' ⟨rfl,k,v,hk,rfl⟩;exact hs i k v ys σ _ (fun v σ2 H4=>∃ys,H4 D=some (.lst ys)/\ys.length<sizeLine/\∃m',m'<kvs.length-i/\m'=kvs.length-(i+1)/\i+1<=kvs.length/\∃oJ,Pv (i+1) oJ σ2 (upd H4 D (.lst (ys++[v]))))
   (fun σ2 H3=>∃m',m'<kvs.length-i/\m'=kvs.length-(i+1)/\i+1<=kvs.length/\∃oJ,Pv (i+1) oJ σ2 H3) hk p
   (fun v σ2 H4 z1 z2 z3=>⟨ys,z1,z2,_,by lia,rfl,et,_,z3⟩) (fun σ2 H3 z=>⟨_,by lia,rfl,et,_,z⟩)
 .have e:i=kvs.length:=by lia
  subst e;exact .inl ⟨⟨q,aL _⟩,hd ys σ H p⟩
end L2
namespace vx
open PySem L2
structure fm(H:Hp)(O:Addr)(as:List Addr)(n:Nat)(g:Nat->List Nat):Prop where
 dict:∃o ks,uY ks n/\H O=some (.iF o (.dK (eU as ks)))
 rows:Holds H as n (fun h=>.lst (NV (g h)))
 inj:∀i j,i<n->j<n->as.getD i 0=as.getD j 0->i=j
theorem fm.same{H H':Hp}{O:Addr}{as:List Addr}{n:Nat}{g:Nat->List Nat}(h:fm H O as n g)(s:aE H H'):fm H' O as n g:=⟨let ⟨o,ks,a,e⟩:=h.dict;⟨o,ks,a,s _ _ e⟩,h.rows.mono fun j _ e=>s _ _ e,h.inj⟩
theorem fm.gm{H H':Hp}{O p:Addr}{as:List Addr}{n:Nat}{g:Nat->List Nat}(h:fm H O as n g)(s:a_ p H H')(hp:bj H p)(f:U8 as n p):fm H' O as n g:=by
 obtain⟨a,b,e,_⟩:=hp;obtain⟨o,ks,a0,d⟩:=h.dict;exact⟨⟨o,ks,a0,s _ _ d (cX d e (by intro z;cases z))⟩,h.rows.mono fun j hj x=>s _ _ x (f j hj).symm,h.inj⟩
theorem fm.get{H:Hp}{O:Addr}{as:List Addr}{n:Nat}{g:Nat->List Nat}(h:fm H O as n g){x:Nat}(hx:x<n):iT H O (.int x) (some (.ref (as.getD x 0))):=
 let ⟨o,ks,a,d⟩:=h.dict
 .inl ⟨eU as ks,.inl (x:Int),.inr ⟨o,d⟩,rfl,by rw[gx,ao (a.mem.mpr hx)]⟩
abbrev Hr:Stmt:=gw 44
def jo:Option Nat->V
 |none=>.bH
 |some h=>.int h
abbrev SV(s:List (Option Nat)):List V:=s.map jo
abbrev HV(s:List Int):List V:=s.map V.int
def dZ(n:Nat)(g:Nat->List Nat)(s:List (Option Nat)):Prop:=(∀h,some h∈s->h<n)/\∀h,h<n->s.count (some h)<=(g h).length
theorem Hs{s:List (Option Nat)}:(SV s).all gh=true:=by
 rw[mW];intro v hv;obtain⟨j,_,rfl⟩:=bP.mp hv;cases j <;> rfl
theorem Ht{a b:Option Nat}(h:jo a=jo b):a=b:=by
 cases a <;> cases b
 .rfl
 .cases h
 .cases h
 .have:=V.int.inj h;congr 1;lia
theorem wM{h:Nat}:∀ {s:List (Option Nat)},(SV s).countP (fun z=>ux z (.int h))=s.count (some h)
 |[]=>rfl
 |x::s=>by
  have ih:=wM (h:=h) (s:=s);unfold SV at ih |-;rw[cW,mV,ih,List.count_cons];have e:ux (jo x) (.int (h:Int))=(x==some h):=by
   cases x with
   |none=>rfl
   |some y=>
    show ((y:Int)==(h:Int))=(some y==some h);rw[l6];simp;lia
  rw[e]
theorem Px{a b:Int}{c:Bool}:ft [V.int a,V.int b] (if c=true then 1 else 0)=some (V.int (if c=true then b else a)):=by cases c <;> rfl
theorem Py{a b w:Int}(h:0<=w):ft [V.int a,V.int b] (w % 2)=some (V.int (if w % 2=1 then b else a)):=by
 rcases(by lia:w % 2=0\/w % 2=1) with e|e <;> rw[e] <;> rfl
theorem Em{c:Prop}[Decidable c]{A:Prop}{C:St->Hp->Prop}{σ0:St}{H0:Hp}(G:St->Hp->Prop)(hC:∀σ H,G σ H->C σ H)(h1:c->(∀σ H,G σ H->C σ H)->A)(h2:¬ c->G σ0 H0):if c then A else C σ0 H0:=by
 by_cases h:c
 .rw[ao h];exact h1 h hC
 .rw[ap h];exact hC _ _ (h2 h)
theorem kW{A B:Prop}(h:A):if true=true then A else B:=by rw[ao rfl];exact h
theorem sR{A B:Prop}(h:B):if false=true then A else B:=by rw[ap (by decide)];exact h
theorem dZ.push{n:Nat}{g:Nat->List Nat}{s:List (Option Nat)}{x:Option Nat}(h:dZ n g s)(hx:∀y,x=some y->y<n/\s.count (some y)<(g y).length):dZ n g (s++[x]):=by
 refine⟨fun y hy=>?_,fun y hy=>?_⟩
 .rcases bp.mp hy with z|z
  .exact h.1 y z
  .exact(hx y (bS.mp z).symm).1
 .rw[List.count_append,List.count_singleton];by_cases e:x=some y
  .have:=(hx y e).2;rw[ao (by rw[e];simp)];lia
  .rw[ap (by simpa using e)];exact h.2 y hy
def Pz(n:Nat)(hs:List Int)(s:List (Option Nat)):Prop:=(∀h∈hs,0<=h/\h<n)/\∀i h,s.getD i none=some h->hs.getD i 0≠(h:Int)
section
variable {P:Program} {w:World} {K:PySem.W.Frag} {mg:Str->Option Value} {base:Heap}
theorem Eo{α:Type}{l:List α}{x d:α}{n j:Nat}(h:l.length=n):(l++[x]).getD j d=if j=n then x else l.getD j d:=by
 rw[bO,bO];by_cases c:j=n
 .rw[ao c,nZ (by lia),show j-l.length=0 by lia];rfl
 .rw[ap c];by_cases z:j<l.length
  .rw[i8 z]
  .rw[gU (by rw[cr];simp;lia),gU (by lia)]
theorem Hu{n x:Nat}{d:Int}(hx:x<n)(h0:0<=d)(h1:d<(n:Int)-1):((x:Int)+1+d) % (n:Int)≠(x:Int):=by
 by_cases c:(x:Int)+1+d<n
 .rw[tR (by lia) c];lia
 .rw[<-Int.sub_emod_right,tR (by lia) (by lia)];lia
theorem jS:aG ["_law_pot_here","_law_outs","_law_most","_law_many","_law_way","_law_first","_law_homes","_law_stand","_law_k","_law_start","_law_home"] ["_law_pot_here","_law_outs","_law_most"] (am Hr):=⟨rfl,rfl,rfl,by decide +kernel,rfl,by decide +kernel,by decide +kernel⟩
def Ep:Sp:=fun vs H Q _=>∃ (p O:Addr) (as:List Addr) (n:Nat) (g:Nat->List Nat),vs=[.ref p,.ref O,.int 16]/\bj H p/\fm H O as n g/\U8 as n p/\2<=n/\n<=32/\
 ∀ (t a b:Addr) (hs:List Int) (s:List (Option Nat)) (H':Hp),H' t=some (.tup [.ref a,.ref b])->H' a=some (.tup (HV hs))->H' b=some (.tup (SV s))->hs.length=s.length->s.length<=16->dZ n g s->Pz n hs s->a_ p H H'->bj H' p->Q (.ref t) H'
theorem Lz{f:Addr}{fd:FuncData}(F:fQ K "_law_letters" "_law_letters" Hr f fd)(B:Bl mg)(T:b_ P w K mg base aZ 1 "_law_take" ["_law_pot_here","_law_many"] lT):br P w K mg base aZ 2 f fd ["_law_pot_here","_law_outs","_law_most"] Ep:=by
 refine F.ok jS (fun vs H Q E h=>?_) (fun dL A outer s H vs Q E hr h=>?_)
 .obtain⟨p,O,as,n,g,rfl,_⟩:=h;rfl
 .obtain⟨p,O,as,n,g,rfl,hp,hO,Er,n2,FG,q⟩:=h;have hu:(A.deeper (PyProof.Rows.envOfC "_law_letters" (am Hr) s.heap.objs.size f dL)).units+1<cLine:=by have:=hr.un;lia
  refine'⟨_,ah (aP (i:=3) jS.nd rfl (Or.inl rfl) (aA sQ (by rfl) B.len cG (aa (pv 1) ag)))
   (ah (aP (i:=4) jS.nd rfl (Or.inl rfl) (aD T hr aQ (aa (pv 0) (aa aq ag))))
   (ah (aP (i:=5) jS.nd rfl (Or.inl rfl) (aD T hr aQ (aa (pv 0) (aa (pv 3) ag))))
   (ah (aP (i:=6) jS.nd rfl (Or.inl rfl) (dX ag))
   (ah (aP (i:=7) jS.nd rfl (Or.inl rfl) (dX ag))
   (ah (dM eM rfl (d_ rfl B.range (aa (aD T hr aQ (aa (pv 0) (aa (bo dB (pv 2) aq) ag))) ag)) (aB (i:=8) jS.nd rfl (Or.inl rfl))
    (ah (aP (i:=9) jS.nd rfl (Or.inl rfl) (bo fY (Ek (aa (bo dB (pv 5) (aD T hr aQ (aa (pv 0) (aa aq ag)))) (aa (aD T hr aQ (aa (pv 0) (aa (pv 3) ag))) ag)) (dg rX (by rfl) B.int pG (aa (cY qb (pv 4) aq (aM _)) ag)) (fun _ _=>rfl)) (pv 3)))
    (ah (aP (i:=10) jS.nd rfl (Or.inl rfl) (Ek (aa (pv 5) (aa (aD T hr aQ (aa (pv 0) (aa (pv 3) ag))) ag)) (dg rX (by rfl) B.int pG (aa (bo fY (pv 4) aq) ag)) (fun _ _=>rfl)))
    (ah (bx (aN eO (pv 10) (pv 9) (aM _)) (al (aP (i:=10) jS.nd rfl (Or.inl rfl) (bo fY (bo dB (bo dB (pv 10) aq) (aD T hr aQ (aa (pv 0) (aa (bo nt (pv 3) aq) ag)))) (pv 3)))) aR)
    (ah (bx (PW.pt (n9 (aN eO (aD T hr aQ (aa (pv 0) (aa aq ag))) aq (aM _)) (lG (aN eO (iy ij PySem.F.slot_list_count PySem.F.type_list_count DD (pv 7) (aa (pv 9) ag)) (aA aH (by rfl) B.len cG (aa (bY hu (pv 1) (pv 9) (fun _ _=>rfl)) ag)) (aM _)))))
     (al (aP (i:=9) jS.nd rfl (Or.inl rfl) ce)) aR)
    (ah (cP (iy ij kJ kI dh (pv 6) (aa (pv 10) ag)))
    (al (cP (iy ij kJ kI dh (pv 7) (aa (pv 9) ag))))))))))
   (al (aF (fZ (aa (dg fH (by rfl) B.tup pE (aa (pv 6) ag)) (aa (dg fH (by rfl) B.tup pE (aa (pv 7) ag)) ag)))))))))),?_⟩
  obtain⟨oo,ks,OK,hd⟩:=hO.dict;refine⟨_,rfl,O,_,rfl,⟨oo,hd⟩,?_⟩;change bC 3 (V.int (((eU as ks).length:Nat):Int)) _ _ _;rw[cp,OK.len];refine⟨_,rfl,p,4,rfl,by decide,by decide,hp,fun FH a b y0 y1 a0 b0 b1=>?_⟩;refine⟨_,rfl,_,rfl,p,n,rfl,by lia,by lia,bj.upd a0 b0 b1,fun first a2 b2 z0 z1 c0 c1 c2=>?_⟩;rw[gY];have wN:bj (upd H p (.lst [.int a2,.int b2])) p:=bj.upd c0 c1 c2;have Es:a_ p H (upd H p (.lst [.int a2,.int b2])):=a_.upd;refine⟨by show 0<=sizeLine;decide,fun Lh Va=>⟨by show 0<=sizeLine;decide,fun Ls Vb=>?_⟩⟩;have JB:Lh≠Ls:=ai af Vb;have Vc:(upd H p (.lst [.int a2,.int b2])) Ls=none:=(aj Va).free Vb;have Ye:H Lh=none:=Es.free wN.some Va;have Yf:H Ls=none:=Es.free wN.some Vc;have Yg:Lh≠p:=by rintro rfl;exact hp.some Ye
  have Yh:Ls≠p:=by rintro rfl;exact hp.some Yf
  have s3:=(aj (o:=.lst []) Va).trans (aj (o:=.lst []) Vb)
  let J:List Int->List (Option Nat)->Hp->Prop:=fun hs st Hc=>a_ p H Hc/\bj Hc p/\Hc Lh=some (.lst (HV hs))/\Hc Ls=some (.lst (SV st))
  have qP:∀hs st Hc H',J hs st Hc->a_ p Hc H'->bj H' p->J hs st H':=by
   rintro hs st Hc H' ⟨o1,o2,o3,o4⟩ se po;exact⟨o1.trans se,po,se _ _ o3 Yg,se _ _ o4 Yh⟩
  have wO:∀hs st Hc H',J hs st Hc->aE Hc H'->J hs st H':=fun hs st Hc H' i s=>qP hs st Hc H' i (a_.of s) (i.2.1.same s);have Vd:∀hs st Hc,J hs st Hc->fm Hc O as n g:=fun hs st Hc j=>hO.gm j.1 hp Er;have J0:J [] [] (upd (upd (upd H p (.lst [.int a2,.int b2])) Lh (.lst [])) Ls (.lst [])):=⟨Es.trans (a_.of s3),wN.same s3,by rw[ak JB];exact af,af⟩
  refine⟨_,rfl,_,rfl,_,_,rfl,rfl,p,_,rfl,by decide,by decide,J0.2.1,fun d a3 b3 d0 d1 k0 k1 k2=>⟨d,rfl,by lia,by lia,eW (n:=d.toNat) (lo:=0) (fun i σ H3=>(∃v8 v9 FI,σ=[some (.ref p),some (.ref O),some (.int 16),some (.int n),some (.int FH),some (.int first),some (.ref Lh),some (.ref Ls),v8,v9,FI])/\∃hs st,J hs st H3/\hs.length=i/\st.length=i/\dZ n g st/\Pz n hs st)
   ⟨⟨_,_,_,rfl⟩,[],[],qP _ _ _ _ J0 a_.upd (bj.upd k0 k1 k2),rfl,rfl,⟨fun h hh=>(nomatch hh),fun h hh=>by simp⟩,⟨fun h hh=>(nomatch hh),fun i h e=>by cases e⟩⟩ ?_ ?_⟩⟩
  .rintro i σ H3 hi ⟨⟨v8,v9,FI,rfl⟩,hs,st,J3,lh,ls,R,BH⟩;have Yi:i<17:=by
    have:d<17:=d1;lia
   refine⟨_,rfl,_,rfl,p,3,rfl,by decide,by decide,J3.2.1,fun d4 a4 b4 p4 q4 r4 s4 t4=>⟨_,_,rfl,rfl,_,rfl,_,rfl,p,n,rfl,by lia,by lia,bj.upd r4 s4 t4,fun d5 a5 b5 p5 q5 r5 s5 t5=>⟨by show 2<=sizeLine;decide,fun L1 UG=>?_⟩⟩⟩;have J5:=wO _ _ _ _ (qP _ _ _ _ (qP _ _ _ _ J3 a_.upd (bj.upd r4 s4 t4)) a_.upd (bj.upd r5 s5 t5)) (aj (o:=.lst [.int (first+d4),.int d5]) UG);refine⟨_,rfl,_,_,rfl,rfl,.inr ⟨_,rfl,L1,_,_,_,rfl,rfl,aU.of af,Px,_,rfl,_,_,rfl,rfl,by lia,?_⟩⟩;obtain⟨x,hx⟩:∃x:Nat,(x:Int)=(if (decide (FH<2))=true then d5 else first+d4) % (n:Int):=⟨((if (decide (FH<2))=true then d5 else first+d4) % (n:Int)).toNat,Int.toNat_of_nonneg (l5 _ (by lia))⟩
   have xn:x<n:=by
    have:=l0 (if (decide (FH<2))=true then d5 else first+d4) (show (0:Int)<n by lia);lia
   change bC 9 (V.int ((if (decide (FH<2))=true then d5 else first+d4) % (n:Int))) _ _ _;rw[<-hx];revert J5;generalize upd _ L1 _=H5;intro J5;refine⟨_,rfl,_,rfl,_,rfl,p,n,rfl,by lia,by lia,J5.2.1,fun d6 a6 b6 p6 q6 r6 s6 t6=>⟨by show 2<=sizeLine;decide,fun L2 Nr=>?_⟩⟩;have J6:=wO _ _ _ _ (qP _ _ _ _ J5 a_.upd (bj.upd r6 s6 t6)) (aj (o:=.lst [.int first,.int d6]) Nr);refine⟨_,rfl,_,_,rfl,rfl,by show (0:Int)<2;decide,.inl ⟨_,rfl,L2,_,_,_,rfl,rfl,aU.of af,Py y0,?_⟩⟩;change bC 10 (V.int (if FH % 2=1 then d6 else first)) _ _ _;have hb:0<=(if FH % 2=1 then d6 else first)/\(if FH % 2=1 then d6 else first)<n:=by split <;> lia
   revert hb;generalize (if FH % 2=1 then d6 else first)=home;intro hb;revert J6;generalize upd _ L2 _=H6;intro J6;refine⟨_,rfl,_,rfl,rfl,_,rfl,?_⟩;refine Em (fun σ Hc=>∃hm,σ=[some (.ref p),some (.ref O),some (.int 16),some (.int n),some (.int FH),some (.int first),some (.ref Lh),some (.ref Ls),some (.int (0+(i:Int))),some (.int x),some (.int hm)]/\((0<=hm/\hm<n)/\hm≠(x:Int))/\J hs st Hc) ?_ (fun e kc=>?_) (fun e=>⟨_,rfl,⟨hb,fun z=>e (by rw[z];exact bJ rfl)⟩,J6⟩)
   .rintro σ H7 ⟨hm,rfl,Yj,J7⟩;refine⟨_,rfl,p,9,rfl,by decide,by decide,J7.2.1,fun d8 a8 b8 p8 q8 r8 s8 t8=>⟨rfl,_,rfl,?_⟩⟩;have J8:=qP _ _ _ _ J7 a_.upd (bj.upd r8 s8 t8);have fin:∀ (y:Option Nat) (H9:Hp),J hs st H9->(∀z,y=some z->z<n/\st.count (some z)<(g z).length)->(∀z,y=some z->z=x)->J (hs++[hm]) (st++[y]) (upd (upd H9 Lh (.lst (HV hs++[.int hm]))) Ls (.lst (SV st++[jo y]))):=by
     rintro y H9 ⟨o1,o2,o3,o4⟩ _ _;refine⟨sP (sP o1 Ye) Yf,?_,?_,?_⟩
     .obtain⟨u,v,e,r⟩:=o2;exact⟨u,v,by rw[ak Yh.symm,ak Yg.symm];exact e,r⟩
     .rw[ak JB,af];unfold HV;rw[List.map_append];rfl
     .rw[af];unfold SV;rw[List.map_append];rfl
    have LC:∀ (y:Option Nat) (H9:Hp),J hs st H9->(∀z,y=some z->z<n/\st.count (some z)<(g z).length)->(∀z,y=some z->z=x)->∃hs' aT,J hs' aT (upd (upd H9 Lh (.lst (HV hs++[.int hm]))) Ls (.lst (SV st++[jo y])))/\hs'.length=i+1/\aT.length=i+1/\dZ n g aT/\Pz n hs' aT:=
     fun y H9 j9 hy Yk=>⟨_,_,fin y H9 j9 hy Yk,by rw[cr,lh];rfl,by rw[cr,ls];rfl,R.push hy,fun h hh=>by
      rcases bp.mp hh with z|z
      .exact BH.1 h z
      .rw[bS.mp z];exact Yj.1,fun j h e=>by
      rw[Eo ls] at e;rw[Eo lh];by_cases c:j=i
      .rw[ao c] at e |-;rw[Yk h e];exact Yj.2
      .rw[ap c] at e |-;exact BH.2 j h e⟩
    have Ve:(HV hs).length<sizeLine:=by rw[aO,lh];exact bV Yi (by decide)
    have Vf:(SV st).length<sizeLine:=by rw[aO,ls];exact bV Yi (by decide)
    refine bL (fun e=>?_) (fun e=>?_)
    .refine kW ?_;exact⟨_,rfl,.inl ⟨rfl,_,aU.of J8.2.2.1⟩,_,rfl,Lh,_,_,rfl,rfl,J8.2.2.1,Ve,_,rfl,.inl ⟨rfl,_,aU.of (by rw[ak JB.symm];exact J8.2.2.2)⟩,_,rfl,Ls,_,_,rfl,rfl,by rw[ak JB.symm];exact J8.2.2.2,Vf,⟨_,_,_,rfl⟩,LC none _ J8 (fun z hz=>by cases hz) (fun z hz=>by cases hz)⟩
    .have Yl:=Vd _ _ _ J8;refine⟨_,rfl,.inl ⟨rfl,_,aU.of J8.2.2.2⟩,_,rfl,Ls,_,_,rfl,rfl,J8.2.2.2,rfl,Hs,_,rfl,_,rfl,O,_,rfl,Yl.get xn,as.getD x 0,NV (g x),rfl,.inl (aU.of (Yl.rows.2 x xn)),rfl,_,rfl,?_⟩;refine bL (fun e2=>?_) (fun e2=>?_)
     .exact⟨_,rfl,.inl ⟨rfl,_,aU.of J8.2.2.1⟩,_,rfl,Lh,_,_,rfl,rfl,J8.2.2.1,Ve,_,rfl,.inl ⟨rfl,_,aU.of (by rw[ak JB.symm];exact J8.2.2.2)⟩,_,rfl,Ls,_,_,rfl,rfl,by rw[ak JB.symm];exact J8.2.2.2,Vf,⟨_,_,_,rfl⟩,LC none _ J8 (fun z hz=>by cases hz) (fun z hz=>by cases hz)⟩
     .refine⟨_,rfl,.inl ⟨rfl,_,aU.of J8.2.2.1⟩,_,rfl,Lh,_,_,rfl,rfl,J8.2.2.1,Ve,_,rfl,.inl ⟨rfl,_,aU.of (by rw[ak JB.symm];exact J8.2.2.2)⟩,_,rfl,Ls,_,_,rfl,rfl,by rw[ak JB.symm];exact J8.2.2.2,Vf,⟨_,_,_,rfl⟩,LC (some x) _ J8 (fun z hz=>?_) (fun z hz=>(bR hz).symm)⟩;cases hz;refine⟨xn,?_⟩;have:=R.2 x xn;refine Nat.lt_of_le_of_ne this fun z=>e2 (bJ ?_);rw[wM,z,aO]
   .refine⟨_,rfl,_,_,rfl,rfl,_,rfl,_,rfl,_,_,rfl,rfl,p,_,rfl,by lia,by lia,J6.2.1,fun d7 a7 b7 p7 q7 r7 s7 t7=>⟨_,_,rfl,rfl,_,rfl,_,_,rfl,rfl,by lia,kc _ _ ⟨_,rfl,⟨⟨l5 _ (by lia),l0 _ (by lia)⟩,?_⟩,qP _ _ _ _ J6 a_.upd (bj.upd r7 s7 t7)⟩⟩⟩;have e:home=(x:Int):=by have:=bU e;injection this
    rw[e];exact Hu xn p7 q7
  .rintro σ H3 ⟨⟨v8,v9,FI,rfl⟩,hs,st,J3,lh,ls,R,BH⟩;refine⟨_,rfl,Lh,_,rfl,.inl ⟨aU.of J3.2.2.1,fun a hA=>?_⟩⟩;have J4:=wO _ _ _ _ J3 (aj (o:=.tup (HV hs)) hA);refine⟨_,rfl,Ls,_,rfl,.inl ⟨aU.of J4.2.2.2,fun b hB=>?_⟩⟩;have J5:=wO _ _ _ _ J4 (aj (o:=.tup (SV st)) hB);refine⟨by show 2<=sizeLine;decide,fun t ht=>?_⟩;have J6:=wO _ _ _ _ J5 (aj (o:=.tup [.ref a,.ref b]) ht);have:d<17:=d1;exact q t a b hs st _ af (aj ht _ _ (aj hB _ _ af)) (aj ht _ _ af) (by lia) (by lia) R BH J6.1 J6.2.1
end
abbrev LF:Stmt:=gw 45
def JC(hs:List Int)(i:Nat):Option Nat->Option Nat
 |none=>none
 |some h=>if (h:Int)=hs.getD i 0 then none else some h
def Et(hs:List Int)(gs:List (Option Nat))(k:Nat):List (Option Nat):=(List.range k).map fun i=>JC hs i (gs.getD i none)
def bh(hs:List Int)(gs:List (Option Nat)):List (Option Nat):=Et hs gs gs.length
theorem Eu{hs:List Int}{gs:List (Option Nat)}{k:Nat}:Et hs gs (k+1)=Et hs gs k++[JC hs k (gs.getD k none)]:=by unfold Et;rw[jx,cD];rfl
theorem u8{hs:List Int}{gs:List (Option Nat)}{k:Nat}:(Et hs gs k).length=k:=by unfold Et;rw[aO,fK]
theorem zf{s:List (Option Nat)}{i:Nat}{x:V}(h:(SV s)[i]?=some x):i<s.length/\x=jo (s.getD i none):=by
 rw[bn] at h;cases e:s[i]? with
 |none=>rw[e] at h;cases h
 |some a=>
  rw[e] at h;refine⟨(cK.mp e).1,?_⟩;rw[bO,e];exact(bR h).symm
theorem dv{s:List (Option Nat)}{i:Nat}(h:i<s.length):ft (SV s) (i:Int)=some (jo (s.getD i none)):=by
 refine bf ?_;rw[bn,cm h,bO,cm h];rfl
theorem hU{s:List Int}{i:Nat}(h:i<s.length):ft (HV s) (i:Int)=some (.int (s.getD i 0)):=by
 refine bf ?_;rw[bn,cm h,bO,cm h];rfl
theorem Hv{s:List (Option Nat)}{o:Option Nat}:SV (s++[o])=SV s++[jo o]:=by unfold SV;rw[cD];rfl
theorem JD:(["_law_i","_law_house","_law_homes"]:List Str).Nodup:=by decide +kernel
section
variable {P:Program} {w:World} {K:PySem.W.Frag} {mg:Str->Option Value} {base:Heap}
theorem PB:aG ["_law_homes","_law_stand","_law_gone"] ["_law_homes","_law_stand","_law_gone"] (am LF):=⟨rfl,rfl,rfl,by decide +kernel,rfl,by decide +kernel,by decide +kernel⟩
def Ew:Sp:=fun vs H Q _=>∃ (a c:Addr) (y:V) (hs:List Int) (gs:List (Option Nat)),vs=[.ref a,y,.ref c]/\H a=some (.tup (HV hs))/\H c=some (.tup (SV gs))/\gs.length=hs.length/\gs.length<=16/\
 ∀ (r:Addr) (H':Hp),aE H H'->H' r=some (.tup (SV (bh hs gs)))->Q (.ref r) H'
theorem LH{f:Addr}{fd:FuncData}(F:fQ K "_law_behind" "_law_behind" LF f fd)(B:Bl mg):br P w K mg base aZ 1 f fd ["_law_homes","_law_stand","_law_gone"] Ew:=by
 refine F.ok PB (fun vs H Q E h=>?_) (fun dL A outer s H vs Q E hr h=>?_)
 .obtain⟨a,c,y,hs,gs,rfl,_⟩:=h;rfl
 .obtain⟨a,c,y,hs,gs,rfl,ha,hc,hl,LI,q⟩:=h;refine'⟨_,al (aF (dg fH (by rfl) B.tup pE (aa ?c ag))),?_⟩;case c=>
   refine' cR (g:=ui K 2 (fP (bC 0) (fP (bC 1) uh))) (te:=Xh (Xg (tB (NQ (bb 1))) (md (l_ RF (bb 1) (l_ (vQ K) (bb 2) (bb 0))))) (tC .bH) (bb 1)) (NB:=["_law_i","_law_house","_law_homes"]) (src:=[none,none,some 0]) (cg (by kernel_rfl)) rfl
    (qt rfl B.enum (aa (pv 2) ag)) ?g ?t ?e
   case g=>exact fun cl C s₃ H₃ fp=>fA (n:=2) rfl (a9 (aB (i:=0) JD rfl (Or.inl rfl) (Or.inr rfl)) (a9 (aB (i:=1) JD rfl (Or.inl rfl) (Or.inr rfl)) d9))
   case t=>exact fun cl C s₃ H₃ fp=>ff
   case e=>exact fun cl C s₃ H₃ fp=>vE (PW.pt (n9 (uf (Kb (pv 1))) (lG (aN eO (pv 1) (au aV (pv 2) (pv 0) (fun _ _=>rfl)) (aM _))))) ce (pv 1)
  refine⟨_,rfl,c,_,rfl,cx.of hc,fun D hD=>?_⟩;have fin:∀i ys H3 t o,ys=SV (Et hs gs i)->aE H H3->H3 D=some (.lst ys)->H3 t=none->i<gs.length->JC hs i (gs.getD i none)=o->
    (upd H3 t (.tup [.int (i:Int),jo (gs.getD i none)])) D=some (.lst ys)/\ys.length<sizeLine/\ys++[jo o]=SV (Et hs gs (i+1))/\aE H (upd (upd H3 t (.tup [.int (i:Int),jo (gs.getD i none)])) D (.lst (ys++[jo o])))/\(upd (upd H3 t (.tup [.int (i:Int),jo (gs.getD i none)])) D (.lst (ys++[jo o]))) D=some (.lst (ys++[jo o])):=by
   rintro i ys H3 t o rfl sm kD ht hi rfl;refine⟨aj ht _ _ kD,?_,?_,fun b u e=>?_,af⟩
   .rw[aO,u8];exact bV (show i<17 by lia) (by decide)
   .rw[Eu,Hv]
   .rw[ak (ai e hD)];exact aj ht _ _ (sm _ _ e)
  refine qu (K:=K) (a:=c) (xs:=SV gs) (fun i ys σ H3=>(∃u v,σ=[u,v,some (.ref a)])/\ys=SV (Et hs gs i)/\aE H H3/\H3 D=some (.lst ys)) ⟨⟨_,_,rfl⟩,rfl,aj hD,af⟩ (fun i ys σ H3 _ z=>cx.of (z.2.2.1 _ _ hc)) ?_ ?_
  .rintro i x t ys σ H3 Kt Kf hx ⟨⟨u,v,rfl⟩,Vg,sm,kD⟩ ht kt kf;obtain⟨hi,rfl⟩:=zf hx;refine⟨_,_,rfl,cx.of af,rfl,_,_,rfl,_,_,rfl,rfl,?_⟩;refine⟨_,rfl,_,rfl,?_⟩;cases ho:gs.getD i none with
   |none=>
    obtain⟨f1,f2,f3,f4,f5⟩:=fin i ys H3 t none Vg sm kD ht hi (by rw[ho];rfl);rw[ho] at f1 f4 f5;refine bL (fun e=>?_) (fun e=>absurd (bJ rfl) e);exact kW (kt _ _ _ f1 f2 ⟨⟨_,_,rfl⟩,f3,f4,f5⟩)
   |some h=>
    refine bL (fun e=>absurd (bU e) (by intro z;cases z)) (fun e=>?_);refine⟨_,rfl,_,rfl,_,rfl,a,_,_,_,rfl,rfl,cx.of (aj ht _ _ (sm _ _ ha)),hU (by lia),rfl,_,rfl,?_⟩;refine bL (fun e2=>?_) (fun e2=>?_)
    .have e3:(h:Int)=hs.getD i 0:=V.int.inj (bU e2);obtain⟨f1,f2,f3,f4,f5⟩:=fin i ys H3 t none Vg sm kD ht hi (by rw[ho];exact ao e3);rw[ho] at f1 f4 f5;exact kt _ _ _ f1 f2 ⟨⟨_,_,rfl⟩,f3,f4,f5⟩
    .have e3:¬ (h:Int)=hs.getD i 0:=fun z=>e2 (bJ (by show V.int (h:Int)=V.int (hs.getD i 0);rw[z]));obtain⟨f1,f2,f3,f4,f5⟩:=fin i ys H3 t (some h) Vg sm kD ht hi (by rw[ho];exact ap e3);rw[ho] at f1 f4 f5;exact⟨_,rfl,kt _ _ _ f1 f2 ⟨⟨_,_,rfl⟩,f3,f4,f5⟩⟩
  .rintro ys σ H3 ⟨_,rfl,sm,kD⟩;rw[show (SV gs).length=gs.length from aO _] at kD;exact⟨D,_,rfl,.inl ⟨aU.of kD,fun r hr=>q r _ (sm.trans (aj hr)) af⟩⟩
end
theorem sS:∀ {l m:List Nat},l.Nodup->(∀x∈l,x∈m)->l.length<=m.length
 |[],m,_,_=>df _
 |a::l,m,nd,sub=>by
  have ha:a∈m:=sub a b9;have ih:=sS (l:=l) (m:=m.erase a) (dQ.mp nd).2 fun x hx=>(xH (show x≠a from fun z=>(dQ.mp nd).1 (by rw[<-z];exact hx))).mpr (sub x (cC _ hx));rw[xz ha] at ih;have:=tD ha;rw[cw];lia
theorem wP{s:List (Option Nat)}{a:Option Nat}:s.count a=((List.range s.length).filter fun i=>s.getD i none==a).length:=by
 have e:(List.range s.length).map (fun i=>s.getD i none)=s:=by
  apply xU;intro i;rw[bn];by_cases hi:i<s.length
  .rw[k9 hi,cm hi];show some (s.getD i none)=_;rw[bO,cm hi];rfl
  .rw[gU (by rw[fK];lia),gU (by lia)];rfl
 conv=>lhs;rw[<-e]
 rw[List.count_eq_countP,List.countP_map,xu];rfl
structure cZ(g:Nat->List Nat)(s gs:List (Option Nat)):Prop where
 len:gs.length=s.length
 bH:∀i,s.getD i none=none->gs.getD i none=none
 tie:∀i h,s.getD i none=some h->∃o,gs.getD i none=some o/\o∈g h
 Sh:∀i j h o,s.getD i none=some h->s.getD j none=some h->gs.getD i none=some o->gs.getD j none=some o->i=j
theorem aS{s:List (Option Nat)}{i h:Nat}(e:s.getD i none=some h):i<s.length/\some h∈s:=by
 rw[bO] at e;cases z:s[i]? with
 |none=>rw[z] at e;cases e
 |some a=>
  rw[z] at e;have e':a=some h:=e;exact⟨(cK.mp z).1,e' ▸ dP z⟩
theorem zg{s:List (Option Nat)}{h:Nat}(e:some h∈s):∃i,i<s.length/\s.getD i none=some h:=by
 obtain⟨i,hi⟩:=List.getElem?_of_mem e;exact⟨i,(cK.mp hi).1,by rw[bO,hi];rfl⟩
theorem cZ.right{n:Nat}{g:Nat->List Nat}{s gs t:List (Option Nat)}(Hd:cZ g s gs)(G:gc n g)(R:dZ n g s)(hl:t.length=gs.length)(ht:∀i,t.getD i none=none\/t.getD i none=gs.getD i none):dZ n g t:=by
 have key:∀i x,t.getD i none=some x->∃h,s.getD i none=some h/\h<n/\x∈g h/\gs.getD i none=some x:=by
  intro i x e;have e2:gs.getD i none=some x:=by
   rcases ht i with z|z
   .rw[z] at e;cases e
   .rw[<-z];exact e
  cases es:s.getD i none with
  |none=>rw[Hd.bH i es] at e2;cases e2
  |some h=>
   obtain⟨o,o1,o2⟩:=Hd.tie i h es;rw[e2] at o1;cases o1;exact⟨h,rfl,R.1 h (aS es).2,o2,e2⟩
 refine⟨fun x hx=>?_,fun x hx=>?_⟩
 .obtain⟨i,_,e⟩:=zg hx;obtain⟨h,_,hn,ho,_⟩:=key i x e;exact(G.lt h hn x ho).1
 .rw[wP,G.Jt x hx];unfold inn;rw[xu,<-aO (f:=fun i=>(s.getD i none).getD 0)];refine sS ?_ fun y hy=>?_
  .refine ip.mpr ?_;refine xB ?_ (pA _ (kN (n:=t.length)));intro i j hi hj GK e;have ei:=eq_of_beq (bX.mp hi).2;have ej:=eq_of_beq (bX.mp hj).2;obtain⟨h1,a1,_,_,b1⟩:=key i x ei;obtain⟨h2,a2,_,_,b2⟩:=key j x ej;have e':(s.getD i none).getD 0=(s.getD j none).getD 0:=e;rw[a1,a2] at e';have e'':h1=h2:=e';subst e'';exact GK (Hd.Sh i j h1 x a1 a2 b1 b2)
  .obtain⟨i,hi,rfl⟩:=bP.mp hy;obtain⟨h,a,hn,ho,_⟩:=key i x (eq_of_beq (bX.mp hi).2);refine bX.mpr ⟨?_,?_⟩
   .rw[a];exact bN.mpr hn
   .rw[a];exact bJ ho
theorem JE{hs:List Int}{gs:List (Option Nat)}(i:Nat):(bh hs gs).getD i none=none\/(bh hs gs).getD i none=gs.getD i none:=by
 by_cases hi:i<gs.length
 .have e:(bh hs gs).getD i none=JC hs i (gs.getD i none):=by
   unfold bh Et;rw[bO,bn,k9 hi];rfl
  rw[e];cases gs.getD i none with
  |none=>exact .inl rfl
  |some h=>
   unfold JC;dsimp only;by_cases z:(h:Int)=hs.getD i 0
   .rw[ao z];exact .inl rfl
   .rw[ap z];exact .inr rfl
 .left;rw[bO,gU (by unfold bh;rw[u8];lia)];rfl
theorem u9{hs:List Int}{gs:List (Option Nat)}:(bh hs gs).length=gs.length:=u8
def kF(p:Nat×Nat):List dq:=[.inl (p.1:Int),.inl (p.2:Int)]
def B3(ps:List (Nat×Nat)):List (List dq×V):=ps.map fun p=>(kF p,V.bl true)
theorem Ey{p q:Nat×Nat}(h:kF p=kF q):p=q:=by
 obtain⟨a,b⟩:=p;obtain⟨c,d⟩:=q;unfold kF at h;have h1:=(yh h).1;have h2:=(yh (yh h).2).1;have e1:=pW h1;have e2:=pW h2;dsimp only at e1 e2;congr 1 <;> lia
theorem km{p:Nat×Nat}:∀ {ps:List (Nat×Nat)},(iz (B3 ps) (kF p)).isSome=decide (p∈ps)
 |[]=>by simp[B3,iz]
 |q::ps=>by
  have ih:=km (p:=p) (ps:=ps);unfold B3 iz at ih |-;rw[cW,lj];by_cases e:q=p
  .subst e;simp
  .have:(decide (kF q=kF p))=false:=cE fun z=>e (Ey z);simp only[this];rw[ih];have e':¬ p=q:=fun z=>e z.symm;simp[e']
theorem Ez{p:Nat×Nat}{ps:List (Nat×Nat)}(h:p∉ps):iz (B3 ps) (kF p)=none:=by
 have:=km (p:=p) (ps:=ps);rw[cE h] at this;cases e:iz (B3 ps) (kF p) with
 |none=>rfl
 |some v=>rw[e] at this;cases this
theorem EA{p:Nat×Nat}{ps:List (Nat×Nat)}:B3 (ps++[p])=B3 ps++[(kF p,V.bl true)]:=by unfold B3;rw[cD];rfl
theorem EB{m:Nat}:(List.replicate m [V.bH]).flatten=SV (List.replicate m none):=by
 induction m with
 |zero=>rfl
 |succ m ih=>
  rw[pB,pO,ih,pB];rfl
def EC(s:List (Option Nat))(k:Nat):List Nat:=(List.range k).filter fun i=>(s.getD i none).isSome
theorem Hw{s:List (Option Nat)}{k:Nat}:(EC s k).length<=k:=by
 unfold EC;refine bB (n5 _ _) ?_;rw[fK];exact aL _
def gf(s gl:List (Option Nat))(pre:List Nat):List (Nat×Nat):=pre.map fun i=>((s.getD i none).getD 0,(gl.getD i none).getD 0)
structure Co(g:Nat->List Nat)(s gl:List (Option Nat))(pre:List Nat):Prop where
 len:gl.length=s.length
 out:∀i,i∉pre->gl.getD i none=none
 inn:∀i∈pre,∃h o,s.getD i none=some h/\gl.getD i none=some o/\o∈g h
 nd:(gf s gl pre).Nodup
theorem j6{n:Nat}{g:Nat->List Nat}{s gl:List (Option Nat)}{pre:List Nat}{i h:Nat}(M:Co g s gl pre)(np:(pre++[i]).Nodup)(R:dZ n g s)(G:gc n g)(hs:s.getD i none=some h):0<((g h).filter fun o=>decide ((h,o)∉gf s gl pre)).length:=by
 refine xQ fun z=>?_;have hn:h<n:=R.1 h (aS hs).2;have all:∀o∈g h,(h,o)∈gf s gl pre:=by
  intro o ho;by_cases e:(h,o)∈gf s gl pre
  .exact e
  .have:o∈(g h).filter fun o=>decide ((h,o)∉gf s gl pre):=bX.mpr ⟨ho,bJ e⟩;rw[Ct z] at this;cases this
 have h1:(g h).length<=((gf s gl pre).filter fun p=>p.1==h).length:=by
  rw[<-aO (f:=fun p:Nat×Nat=>p.2)];refine sS (G.nd h hn) fun o ho=>bP.mpr ⟨(h,o),bX.mpr ⟨all o ho,by simp⟩,rfl⟩
 have h2:((gf s gl pre).filter fun p=>p.1==h).length=(pre.filter fun i=>(s.getD i none).getD 0==h).length:=by
  unfold gf;rw[xt,aO];rfl
 have h3:(i::pre.filter fun i=>(s.getD i none).getD 0==h).length<=s.count (some h):=by
  rw[wP];obtain⟨n1,n2,n3⟩:=jr.mp np;refine sS (dQ.mpr ⟨fun z=>n3 i (bX.mp z).1 i (bS.mpr rfl) rfl,pA _ n1⟩) fun x hx=>?_;rcases bK.mp hx with rfl|hx
  .exact bX.mpr ⟨bN.mpr (aS hs).1,by rw[hs];simp⟩
  .obtain⟨p1,p2⟩:=bX.mp hx;obtain⟨h',o,a,_,_⟩:=M.inn x p1;rw[a] at p2;have p3:h'=h:=eq_of_beq p2;subst p3;exact bX.mpr ⟨bN.mpr (aS a).1,by rw[a];simp⟩
 rw[cw] at h3;have:=R.2 h hn;lia
theorem dE{gl:List (Option Nat)}{i j:Nat}{x:Option Nat}(h:i<gl.length):(gl.set i x).getD j none=if j=i then x else gl.getD j none:=by
 rw[bO,bO,List.getElem?_set];by_cases e:i=j
 .subst e;rw[ao rfl,ao h,ao rfl];rfl
 .rw[ap e,ap (fun z=>e z.symm)]
theorem Hy{s gl:List (Option Nat)}{pre:List Nat}{i:Nat}{x:Option Nat}(h:i<gl.length)(hp:i∉pre):gf s (gl.set i x) pre=gf s gl pre:=by
 unfold gf;refine i9 fun j hj=>?_;have Vh:j≠i:=by rintro rfl;exact hp hj
 rw[dE h,ap Vh]
theorem Co.step{g:Nat->List Nat}{s gl:List (Option Nat)}{pre:List Nat}{i h o:Nat}(M:Co g s gl pre)(hp:i∉pre)(hs:s.getD i none=some h)(ho:o∈g h)(hf:(h,o)∉gf s gl pre):Co g s (gl.set i (some o)) (pre++[i])/\gf s (gl.set i (some o)) (pre++[i])=gf s gl pre++[(h,o)]:=by
 have hi:i<gl.length:=by rw[M.len];exact(aS hs).1
 have e:gf s (gl.set i (some o)) (pre++[i])=gf s gl pre++[(h,o)]:=by
  have:gf s (gl.set i (some o)) (pre++[i])=gf s (gl.set i (some o)) pre++gf s (gl.set i (some o)) [i]:=by unfold gf;rw[cD]
  rw[this,Hy hi hp];congr 1;unfold gf;rw[cW,lw,dE hi,ao rfl,hs];rfl
 refine⟨⟨by rw[lf];exact M.len,fun j hj=>?_,fun j hj=>?_,?_⟩,e⟩
 .rw[dE hi,ap (fun z=>hj (bp.mpr (.inr (bS.mpr z))))];exact M.out j (fun z=>hj (bp.mpr (.inl z)))
 .rw[dE hi];rcases bp.mp hj with z|z
  .have Vh:j≠i:=by rintro rfl;exact hp z
   rw[ap Vh];exact M.inn j z
  .rw[ao (bS.mp z),bS.mp z];exact⟨h,o,hs,rfl,ho⟩
 .rw[e];exact jr.mpr ⟨M.nd,dQ.mpr ⟨(fun z=>nomatch z),jf⟩,fun u hu v hv z=>hf (by rw[bS] at hv;rw[<-hv,<-z];exact hu)⟩
theorem Co.done{g:Nat->List Nat}{s gl:List (Option Nat)}{pre:List Nat}(M:Co g s gl pre)(hp:pre.Perm (EC s s.length)):cZ g s gl:=by
 have mem:∀i h,s.getD i none=some h->i∈pre:=fun i h e=>hp.mem_iff.mpr (bX.mpr ⟨bN.mpr (aS e).1,by rw[e];rfl⟩);refine⟨M.len,fun i e=>?_,fun i h e=>?_,fun i j h o a b c d=>?_⟩
 .refine M.out i fun z=>?_;obtain⟨h,_,y,_⟩:=M.inn i z;rw[e] at y;cases y
 .obtain⟨h',o,a,b,c⟩:=M.inn i (mem i h e);rw[e] at a;cases a;exact⟨o,b,c⟩
 .have n1:=M.nd;unfold gf at n1;by_cases z:i=j
  .exact z
  .have hn:=ip.mp n1;have hi:=mem i h a;have hj:=mem j h b;obtain⟨x,hx,ex⟩:=mS.mp hi;obtain⟨y,hy,ey⟩:=mS.mp hj;have hq:=rN.mp hn;rcases Nat.lt_trichotomy x y with l|l|l
   .refine absurd ?_ (hq x y hx hy l);rw[ex,ey,a,b,c,d]
   .subst l;rw[ex] at ey;exact ey
   .refine absurd ?_ (hq y x hy hx l);rw[ex,ey,a,b,c,d]
theorem Co.nil{g:Nat->List Nat}{s:List (Option Nat)}:Co g s (List.replicate s.length none) []:=by
 refine⟨pr,fun i _=>?_,fun i hi=>(nomatch hi),jf⟩;rw[bO,xC];split <;> rfl
section
variable {P:Program} {w:World} {K:PySem.W.Frag} {mg:Str->Option Value} {base:Heap}
end
def oB(f:Nat->List (Option Nat))(k:Nat)(x:List (Option Nat)):Nat->List (Option Nat):=fun j=>if j=k then x else f j
theorem gG{f:Nat->List (Option Nat)}{k:Nat}{x:List (Option Nat)}:oB f k x k=x:=by unfold oB;rw[ao rfl]
theorem gH{f:Nat->List (Option Nat)}{k j:Nat}{x:List (Option Nat)}(h:j≠k):oB f k x j=f j:=by unfold oB;rw[ap h]
structure jm(n:Nat)(g:Nat->List Nat)(hs:List Int)(L:Nat)(ss ls:Nat->List (Option Nat))(ns:List Int):Prop where
 tie:∀b,b<L->cZ g (ss b) (ls b)
 next:∀b,b<L->∀i,(ss b).getD i none≠none->(ss (b+1)).getD i none=JC hs i ((ls b).getD i none)
 fresh:∀z:Nat,(z:Int)∈ns->∀b,b<=L->(ss b).getD z none=none
 out:∀b,b<L->∀i,(ss b).getD i none≠none->(ss (b+1)).getD i none=none->∀c,b<c->c<=L->(ss c).getD i none=none
 lt:∀b,b<=L->∀i h,(ss b).getD i none=some h->h<n
theorem u_{hs:List Int}{gs:List (Option Nat)}{i:Nat}:(bh hs gs).getD i none=JC hs i (gs.getD i none):=by
 unfold bh Et;by_cases h:i<gs.length
 .rw[bO,bn,k9 h];rfl
 .rw[bO,bn,gU (by rw[fK];lia),bO,gU (by lia)];rfl
theorem jm.start{n:Nat}{g:Nat->List Nat}{hs ns:List Int}{s:List (Option Nat)}{ls:Nat->List (Option Nat)}(h1:∀z:Nat,(z:Int)∈ns->s.getD z none=none)(h2:∀i h,s.getD i none=some h->h<n):jm n g hs 0 (fun _=>s) ls ns:=
 ⟨fun b hb=>absurd hb (by lia),fun b hb=>absurd hb (by lia),fun z hz b _=>h1 z hz,fun b hb=>absurd hb (by lia),fun b _=>h2⟩
theorem jm.push{n:Nat}{g:Nat->List Nat}{hs ns Vi:List Int}{L:Nat}{ss ls:Nat->List (Option Nat)}{gs s':List (Option Nat)}(R:jm n g hs L ss ls ns)(Hd:cZ g (ss L) gs)(k:∀i:Nat,(i:Int)∉ns->s'.getD i none=(bh hs gs).getD i none)(m:∀z∈Vi,z∈ns)(f:∀z:Nat,(z:Int)∈Vi->s'.getD z none=none)(l:∀i h,s'.getD i none=some h->h<n):jm n g hs (L+1) (oB ss (L+1) s') (oB ls L gs) Vi:=by
 have eS:∀b,b<=L->oB ss (L+1) s' b=ss b:=fun b hb=>gH (by lia);have JF:∀b,b<=L->∀i,(ss b).getD i none≠none->(i:Int)∉ns:=fun b hb i h z=>h (R.fresh i z b hb);refine⟨fun b hb=>?_,fun b hb i h=>?_,fun z hz b hb=>?_,fun b hb i h1 h2 c hc1 PD=>?_,fun b hb i h e=>?_⟩
 .rw[eS b (by lia)];by_cases e:b=L
  .subst e;rw[gG];exact Hd
  .rw[gH e];exact R.tie b (by lia)
 .rw[eS b (by lia)] at h;by_cases e:b=L
  .subst e;rw[gG,gG,k i (JF b (aL _) i h),u_]
  .rw[gH e,eS (b+1) (by lia)];exact R.next b (by lia) i h
 .by_cases e:b=L+1
  .rw[e,gG];exact f z hz
  .rw[gH e];exact R.fresh z (m _ hz) b (by lia)
 .rw[eS b (by lia)] at h1;by_cases e:c=L+1
  .subst e;by_cases e2:b=L
   .subst e2;exact h2
   .rw[eS (b+1) (by lia)] at h2;have z:=R.out b (by lia) i h1 h2 L (by lia) (aL _);rw[gG,k i (JF b (by lia) i h1),u_,Hd.bH i z];rfl
  .rw[gH e];rw[eS (b+1) (by lia)] at h2;exact R.out b (by lia) i h1 h2 c hc1 (by lia)
 .by_cases e':b=L+1
  .rw[e',gG] at e;exact l i h e
  .rw[gH e'] at e;exact R.lt b (by lia) i h e
section
variable {P:Program} {w:World} {K:PySem.W.Frag} {mg:Str->Option Value} {base:Heap}
end
def ED(s l:List (Option Nat)):Prop:=l.length=s.length/\(∀i,s.getD i none=none->l.getD i none=none)/\∀i h,s.getD i none=some h->∃o,l.getD i none=some o/\o≠h
def cI(H:Hp)(SA LA:Addr)(bu bv:List Addr)(m L:Nat)(ss ls:Nat->List (Option Nat)):Prop:=
 H SA=some (.lst (bu.map V.ref))/\H LA=some (.lst (bv.map V.ref))/\Holds H bu (L+1) (fun b=>.tup (SV (ss b)))/\Holds H bv L (fun b=>.tup (SV (ls b)))/\(∀b,b<=L->(ss b).length=m)/\∀b,b<L->ED (ss b) (ls b)
def qQ(H H':Hp):Prop:=∀b xs,H b=some (.tup xs)->H' b=some (.tup xs)
theorem qQ.trans{H H1 H2:Hp}(a:qQ H H1)(b:qQ H1 H2):qQ H H2:=fun c o h=>b c o (a c o h)
theorem qQ.of{H H':Hp}(s:aE H H'):qQ H H':=fun b xs e=>s _ _ e
theorem qQ.ofE{H H':Hp}{p:Addr}(s:a_ p H H')(hp:bj H p):qQ H H':=fun b xs e=>s _ _ e (by rintro rfl;obtain⟨u,v,z,_⟩:=hp;rw[z] at e;cases e)
theorem qQ.upd{H:Hp}{c:Addr}{o:HO}{ys:List V}(h:H c=some (.lst ys)):qQ H (upd H c o):=fun b xs e=>by rw[ak (by rintro rfl;rw[h] at e;cases e)];exact e
abbrev wQ:=oB
theorem i7{f:Nat->List (Option Nat)}{k:Nat}{x:List (Option Nat)}:wQ f k x k=x:=gG
theorem hV{f:Nat->List (Option Nat)}{k j:Nat}{x:List (Option Nat)}(h:j≠k):wQ f k x j=f j:=gH h
theorem sT{H H':Hp}{as:List Addr}{L:Nat}{f:Nat->List (Option Nat)}{r:Addr}{x:List (Option Nat)}(h:Holds H as L (fun b=>.tup (SV (f b))))(kt:qQ H H')(hr:H' r=some (.tup (SV x))):Holds H' (as++[r]) (L+1) (fun b=>.tup (SV (wQ f L x b))):=by
 refine Holds.snoc ⟨h.1,fun j hj=>?_⟩ (by rw[i7];exact hr);show _=some (HO.tup (SV (wQ f L x j)));rw[hV (by lia)];exact kt _ _ (h.2 j hj)
theorem cI.push{H H':Hp}{SA LA r r2:Addr}{bu bv:List Addr}{m L:Nat}{ss ls:Nat->List (Option Nat)}{gs s':List (Option Nat)}(h:cI H SA LA bu bv m L ss ls)(kt:qQ H H')(hS:H' SA=some (.lst ((bu++[r2]).map V.ref)))(hL:H' LA=some (.lst ((bv++[r]).map V.ref)))(hr:H' r=some (.tup (SV gs)))(Nf:H' r2=some (.tup (SV s')))(hm:s'.length=m)(mv:ED (ss L) gs):cI H' SA LA (bu++[r2]) (bv++[r]) m (L+1) (wQ ss (L+1) s') (wQ ls L gs):=by
 obtain⟨h1,h2,h3,h4,h5,h6⟩:=h;refine⟨hS,hL,sT h3 kt Nf,sT h4 kt hr,fun b hb=>?_,fun b hb=>?_⟩
 .by_cases e:b=L+1
  .rw[e,i7];exact hm
  .rw[hV e];exact h5 b (by lia)
 .rw[hV (show b≠L+1 by lia)];by_cases e:b=L
  .rw[e,i7];exact mv
  .rw[hV e];exact h6 b (by lia)
theorem mH{bu:List Addr}{k:Nat}(h:bu.length=k+1):ft (bu.map V.ref) (-1)=some (.ref (bu.getD k 0)):=by
 rcases pI bu with e|⟨l,x,e⟩
 .subst e;cases h
 .subst e;rw[pJ] at h |-;have hl:l.length=k:=by rw[cr] at h;simpa using h
  rw[cD,j8 hl,ao rfl];exact mf _ _
theorem cZ.moves{n:Nat}{g:Nat->List Nat}{s gs:List (Option Nat)}(Hd:cZ g s gs)(G:gc n g)(R:dZ n g s):ED s gs:=by
 refine⟨Hd.len,Hd.bH,fun i h e=>?_⟩;obtain⟨o,o1,o2⟩:=Hd.tie i h e;exact⟨o,o1,(G.lt h (R.1 h (aS e).2) o o2).2⟩
theorem zh{js:List Nat}:HV (js.map fun (i:Nat)=>(i:Int))=NV js:=by unfold HV NV;rw[fL];rfl
section
variable {P:Program} {w:World} {K:PySem.W.Frag} {mg:Str->Option Value} {base:Heap}
end
abbrev nK:Stmt:=gw 8
abbrev j_:Stmt:=gw 9
abbrev va:Stmt:=gw 16
abbrev EE:Stmt:=gw 23
theorem g_{K:PySem.W.Frag}:PySem.W.kitOne K (.type "int") (.type "int")=some true:=by kernel_rfl
theorem gq{K:PySem.W.Frag}:PySem.W.kitOne K (.type "int") (.type "bool")=some false:=by kernel_rfl
theorem kX{K:PySem.W.Frag}:PySem.W.kitOne K (.type "list") (.type "list")=some true:=by kernel_rfl
def Hz(lo hi i:Int):Bool:=decide (lo<=i)&&decide (i<=hi)
theorem kn{lo hi i:Int}:Hz lo hi i=true↔lo<=i/\i<=hi:=by unfold Hz;rw[eK,eZ,eZ]
def iY:Sp:=fun vs H Q _=>∃i:Int,vs=[.int i]/\Q (.bl true) H
def fU:Sp:=fun vs H Q _=>∃i lo hi:Int,vs=[.int i,.int lo,.int hi]/\Q (.bl (Hz lo hi i)) H
def dS(m L:Nat)(ss:Nat->List (Option Nat))(i b:Int):Bool:=Hz 0 ((L:Int)-1) b&&(Hz 0 ((m:Int)-1) i&&((ss b.toNat).getD i.toNat none).isSome)
def jT:Sp:=fun vs H Q _=>∃ (SA LA:Addr) (bu bv:List Addr) (m L:Nat) (ss ls:Nat->List (Option Nat)) (i b:Int),vs=[.ref SA,.ref LA,.int i,.int b]/\cI H SA LA bu bv m L ss ls/\Q (.bl (dS m L ss i b)) H
def fv(m L:Nat)(ss:Nat->List (Option Nat))(i b:Int)(h:Nat):Bool:=dS m L ss i b&&decide ((ss b.toNat).getD i.toNat none=some h)
def zi:Sp:=fun vs H Q _=>∃ (SA LA:Addr) (bu bv:List Addr) (m L:Nat) (ss ls:Nat->List (Option Nat)) (i b:Int) (h:Nat),vs=[.ref SA,.ref LA,.int i,.int b,.int h]/\cI H SA LA bu bv m L ss ls/\Q (.bl (fv m L ss i b h)) H
theorem eJ{as:List Addr}{k:Nat}(h:k<as.length):ft (as.map V.ref) (k:Int)=some (.ref (as.getD k 0)):=by
 refine bf ?_;rw[bn,cm h,bO,cm h];rfl
theorem gI{m L:Nat}{ss:Nat->List (Option Nat)}{i b:Int}(h:dS m L ss i b=true):∃ (j c:Nat) (x:Nat),i=j/\b=c/\j<m/\c<L/\(ss c).getD j none=some x:=by
 unfold dS at h;rw[eK,eK,kn,kn] at h;obtain⟨h1,h2,h3⟩:=h;obtain⟨x,hx⟩:=pD.mp h3;exact⟨i.toNat,b.toNat,x,by lia,by lia,by lia,by lia,hx⟩
theorem iq{m L:Nat}{ss:Nat->List (Option Nat)}{j c x:Nat}(hj:j<m)(hc:c<L)(h:(ss c).getD j none=some x):dS m L ss j c=true:=by
 unfold dS;rw[eK,eK,kn,kn];refine⟨⟨by lia,by lia⟩,⟨by lia,by lia⟩,?_⟩;rw[cM,cM,h];rfl
section
variable {P:Program} {w:World} {K:PySem.W.Frag} {mg:Str->Option Value} {base:Heap}
theorem uW:aG ["thing"] ["thing"] (am nK):=⟨rfl,rfl,rfl,by decide +kernel,rfl,by decide +kernel,by decide +kernel⟩
theorem qJ{f:Addr}{fd:FuncData}(F:fQ K "is_whole" "is_whole" nK f fd)(B:Bl mg):br P w K mg base aZ 1 f fd ["thing"] iY:=by
 refine F.ok uW (fun vs H Q E h=>?_) (fun dL A outer s H vs Q E hr h=>?_)
 .obtain⟨i,rfl,_⟩:=h;rfl
 .obtain⟨i,rfl,k⟩:=h;refine⟨_,al (aF (fc (aA eQ (by rfl) B.DO kG (aa (pv 0) (aa (fE (v:=.ty "int") rfl B.int pG rfl) ag)))
   (fX (ym (aA eQ (by rfl) B.DO kG (aa (pv 0) (aa (fE (v:=.ty "bool") rfl B.bool xD rfl) ag))))))),?_⟩
  refine⟨_,rfl,_,_,_,.type "int",true,rfl,⟨rfl,g_⟩,.of (.int _),true,rfl,?_⟩;exact⟨_,rfl,_,_,_,.type "int",false,rfl,⟨rfl,gq⟩,.of (.int _),false,rfl,k⟩
theorem qK:aG ["thing","least","most"] ["thing","least","most"] (am j_):=⟨rfl,rfl,rfl,by decide +kernel,rfl,by decide +kernel,by decide +kernel⟩
theorem nM{f:Addr}{fd:FuncData}(F:fQ K "is_whole_within" "is_whole_within" j_ f fd)(W:b_ P w K mg base aZ 1 "is_whole" ["thing"] iY):br P w K mg base aZ 2 f fd ["thing","least","most"] fU:=by
 refine F.ok qK (fun vs H Q E h=>?_) (fun dL A outer s H vs Q E hr h=>?_)
 .obtain⟨i,lo,hi,rfl,_⟩:=h;rfl
 .obtain⟨i,lo,hi,rfl,k⟩:=h;refine⟨_,al (aF (fc (aD W hr aQ (aa (pv 0) ag)) (fX (vJ zN zN (pv 1) (pv 0) (pv 2))))),?_⟩;refine⟨_,rfl,i,rfl,true,rfl,_,rfl,_,rfl,_,_,rfl,rfl,_,rfl,?_⟩;show if decide (lo<=i)=true then _ else _
  have k':Q (.bl (decide (lo<=i)&&decide (i<=hi))) H:=k;by_cases h:lo<=i
  .rw[bJ h] at k' |-;exact⟨_,rfl,_,_,rfl,rfl,k'⟩
  .rw[cE h] at k' |-;exact k'
theorem EF:aG ["stands","log","letter","beat"] ["stands","log","letter","beat"] (am va):=⟨rfl,rfl,rfl,by decide +kernel,rfl,by decide +kernel,by decide +kernel⟩
theorem B4{f:Addr}{fd:FuncData}(F:fQ K "is_handed_on" "is_handed_on" va f fd)(B:Bl mg)(W:b_ P w K mg base aZ 2 "is_whole_within" ["thing","least","most"] fU):br P w K mg base aZ 3 f fd ["stands","log","letter","beat"] jT:=by
 refine F.ok EF (fun vs H Q E h=>?_) (fun dL A outer s H vs Q E hr h=>?_)
 .obtain⟨SA,LA,bu,bv,m,L,ss,ls,i,b,rfl,_⟩:=h;rfl
 .obtain⟨SA,LA,bu,bv,m,L,ss,ls,i,b,rfl,LG,k⟩:=h;obtain⟨g1,g2,g3,g4,g5,g6⟩:=LG;refine'⟨_,ah (bx (dU (dA (aD W hr aQ (aa (pv 3) (aa aq (aa (bo nt (aA aH (by rfl) B.len cG (aa (pv 1) ag)) aq) ag)))))) (al (aF fO)) aR)
   (al (aF (fc (aD W hr aQ (aa (pv 2) (aa aq (aa (bo nt (aA aH (by rfl) B.len cG (aa (au az (pv 0) (pv 3) (fun _ _=>rfl)) ag)) aq) ag))))
    (fX (Kc (FU (au aV (au az (pv 0) (pv 3) (fun _ _=>rfl)) (pv 2) (fun _ _=>rfl)))))))),?_⟩
  refine⟨_,rfl,_,rfl,LA,_,rfl,.inl (aU.of g2),_,_,rfl,rfl,b,0,_,rfl,_,rfl,?_⟩;have LJ:((((bv.map V.ref).length:Nat):Int)-1)=(L:Int)-1:=by rw[aO,g4.1]
  unfold dS at k;refine bL (fun e=>?_) (fun e=>?_)
  .have e':Hz 0 ((L:Int)-1) b=false:=by
    rw[<-LJ];simpa using e
   rw[e',m3] at k;exact k
  .have e':Hz 0 ((L:Int)-1) b=true:=by
    rw[<-LJ];simpa using e
   rw[e',jz] at k;obtain⟨b0,b1⟩:=kn.mp e';obtain⟨c,rfl⟩:∃c:Nat,b=c:=⟨b.toNat,by lia⟩
   have hc:c<L:=by lia
   have sl:(ss c).length=m:=g5 c (by lia);have hS:=g3.2 c (by lia);have Ym:((((SV (ss c)).length:Nat):Int)-1)=(m:Int)-1:=by rw[aO,sl]
   rw[cM] at k;refine⟨_,rfl,_,rfl,_,rfl,SA,_,_,_,rfl,rfl,aU.of g1,eJ (by rw[g3.1];lia),bu.getD c 0,_,rfl,.inr (cx.of hS),_,_,rfl,rfl,i,0,_,rfl,_,rfl,?_⟩;refine bL (fun e2=>?_) (fun e2=>?_)
   .have e3:Hz 0 ((m:Int)-1) i=true:=by rw[<-Ym];exact e2
    rw[e3,jz] at k;obtain⟨i0,i1⟩:=kn.mp e3;obtain⟨j,rfl⟩:∃j:Nat,i=j:=⟨i.toNat,by lia⟩
    rw[cM] at k;refine⟨_,rfl,_,rfl,SA,_,_,_,rfl,rfl,aU.of g1,eJ (by rw[g3.1];lia),_,rfl,bu.getD c 0,_,_,_,rfl,rfl,cx.of hS,dv (by lia),?_⟩;have ee:(!decide (jo ((ss c).getD j none)=V.bH))=((ss c).getD j none).isSome:=by
     cases (ss c).getD j none with
     |none=>rw[bJ (show jo none=V.bH from rfl)];rfl
     |some x=>rw[cE (show ¬ jo (some x)=V.bH from fun z=>by cases z)];rfl
    show Q (V.bl (!decide (jo ((ss c).getD j none)=V.bH))) H;rw[ee];exact k
   .have e3:Hz 0 ((m:Int)-1) i=false:=by rw[<-Ym];simpa using e2
    rw[e3,m3] at k;exact k
theorem LK:aG ["stands","log","letter","beat","house"] ["stands","log","letter","beat","house"] (am EE):=⟨rfl,rfl,rfl,by decide +kernel,rfl,by decide +kernel,by decide +kernel⟩
theorem HA{f:Addr}{fd:FuncData}(F:fQ K "is_sent_from" "is_sent_from" EE f fd)(HO:b_ P w K mg base aZ 3 "is_handed_on" ["stands","log","letter","beat"] jT):br P w K mg base aZ 4 f fd ["stands","log","letter","beat","house"] zi:=by
 refine F.ok LK (fun vs H Q E h=>?_) (fun dL A outer s H vs Q E hr h=>?_)
 .obtain⟨SA,LA,bu,bv,m,L,ss,ls,i,b,hh,rfl,_⟩:=h;rfl
 .obtain⟨SA,LA,bu,bv,m,L,ss,ls,i,b,hh,rfl,LG,k⟩:=h;obtain⟨g1,g2,g3,g4,g5,g6⟩:=LG;refine'⟨_,ah (bx (dU (dA (aD HO hr aQ (aa (pv 0) (aa (pv 1) (aa (pv 2) (aa (pv 3) ag))))))) (al (aF fO)) aR)
   (al (aF (fc (cY eO (au aV (au az (pv 0) (pv 3) (fun _ _=>rfl)) (pv 2) (fun _ _=>rfl)) (pv 4) (aM _))
    (fX (cY rV (au aV (au az (pv 1) (pv 3) (fun _ _=>rfl)) (pv 2) (fun _ _=>rfl)) (pv 4) (aM _)))))),?_⟩
  refine⟨_,rfl,_,rfl,_,rfl,_,rfl,SA,LA,bu,bv,m,L,ss,ls,i,b,rfl,⟨g1,g2,g3,g4,g5,g6⟩,_,rfl,?_⟩;unfold fv at k;refine bL (fun e=>?_) (fun e=>?_)
  .have e':dS m L ss i b=false:=by simpa using e
   rw[e',m3] at k;exact k
  .have e':dS m L ss i b=true:=by simpa using e
   rw[e',jz] at k;obtain⟨j,c,x,rfl,rfl,hj,hc,hx⟩:=gI e';rw[cM,cM,hx] at k;have sl:(ss c).length=m:=g5 c (by lia);have kE:ft (SV (ss c)) (j:Int)=some (.int (x:Int)):=by rw[dv (by lia),hx];rfl
   obtain⟨mv1,mv2,Vj⟩:=g6 c hc;obtain⟨o,ho,jn⟩:=Vj j x hx;have wR:ft (SV (ls c)) (j:Int)=some (.int (o:Int)):=by rw[dv (by lia),ho];rfl
   refine⟨_,rfl,_,rfl,SA,_,_,_,rfl,rfl,aU.of g1,eJ (by rw[g3.1];lia),_,rfl,bu.getD c 0,_,_,_,rfl,rfl,cx.of (g3.2 c (by lia)),kE,_,rfl,rfl,_,rfl,?_⟩;refine bL (fun e2=>?_) (fun e2=>?_)
   .have e3:x=hh:=by have:=V.int.inj (bU e2);lia
    refine⟨_,rfl,_,rfl,LA,_,_,_,rfl,rfl,aU.of g2,eJ (by rw[g4.1];lia),_,rfl,bv.getD c 0,_,_,_,rfl,rfl,cx.of (g4.2 c hc),wR,_,rfl,rfl,?_⟩;rw[bJ (show some x=some hh by rw[e3])] at k;rw[cE (show ¬ V.int (o:Int)=V.int (hh:Int) from fun z=>jn (by have:=V.int.inj z;lia))];exact k
   .have e3:¬ some x=some hh:=fun z=>e2 (bJ (by cases z;rfl));rw[cE e3] at k;exact k
end
abbrev vc:Stmt:=gw 22
def cT(m L:Nat)(ss ls:Nat->List (Option Nat))(b h0:Nat)(zs:List Int):Nat->Option Nat
 |0=>some h0
 |k+1=>match cT m L ss ls b h0 zs k with
  |none=>none
  |some h=>if fv m L ss (zs.getD k 0) ((b+k:Nat):Int) h=true then some (((ls (b+k)).getD (zs.getD k 0).toNat none).getD 0) else none
theorem sU{m L:Nat}{ss ls:Nat->List (Option Nat)}{b h0:Nat}{zs:List Int}{k h:Nat}(e:cT m L ss ls b h0 zs k=some h)(s:fv m L ss (zs.getD k 0) ((b+k:Nat):Int) h=true):cT m L ss ls b h0 zs (k+1)=some (((ls (b+k)).getD (zs.getD k 0).toNat none).getD 0):=by
 unfold cT;rw[e];exact ao s
theorem nU{m L:Nat}{ss ls:Nat->List (Option Nat)}{b h0:Nat}{zs:List Int}{k h:Nat}(e:cT m L ss ls b h0 zs k=some h)(s:¬ fv m L ss (zs.getD k 0) ((b+k:Nat):Int) h=true):∀j,cT m L ss ls b h0 zs (k+1+j)=none
 |0=>by
  show cT m L ss ls b h0 zs (k+1)=none;unfold cT;rw[e];exact ap s
 |j+1=>by
  have ih:=nU e s j;show cT m L ss ls b h0 zs (k+1+j+1)=none;unfold cT;rw[ih]
theorem B5{m L:Nat}{ss ls:Nat->List (Option Nat)}{b h0:Nat}{zs:List Int}{k h:Nat}(e:cT m L ss ls b h0 zs (k+1)=some h):∃h',fv m L ss (zs.getD k 0) ((b+k:Nat):Int) h'=true:=by
 unfold cT at e;split at e
 .cases e
 .rename_i h' _;by_cases s:fv m L ss (zs.getD k 0) ((b+k:Nat):Int) h'=true
  .exact⟨h',s⟩
  .rw[ap s] at e;cases e
def EG(hs:List Int)(zs:List Int):Option Nat->Bool
 |none=>false
 |some h=>decide ((h:Int)=hs.getD (zs.getD (zs.length-1) 0).toNat 0)
def jU(hs:List Int)(m L:Nat)(ss ls:Nat->List (Option Nat))(i b:Int)(zs:List Int):Bool:=
 dS m L ss i b&&(!zs.isEmpty&&(!decide (zs.getD 0 0=i)&&EG hs zs (cT m L ss ls b.toNat (((ss b.toNat).getD i.toNat none).getD 0) zs zs.length)))
theorem cI.same{H H':Hp}{SA LA:Addr}{bu bv:List Addr}{m L:Nat}{ss ls:Nat->List (Option Nat)}(h:cI H SA LA bu bv m L ss ls)(s:aE H H'):cI H' SA LA bu bv m L ss ls:=by
 obtain⟨g1,g2,g3,g4,g5,g6⟩:=h;exact⟨s _ _ g1,s _ _ g2,g3.mono fun j _ e=>s _ _ e,g4.mono fun j _ e=>s _ _ e,g5,g6⟩
theorem qR{m L:Nat}{ss:Nat->List (Option Nat)}{i b:Int}{h:Nat}(s:fv m L ss i b h=true):∃ (j c:Nat),i=j/\b=c/\j<m/\c<L/\(ss c).getD j none=some h:=by
 unfold fv at s;rw[eK,eZ] at s;obtain⟨j,c,x,rfl,rfl,h1,h2,h3⟩:=gI s.1;have:=s.2;rw[cM,cM] at this;exact⟨j,c,rfl,rfl,h1,h2,this⟩
theorem Az{m L:Nat}{ss:Nat->List (Option Nat)}{j c h:Nat}(hj:j<m)(hc:c<L)(e:(ss c).getD j none=some h):fv m L ss j c h=true:=by
 unfold fv;rw[iq hj hc e,jz,cM,cM];exact bJ e
theorem vd{zs:List Int}(h:zs≠[]):ft (HV zs) (-1)=some (.int (zs.getD (zs.length-1) 0)):=by
 rcases pI zs with e|⟨l,x,e⟩
 .exact absurd e h
 .subst e;rw[pJ];have:(l++[x]).getD ((l++[x]).length-1) 0=x:=by
   rw[bO,cr];simp
  rw[this];unfold HV;rw[cD];exact mf _ _
section
variable {P:Program} {w:World} {K:PySem.W.Frag} {mg:Str->Option Value} {base:Heap}
theorem mI:aG ["homes","stands","log","letter","beat","thing","house","later","one"] ["homes","stands","log","letter","beat","thing"] (am vc):=⟨rfl,rfl,rfl,by decide +kernel,rfl,by decide +kernel,by decide +kernel⟩
def pe:Sp:=fun vs H Q _=>∃ (a SA LA Z:Addr) (bu bv:List Addr) (m L:Nat) (ss ls:Nat->List (Option Nat)) (hs zs:List Int) (i b:Int),vs=[.ref a,.ref SA,.ref LA,.int i,.int b,.ref Z]/\H a=some (.tup (HV hs))/\hs.length=m/\cI H SA LA bu bv m L ss ls/\H Z=some (.lst (HV zs))/\
 ∀H',aE H H'->Q (.bl (jU hs m L ss ls i b zs)) H'
theorem EH{f:Addr}{fd:FuncData}(F:fQ K "is_chain" "is_chain" vc f fd)(B:Bl mg)(HO:b_ P w K mg base aZ 3 "is_handed_on" ["stands","log","letter","beat"] jT)(ST:b_ P w K mg base aZ 4 "is_sent_from" ["stands","log","letter","beat","house"] zi):
  br P w K mg base aZ 5 f fd ["homes","stands","log","letter","beat","thing"] pe:=by
 refine F.ok mI (fun vs H Q E h=>?_) (fun dL A outer s H vs Q E hr h=>?_)
 .obtain⟨a,SA,LA,Z,bu,bv,m,L,ss,ls,hs,zs,i,b,rfl,_⟩:=h;rfl
 .obtain⟨a,SA,LA,Z,bu,bv,m,L,ss,ls,hs,zs,i,b,rfl,ha,hl,LG,hZ,q⟩:=h;have Yn:bW 3 (A.deeper (PyProof.Rows.envOfC "is_chain" (am vc) s.heap.objs.size f dL)):=hr.mono (by decide)
  refine'⟨_,ah (bx (PW.pt (n9 (dU (dA (aD HO Yn aQ (aa (pv 1) (aa (pv 2) (aa (pv 3) (aa (pv 4) ag)))))))
     (n9 (dU (dA (aA eQ (by rfl) B.DO kG (aa (pv 5) (aa (fE (v:=.ty "list") rfl B.lst tu rfl) ag)))))
     (lG (aN eO (aA aH (by rfl) B.len cG (aa (pv 5) ag)) aq (aM _)))))) (al (aF fO)) aR)
   (ah (aP (i:=6) mI.nd rfl (Or.inl rfl) (au aV (au az (pv 1) (pv 4) (fun _ _=>rfl)) (pv 3) (fun _ _=>rfl)))
   (ah (dM eM rfl (Ah rfl B.enum (aa (pv 5) ag)) (fA (n:=2) rfl (a9 (aB (i:=7) mI.nd rfl (Or.inl rfl)) (a9 (aB (i:=8) mI.nd rfl (Or.inl rfl)) d9)))
    (ah (bx (dU (dA (aD ST hr aQ (aa (pv 1) (aa (pv 2) (aa (pv 8) (aa (bo dB (pv 4) (pv 7)) (aa (pv 6) ag)))))))) (al (aF fO)) aR)
    (al (aP (i:=6) mI.nd rfl (Or.inl rfl) (au aV (au az (pv 2) (bo dB (pv 4) (pv 7)) (fun _ _=>rfl)) (pv 8) (fun _ _=>rfl))))))
   (al (aF (fc (cY rV (au az (pv 5) aq (fun _ _=>rfl)) (pv 3) (aM _))
    (fX (cY eO (pv 6) (au aV (pv 0) (au az (pv 5) (n_ jH aq) (fun _ _=>rfl)) (fun _ _=>rfl)) (aM _)))))))),?_⟩
  refine⟨_,rfl,_,rfl,_,rfl,_,rfl,SA,LA,bu,bv,m,L,ss,ls,i,b,rfl,LG,_,rfl,?_⟩;unfold jU at q;refine bL (fun e=>?_) (fun e=>?_)
  .have e':dS m L ss i b=false:=by simpa using e
   rw[e',m3] at q;exact kW (q H (aE.refl _))
  have e':dS m L ss i b=true:=by simpa using e
  rw[e',jz] at q;obtain⟨j,c,x,rfl,rfl,hj,hc,hx⟩:=gI e';rw[cM,cM,hx] at q;refine⟨_,rfl,_,_,_,.type "list",true,rfl,⟨rfl,kX⟩,.of (.lst hZ),true,rfl,?_⟩;refine bL (fun e=>absurd e (by decide)) (fun _=>?_);refine⟨_,rfl,Z,_,rfl,.inl (aU.of hZ),rfl,_,rfl,?_⟩;refine bL (fun e=>?_) (fun e=>?_)
  .have e2:zs=[]:=by
    have:=V.int.inj (bU e);rw[aO] at this;exact Ct (by lia)
   rw[e2] at q;exact q H (aE.refl _)
  have AA:zs≠[]:=by
   rintro rfl;exact e (bJ rfl)
  have zem:zs.isEmpty=false:=by cases zs with|nil=>exact absurd rfl AA|cons _ _=>rfl
  rw[zem,yf,jz] at q;obtain⟨g1,g2,g3,g4,g5,g6⟩:=LG;have LG:cI H SA LA bu bv m L ss ls:=⟨g1,g2,g3,g4,g5,g6⟩
  have sl:(ss c).length=m:=g5 c (by lia);have kE:ft (SV (ss c)) (j:Int)=some (.int (x:Int)):=by rw[dv (by lia),hx];rfl
  refine⟨_,rfl,_,rfl,SA,_,_,_,rfl,rfl,aU.of g1,eJ (by rw[g3.1];lia),_,rfl,bu.getD c 0,_,_,_,rfl,rfl,cx.of (g3.2 c (by lia)),kE,?_⟩;have qf:∀k h,cT m L ss ls c x zs k=some h->¬ fv m L ss (zs.getD k 0) ((c+k:Nat):Int) h=true->k<zs.length->∀H',aE H H'->Q (.bl false) H':=by
   intro k h e1 e2 hk H' sm;have e3:=nU e1 e2 (zs.length-(k+1));rw[show k+1+(zs.length-(k+1))=zs.length by lia] at e3;have q':=q H' sm;have ex:(some x).getD 0=x:=rfl;rw[ex,e3] at q';unfold EG at q';rw[tY] at q';exact q'
  refine⟨_,rfl,Z,_,rfl,hZ,?_⟩;refine wr (K:=K) (a:=Z) (xs:=HV zs) (fun k σ H3=>(∃v7 v8 h,σ=[some (.ref a),some (.ref SA),some (.ref LA),some (.int j),some (.int c),some (.ref Z),some (.int (h:Nat)),v7,v8]/\cT m L ss ls c x zs k=some h)/\aE H H3) ⟨⟨_,_,x,rfl,rfl⟩,aE.refl _⟩ (fun k σ H3 _ z=>aU.of (z.2 _ _ hZ)) ?_ ?_
  .rintro k v t σ H3 hv ⟨⟨v7,v8,h,rfl,hw⟩,sm⟩ ht;rw[bn] at hv;obtain⟨z,hz,rfl⟩:=pj.mp hv;have hk:k<zs.length:=(cK.mp hz).1;have zk:zs.getD k 0=z:=by rw[bO,hz];rfl
   have qN:aE H (upd H3 t (.tup [.int (k:Int),.int z])):=sm.trans (aj ht);have LG4:=LG.same qN;refine⟨_,_,rfl,cx.of af,rfl,_,_,rfl,_,_,rfl,rfl,?_⟩;refine⟨_,rfl,_,rfl,_,rfl,_,rfl,_,rfl,_,_,rfl,rfl,_,rfl,SA,LA,bu,bv,m,L,ss,ls,z,(c:Int)+(k:Int),h,rfl,LG4,_,rfl,?_⟩;have ck:(c:Int)+(k:Int)=((c+k:Nat):Int):=by lia
   refine bL (fun e2=>?_) (fun e2=>?_)
   .refine qf k h hw ?_ hk _ qN;rw[zk,<-ck];simpa using e2
   .have e3:fv m L ss z ((c:Int)+(k:Int)) h=true:=by simpa using e2
    have e4:=e3;rw[ck] at e4;obtain⟨j2,c2,ez,ec,hj2,PD,RL⟩:=qR e4;have ec':c2=c+k:=by lia
    subst ec';subst ez;obtain⟨mv1,mv2,Vj⟩:=g6 (c+k) PD;obtain⟨o,ho,jn⟩:=Vj j2 h RL;have sl2:(ss (c+k)).length=m:=g5 (c+k) (by lia);have wR:ft (SV (ls (c+k))) (j2:Int)=some (.int (o:Int)):=by rw[dv (by lia),ho];rfl
    have rat:ft (bv.map V.ref) ((c:Int)+(k:Int))=some (.ref (bv.getD (c+k) 0)):=by rw[ck];exact eJ (by rw[g4.1];exact PD)
    refine⟨_,rfl,_,rfl,_,rfl,_,_,rfl,rfl,LA,_,_,_,rfl,rfl,aU.of (qN _ _ g2),rat,_,rfl,bv.getD (c+k) 0,_,_,_,rfl,rfl,cx.of (qN _ _ (g4.2 (c+k) PD)),wR,⟨_,_,o,rfl,?_⟩,qN⟩;rw[sU hw (by rw[zk];exact e4),zk,cM,ho];rfl
  .rintro σ H3 ⟨⟨v7,v8,h,rfl,hw⟩,sm⟩;rw[show (HV zs).length=zs.length from aO _] at hw;have q':=q H3 sm;have ex:(some x).getD 0=x:=rfl;rw[ex,hw] at q';have zl:0<zs.length:=pK.mpr AA;have LL:ft (HV zs) 0=some (.int (zs.getD 0 0)):=hU (i:=0) zl;refine⟨_,rfl,Z,_,_,_,rfl,rfl,aU.of (sm _ _ hZ),LL,_,rfl,rfl,_,rfl,?_⟩;refine bL (fun e2=>?_) (fun e2=>?_)
   .have e3:decide (zs.getD 0 0=(j:Int))=false:=by
     refine cE fun z=>?_;rw[z] at e2;simp at e2
    rw[e3,yf,jz] at q';obtain⟨k,hk⟩:∃k,zs.length=k+1:=⟨zs.length-1,by lia⟩
    have Yo:=hw;rw[hk] at Yo;obtain⟨h',s'⟩:=B5 Yo;obtain⟨j2,c2,ez,ec,hj2,PD,RL⟩:=qR s';have el:zs.getD (zs.length-1) 0=(j2:Int):=by rw[hk];exact ez
    unfold EG at q';rw[el,cM] at q';refine⟨_,rfl,_,rfl,_,rfl,_,rfl,Z,_,_,_,rfl,rfl,aU.of (sm _ _ hZ),vd AA,a,_,_,_,rfl,rfl,cx.of (sm _ _ ha),by rw[el];exact hU (by lia),rfl,?_⟩;have ed:decide (V.int (h:Int)=V.int (hs.getD j2 0))=decide ((h:Int)=hs.getD j2 0):=by
     rw[l6,eZ,eZ];exact⟨V.int.inj,fun z=>by rw[z]⟩
    rw[ed];exact q'
   .have e3:decide (zs.getD 0 0=(j:Int))=true:=by
     refine bJ ?_;have:decide (V.int (zs.getD 0 0)=V.int (j:Int))=true:=by simpa using e2
     exact V.int.inj (bU this)
    rw[e3] at q';exact q'
end
theorem kq{o:Option Nat}{h:Int}:Kl (jo o) (.int h)=true:=by cases o <;> rfl
theorem oV{x y:Int}:decide (V.int x=V.int y)=decide (x=y):=by
 rw[l6,eZ,eZ];exact⟨V.int.inj,fun z=>by rw[z]⟩
section
variable {P:Program} {w:World} {K:PySem.W.Frag} {mg:Str->Option Value} {base:Heap}
end
end vx
namespace L2
open PySem PySem.Spec PyProof.Rows
section
variable {X:Cx} {e se:Expr} {te:TE} {lo hi:Option Expr} {tl th ts:TO} {pos p2:Pos}
theorem sV:l9 X (compareOp .IsNot) (fun x y H Q=>∃c d:Bool,x=.bl c/\y=.bl d/\Q (.bl (c != d)) H):=by
 intro ae s σ H x y v u Q I rx ry h;obtain⟨c,d,rfl,rfl,q⟩:=h;cases rx;cases ry;exact isnot_bool ⟨.bl _,H,I,rfl,q⟩
end
end L2
namespace vx
open PySem L2
section
variable {P:Program} {w:World} {K:PySem.W.Frag} {mg:Str->Option Value} {base:Heap}
theorem cI.gm{H H':Hp}{p SA LA:Addr}{bu bv:List Addr}{m L:Nat}{ss ls:Nat->List (Option Nat)}(h:cI H SA LA bu bv m L ss ls)(s:a_ p H H')(hp:bj H p)(n1:SA≠p)(n2:LA≠p):cI H' SA LA bu bv m L ss ls:=by
 obtain⟨g1,g2,g3,g4,g5,g6⟩:=h;have kt:qQ H H':=qQ.ofE s hp;exact⟨s _ _ g1 n1,s _ _ g2 n2,g3.mono fun j _ e=>kt _ _ e,g4.mono fun j _ e=>kt _ _ e,g5,g6⟩
end
open PySem L2 rF
def qS(g:Nat->List Nat)(k:Nat):Ts:=(List.range k).flatMap fun h=>(g h).map fun o=>(ci h,ci o)
abbrev ba(n:Nat)(g:Nat->List Nat):Ts:=qS g n
theorem nV{g:Nat->List Nat}{k:Nat}:qS g (k+1)=qS g k++(g k).map fun o=>(ci k,ci o):=by
 unfold qS;rw[jx,List.flatMap_append];simp
theorem nW{n:Nat}{g:Nat->List Nat}{t:Int×Int}:t∈ba n g↔∃h o,h<n/\o∈g h/\t=(ci h,ci o):=by
 unfold ba qS;rw[List.mem_flatMap];constructor
 .rintro⟨h,hh,z⟩;obtain⟨o,ho,rfl⟩:=bP.mp z;exact⟨h,o,bN.mp hh,ho,rfl⟩
 .rintro⟨h,o,hh,ho,rfl⟩;exact⟨h,bN.mpr hh,bP.mpr ⟨o,ho,rfl⟩⟩
theorem wS{n:Nat}{g:Nat->List Nat}{a b:Nat}:T (ba n g) a b↔a<n/\b∈g a:=by
 unfold T;rw[nW];constructor
 .rintro⟨h,o,hh,ho,e⟩;obtain rfl:a=h:=dR (congrArg Prod.fst e);obtain rfl:b=o:=dR (congrArg Prod.snd e);exact⟨hh,ho⟩
 .rintro⟨h1,h2⟩;exact⟨a,b,h1,h2,rfl⟩
theorem wT{g:Nat->List Nat}:∀k,(∀h,h<k->(g h).Nodup)->(qS g k).Nodup
 |0,_=>by simp[qS]
 |k+1,h=>by
  rw[nV];refine jr.mpr ⟨wT k fun x hx=>h x (by lia),?_,?_⟩
  .exact List.Pairwise.map _ (fun a b O8 e=>O8 (dR (congrArg Prod.snd e))) (tj.mp (h k (by lia)))
  .intro x hx y hy e;subst e;obtain⟨h',o,hh,_,rfl⟩:=nW.mp hx;obtain⟨o',_,e⟩:=bP.mp hy;have:=dR (congrArg Prod.fst e);lia
theorem zj{g:Nat->List Nat}{x:Nat}:∀k,((qS g k).filter fun t=>decide (t.1=ci x)).length=if x<k then (g x).length else 0
 |0=>by simp[qS]
 |k+1=>by
  rw[nV,jq,cr,zj k];by_cases e:x=k
  .subst e;rw[ap (jg _),ao (jw _),List.filter_eq_self.mpr,aO,pT];intro t ht;obtain⟨o,_,rfl⟩:=bP.mp ht;simp
  .rw[xF.mpr,tV,hX]
   .by_cases h:x<k
    .rw[ao h,ao (by lia)]
    .rw[ap h,ap (by lia)]
   .intro t ht z;obtain⟨o,_,rfl⟩:=bP.mp ht;exact e (dR (bU z)).symm
theorem qT{x:Nat}:∀ {l:List Nat},l.Nodup->((l.map fun o=>ci o).filter fun t=>decide (t=ci x)).length=if x∈l then 1 else 0
 |[],_=>by simp
 |y::l,h=>by
  have ih:=qT (x:=x) (dQ.mp h).2;have hy:=(dQ.mp h).1;rw[cW,jt];by_cases e:y=x
  .subst e;rw[ao (by simp),cw,ih,ap hy,ao (by simp)]
  .rw[ap (show ¬ decide (ci y=ci x)=true from fun z=>e (dR (bU z))),ih];have:x∈y::l↔x∈l:=by
    rw[bK];exact⟨fun z=>z.elim (fun q=>absurd q.symm e) id,.inr⟩
   simp only[this]
theorem EI{g:Nat->List Nat}{x:Nat}:∀k,(∀h,h<k->(g h).Nodup)->((qS g k).filter fun t=>decide (t.2=ci x)).length=inn g k x
 |0,_=>by simp[qS,inn]
 |k+1,h=>by
  rw[nV,jq,cr,EI k fun y hy=>h y (by lia)];unfold inn;rw[jx,List.countP_append];congr 1;have e1:List.countP (fun o=>decide (x∈g o)) [k]=if x∈g k then 1 else 0:=by rw[List.countP_singleton];simp
  rw[e1,<-qT (h k (by lia)),xt,aO,xt,aO];rfl
theorem HB{n:Nat}{g:Nat->List Nat}(lt:∀a,a<n->∀o∈g a,o<n){a b:Nat}(ha:a<n)(h:Rc g a b):b<n/\∃k,dj (ba n g) k a b:=by
 induction h with
 |refl=>exact⟨ha,0,rfl⟩
 |step _ t ih=>
  obtain⟨hb,k,w⟩:=ih;exact⟨lt _ hb _ t,k+1,_,w,wS.mpr ⟨hb,t⟩⟩
theorem AB{h:Int}{n:Nat}:(∃x:Nat,h=ci x)\/h<0:=by
 by_cases z:0<=h
 .exact .inl ⟨h.toNat,(Int.toNat_of_nonneg z).symm⟩
 .exact .inr (by lia)
theorem HC{n:Nat}{g:Nat->List Nat}(G:gc n g)(C:Lw n g)(n1:2<=n)(n2:n<=32):eG n (ba n g):=by
 have PF:∀h:Int,h<0->(ba n g).filter (fun t=>decide (t.1=h))=[]:=fun h hh=>xF.mpr fun t ht z=>by
  obtain⟨x,o,_,_,rfl⟩:=nW.mp ht;have z':((x:Nat):Int)=h:=bU z;lia
 have Vk:∀h:Int,h<0->(ba n g).filter (fun t=>decide (t.2=h))=[]:=fun h hh=>xF.mpr fun t ht z=>by
  obtain⟨x,o,_,_,rfl⟩:=nW.mp ht;have z':((o:Nat):Int)=h:=bU z;lia
 have Vl:∀x,¬ x<n->inn g n x=0:=fun x hx=>by
  unfold inn;rw[List.countP_eq_zero];intro o ho z;exact hx (G.lt o (bN.mp ho) x (bU z)).1
 refine⟨n1,n2,wT n G.nd,fun t ht=>?_,fun t ht=>?_,fun h=>?_,fun h=>?_,fun a b ha hb=>(HB (fun x hx o ho=>(G.lt x hx o ho).1) ha (C a b ha hb)).2⟩
 .obtain⟨x,o,hx,ho,rfl⟩:=nW.mp ht;have:=(G.lt x hx o ho).1;exact⟨⟨Int.natCast_nonneg _,Int.ofNat_lt.mpr hx⟩,⟨Int.natCast_nonneg _,Int.ofNat_lt.mpr this⟩⟩
 .obtain⟨x,o,hx,ho,rfl⟩:=nW.mp ht;have:=(G.lt x hx o ho).2;exact fun e=>this (dR e).symm
 .rcases AB (h:=h) (n:=n) with ⟨x,rfl⟩|z
  .rw[zj,EI n G.nd];by_cases hx:x<n
   .rw[ao hx];exact G.Jt x hx
   .rw[ap hx,Vl x hx]
  .rw[PF h z,Vk h z]
 .rcases AB (h:=h) (n:=n) with ⟨x,rfl⟩|z
  .rw[zj];by_cases hx:x<n
   .rw[ao hx];exact G.le x hx
   .rw[ap hx];decide
  .rw[PF h z];decide
def lU(ts:Ts):Ts:=ts.map fun t=>(t.2,t.1)
theorem EJ{ts:Ts}{a b:Nat}:T (lU ts) a b↔T ts b a:=by
 unfold T lU;rw[bP];constructor
 .rintro⟨⟨x,y⟩,h,e⟩;have e1:=congrArg Prod.fst e;have e2:=congrArg Prod.snd e;dsimp only at e1 e2;subst e1 e2;exact h
 .exact fun h=>⟨_,h,rfl⟩
theorem wU{ts:Ts}:∀ {k a b:Nat},dj (lU ts) k a b->dj ts k b a
 |0,_,_,e=>e.symm
 |k+1,a,b,⟨c,w,t⟩=>dj.cons (EJ.mp t) (wU w)
theorem nX{ts:Ts}:∀ {k a b:Nat},dj ts k a b->dj (lU ts) k b a
 |0,_,_,e=>e.symm
 |k+1,a,b,⟨c,w,t⟩=>dj.cons (EJ.mpr t) (nX w)
theorem AC{ts:Ts}{h:Int}:((lU ts).filter fun t=>decide (t.1=h)).length=(ts.filter fun t=>decide (t.2=h)).length:=by
 unfold lU;rw[List.filter_map,List.length_map];rfl
theorem HD{ts:Ts}{h:Int}:((lU ts).filter fun t=>decide (t.2=h)).length=(ts.filter fun t=>decide (t.1=h)).length:=by
 unfold lU;rw[List.filter_map,List.length_map];rfl
theorem EK{n:Nat}{ts:Ts}(F:eG n ts):eG n (lU ts):=by
 refine⟨F.n1,F.n2,?_,fun t ht=>?_,fun t ht=>?_,fun h=>?_,fun h=>?_,fun a b ha hb=>?_⟩
 .exact List.Pairwise.map _ (fun a b O8 e=>O8 (Prod.ext (congrArg Prod.snd e) (congrArg Prod.fst e))) (tj.mp F.nd)
 .obtain⟨u,hu,rfl⟩:=bP.mp ht;exact⟨(F.rg u hu).2,(F.rg u hu).1⟩
 .obtain⟨u,hu,rfl⟩:=bP.mp ht;exact fun e=>F.ne u hu e.symm
 .rw[AC,HD];exact(F.Jt h).symm
 .rw[AC,<-F.Jt h];exact F.most h
 .obtain⟨k,w⟩:=F.con b a hb ha;exact⟨k,nX w⟩
theorem HE{n:Nat}{ts:Ts}(F:eG n ts){a b:Nat}(ha:a<n)(hb:b<n):far (lU ts) a b=far ts b a:=by
 have h:=F.GY hb ha;exact qI ⟨nX h.1,fun k w=>h.2 k (wU w)⟩
section
variable {n:Nat} {g:Nat->List Nat} {hs ns:List Int} {m L:Nat} {ss ls:Nat->List (Option Nat)}
theorem jm.goes(R:jm n g hs L ss ls ns){b i h:Nat}(hb:b<L)(e:(ss b).getD i none=some h):∃o,(ls b).getD i none=some o/\T (ba n g) h o:=by
 obtain⟨o,e1,e2⟩:=(R.tie b hb).tie i h e;exact⟨o,e1,wS.mpr ⟨R.lt b (dG hb) i h e,e2⟩⟩
theorem jm.EL(R:jm n g hs L ss ls ns):∀ (d b i h o h':Nat),(ss b).getD i none=some h->(ls b).getD i none=some o->b+1+d<=L->(ss (b+1+d)).getD i none=some h'->dj (ba n g) d o h'
 |d,b,i,h,o,h',e1,e2,hl,e3=>by
  have nx:=R.next b (by lia) i (by rw[e1];intro z;cases z);rw[e2] at nx;have ne:(ss (b+1)).getD i none≠none:=fun z=>by
   have:=R.out b (by lia) i (by rw[e1];intro z;cases z) z (b+1+d) (by lia) hl;rw[e3] at this;cases this
  have so:(ss (b+1)).getD i none=some o:=by
   rw[nx] at ne |-;show (if (o:Int)=hs.getD i 0 then none else some o)=some o;by_cases z:(o:Int)=hs.getD i 0
   .exact absurd (ao z) ne
   .exact ap z
  cases d with
  |zero=>
   rw[hX,so] at e3;exact bR e3
  |succ d=>
   obtain⟨o',e4,t⟩:=R.goes (b:=b+1) (by lia) so;have:=R.EL d (b+1) i o o' h' so e4 (by lia) (by rw[show b+1+1+d=b+1+(d+1) by lia];exact e3);exact dj.cons t this
theorem jm.once(R:jm n g hs L ss ls ns){b c i h h' o:Nat}(hb:b<L)(hc:c<L)(e1:(ss b).getD i none=some h)(e2:(ls b).getD i none=some o)(ho:(o:Int)=hs.getD i 0)(e3:(ss c).getD i none=some h'):c<=b:=by
 by_cases z:c<=b
 .exact z
 .have nx:=R.next b hb i (by rw[e1];intro z;cases z);rw[e2] at nx;have n0:(ss (b+1)).getD i none=none:=nx.trans (ao ho);have:=R.out b hb i (by rw[e1];intro z;cases z) n0 c (by lia) (by lia);rw[e3] at this;cases this
theorem wV(R:jm n g hs L ss ls ns){c h0:Nat}{zs:List Int}:∀ {k h:Nat},cT m L ss ls c h0 zs k=some h->dj (ba n g) k h0 h/\(0<k->∃i x:Nat,zs.getD (k-1) 0=i/\i<m/\c+(k-1)<L/\(ss (c+(k-1))).getD i none=some x/\(ls (c+(k-1))).getD i none=some h/\T (ba n g) x h)
 |0,h,e=>⟨bR e,fun z=>absurd z (by lia)⟩
 |k+1,h,e=>by
  cases e0:cT m L ss ls c h0 zs k with
  |none=>unfold cT at e;rw[e0] at e;cases e
  |some x=>
   by_cases s:fv m L ss (zs.getD k 0) ((c+k:Nat):Int) x=true
   .have e':=sU e0 s;rw[e'] at e;obtain⟨i,b,h1,h2,h3,h4,h5⟩:=qR s;obtain rfl:c+k=b:=by lia
    obtain⟨o,e1,t⟩:=R.goes h4 h5;have ho:h=o:=by
     rw[h1,cM,e1] at e;exact(bR e).symm
    subst ho;exact⟨⟨x,(wV R e0).1,t⟩,fun _=>⟨i,x,h1,h3,h4,h5,e1,t⟩⟩
   .have:=nU e0 s 0;rw[hX] at this;rw[this] at e;cases e
structure Nt(n:Nat)(g:Nat->List Nat)(hs:List Int)(m L:Nat)(ss ls:Nat->List (Option Nat))(j c M d o h0:Nat):Prop where
 M1:0<M
 one:M=1->d≠j
 dm:d<m
 cl:c<L
 s0:(ss c).getD j none=some h0
 o0:(ls c).getD j none=some o
 en:c+(M-1)<L
 hm:∃x e:Nat,(ss (c+(M-1))).getD d none=some x/\(ls (c+(M-1))).getD d none=some e/\(e:Int)=hs.getD d 0/\T (ba n g) x e/\dj (ba n g) M h0 e
theorem zm(R:jm n g hs L ss ls ns){j c:Nat}{zs:List Int}(h:jU hs m L ss ls j c zs=true):∃d o h0:Nat,zs.getD (zs.length-1) 0=d/\zs≠[]/\Nt n g hs m L ss ls j c zs.length d o h0:=by
 unfold jU at h;rw[eK,eK,eK] at h;obtain⟨h1,h2,h3,h4⟩:=h;obtain⟨j',c',h0,e1,e2,h5,h6,h7⟩:=gI h1;obtain rfl:j=j':=dR e1;obtain rfl:c=c':=dR e2;have AA:zs≠[]:=by rintro rfl;cases h2
 have zl:0<zs.length:=pK.mpr AA;rw[cM,cM,h7] at h4;cases ew:cT m L ss ls c ((some h0).getD 0) zs zs.length with
 |none=>rw[ew] at h4;cases h4
 |some e=>
  rw[ew] at h4;have he:=bU h4;obtain⟨w,k⟩:=wV R ew;obtain⟨d,x,q1,q2,q3,q4,q5,q6⟩:=k zl;obtain⟨o,e3,_⟩:=R.goes h6 h7;rw[q1,cM] at he;refine⟨d,o,h0,q1,AA,zl,fun z1 z2=>?_,q2,h6,h7,e3,q3,x,e,q4,q5,he,q6,w⟩;rw[z1] at q1;rw[show (1:Nat)-1=0 from rfl] at q1;rw[q1,z2] at h3;simp at h3
theorem EM(R:jm n g hs L ss ls ns)(F:eG n (ba n g)){j c M o h0:Nat}(C:Nt n g hs m L ss ls j c M j o h0):∃e:Nat,(e:Int)=hs.getD j 0/\e<n/\far (ba n g) o e<M:=by
 obtain⟨x,e,q1,q2,q3,q4,q5⟩:=C.hm;have M2:2<=M:=by
  have:=C.M1;by_cases z:M=1
  .exact absurd rfl (C.one z)
  .lia
 have w:=R.EL (M-2) c j h0 o x C.s0 C.o0 (by have:=C.en;lia) (by rw[show c+1+(M-2)=c+(M-1) by lia];exact q1);have w2:dj (ba n g) (M-2+1) o e:=⟨x,w,q4⟩
 obtain⟨o',e1,t⟩:=R.goes C.cl C.s0;obtain rfl:o=o':=by rw[C.o0] at e1;exact bR e1
 have:=F.yZ (F.Cm t).2.1 (F.Cm q4).2.1 w2;exact⟨e,q3,(F.Cm q4).2.1,by lia⟩
theorem HF(R:jm n g hs L ss ls ns)(F:eG n (ba n g)){j c M d o h0 c' M' o' Yp:Nat}(C:Nt n g hs m L ss ls j c M d o h0)(C':Nt n g hs m L ss ls j c' M' d o' Yp)(hc:c<c'):∃e:Nat,(e:Int)=hs.getD d 0/\e<n/\far (ba n g) o e<M:=by
 obtain⟨x,e,q1,q2,q3,q4,q5⟩:=C.hm;obtain⟨x',e',r1,r2,r3,r4,r5⟩:=C'.hm;have a1:=R.once C.en C'.en q1 q2 q3 r1;have a2:=R.once C'.en C.en r1 r2 r3 q1;have b1:=C.M1;have b2:=C'.M1;have w:=R.EL (c'-c-1) c j h0 o Yp C.s0 C.o0 (by have:=C'.cl;lia) (by rw[show c+1+(c'-c-1)=c' by lia];exact C'.s0);have w2:=w.trans r5;obtain⟨o2,e1,t⟩:=R.goes C.cl C.s0;obtain rfl:o=o2:=by rw[C.o0] at e1;exact bR e1
 have:=F.yZ (F.Cm t).2.1 (F.Cm r4).2.1 w2;exact⟨e',r3,(F.Cm r4).2.1,by lia⟩
end
open dD (zr zp PO FE Zs iA iB iZ dO)
abbrev ve:Stmt:=gw 41
abbrev wH:Stmt:=gw 42
abbrev EN:Stmt:=gw 43
theorem Vm:(["_law_other","_law_house"]:List Str).Nodup:=by decide +kernel
theorem EO{xs:List Nat}{i:Nat}{x:V}(h:(NV xs)[i]?=some x):∃z,xs[i]?=some z/\x=.int (z:Nat):=by
 rw[bn] at h;obtain⟨z,hz,rfl⟩:=pj.mp h;exact⟨z,hz,rfl⟩
theorem wW{K:PySem.W.Frag}{a D:Addr}{xs:List Nat}{g:TG}{tt:TT}{te:TE}{fin:Hp->Prop}{σB:St}{H0:Hp}(F:Nat->Int×Int)(dt:St->Prop)(ha:H0 a=some (.lst (NV xs)))(hD:H0 D=none)(hn:xs.length<=100000)(h0:dt σB)(hs:∀x σ H (R:V->St->Hp->Prop) (Kf:St->Hp->Prop),x∈xs->dt σ->aE H0 H->(∀σ2 p,dt σ2->H p=none->R (.ref p) σ2 (upd H p (FE (F x))))->g (.int (x:Nat)) σ H fun σ2 H2=>tt σ2 H2 fun b H3=>if b=true then te σ2 H3 fun v H4=>R v σ2 H4 else Kf σ2 H3)(hd:∀zs H,aE H0 H->H D=some (.lst (zr zs))->PO H zs->zp zs=xs.map F->fin H):gZ (CP K a) g tt te D fin σB (upd H0 D (.lst [])):=by
 refine eX (xs:=NV xs) (fun i ys σ H=>dt σ/\aE H0 H/\H D=some (.lst ys)/\∃zs:Zs,ys=zr zs/\PO H zs/\zp zs=(xs.take i).map F) ⟨h0,aj hD,af,[],rfl,dD.PO.nil,rfl⟩ (fun i ys σ H _ z=>aU.of (z.2.1 _ _ ha)) ?_ ?_
 .rintro i x ys σ H Kt Kf hx ⟨sh,sm,nN,zs,rfl,po,ep⟩ kt kf;obtain⟨z,hz,rfl⟩:=EO hx;have hi:i<xs.length:=(cK.mp hz).1;have hl:zs.length=i:=by rw[<-dO,ep,aO,jc];lia
  have tk:xs.take (i+1)=xs.take i++[z]:=by rw[io,hz];rfl
  refine hs z σ H Kt Kf (dP hz) sh sm (fun σ2 p BW hp=>?_);have nD:D≠p:=ai nN hp;refine kt _ _ _ (by rw[ak nD];exact nN) (by rw[iZ,hl];exact bV hi (bB hn (by decide))) ⟨BW,dD.bD (sm.trans (aj hp)) hD,af,zs++[(p,F z)],?_,?_,?_⟩
  .rw[iA];rfl
  .intro y hy;rcases bp.mp hy with q|q
   .have e:=po y q;rw[ak (cX e nN (by intro w;cases w)),ak (ai e hp)];exact e
   .rw[bS.mp q,ak nD.symm,af]
  .rw[iB,ep,tk,cD];rfl
 .rintro ys σ H ⟨_,sm,nN,zs,rfl,po,ep⟩;rw[show (NV xs).length=xs.length from aO _,gy] at ep;exact hd zs H sm nN po ep
section
variable {P:Program} {w:World} {K:PySem.W.Frag} {mg:Str->Option Value} {base:Heap}
theorem vf:aG ["_law_outs","_law_found","_law_house"] ["_law_outs"] (am ve):=⟨rfl,rfl,rfl,by decide +kernel,rfl,by decide +kernel,by decide +kernel⟩
def vg:Sp:=fun vs H Q _=>∃ (O:Addr) (as:List Addr) (n:Nat) (g:Nat->List Nat),vs=[.ref O]/\fm H O as n g/\gc n g/\n<=32/\∀ (l:Addr) (zs:Zs) (H':Hp),aE H H'->H l=none->H' l=some (.lst (zr zs))->PO H' zs->(zp zs).Perm (ba n g)->Q (.ref l) H'
def FJ(g:Nat->List Nat)(ks:List Nat):Ts:=ks.flatMap fun h=>(g h).map fun o=>(ci h,ci o)
theorem EQ{g:Nat->List Nat}{ks:List Nat}{h:Nat}:FJ g (ks++[h])=FJ g ks++(g h).map fun o=>(ci h,ci o):=by
 unfold FJ;rw[List.flatMap_append];simp
theorem ER{n:Nat}{g:Nat->List Nat}{ks:List Nat}(o:uY ks n):(FJ g ks).Perm (ba n g):=List.Perm.flatMap_right _ o
theorem AD{n:Nat}{g:Nat->List Nat}(G:gc n g):∀ {ks:List Nat},(∀h∈ks,h<n)->(FJ g ks).length<=8*ks.length
 |[],_=>by simp[FJ]
 |h::ks,m=>by
  have ih:=AD G (ks:=ks) fun x hx=>m x (cC _ hx);have:=G.le h (m h b9);have e:FJ g (h::ks)=((g h).map fun o=>(ci h,ci o))++FJ g ks:=by unfold FJ;rw[List.flatMap_cons]
  rw[e,cr,aO,cw];lia
theorem ES{f:Addr}{fd:FuncData}(F:fQ K "_law_ties" "_law_ties" ve f fd):br P w K mg base aZ 1 f fd ["_law_outs"] vg:=by
 refine F.ok vf (fun vs H Q E h=>?_) (fun dL A outer s H vs Q E hr h=>?_)
 .obtain⟨O,as,n,g,rfl,_⟩:=h;rfl
 .obtain⟨O,as,n,g,rfl,hO,G,FG,q⟩:=h;have hu:(A.deeper (PyProof.Rows.envOfC "_law_ties" (am ve) s.heap.objs.size f dL)).units+1<cLine:=by have:=hr.un;lia
  refine'⟨_,ah (aP (i:=1) vf.nd rfl (Or.inl rfl) (dX ag))
   (ah (dM eM rfl (wL (pv 0)) (aB (i:=2) vf.nd rfl (Or.inr rfl)) (al (cP (iy ij PySem.F.slot_list_extend PySem.F.type_list_extend Be (pv 1) (aa ?c ag)))))
   (al (aF (pv 1)))),?_⟩
  case c=>
   refine' cR (g:=bC 0) (te:=yz (cH (bb 1) (cH (bb 0) lH))) (NB:=["_law_other","_law_house"]) (src:=[none,some 2]) (cg (by kernel_rfl)) rfl (cf (bY hu (pv 0) (pv 2) (fun _ _=>rfl))) ?g ?t ?e;case g=>exact fun cl C s₃ H₃ fp=>aB (i:=0) Vm rfl (Or.inl rfl) (Or.inr rfl)
   case t=>exact fun cl C s₃ H₃ fp=>ff
   case e=>exact fun cl C s₃ H₃ fp=>fZ (aa (pv 1) (aa (pv 0) ag))
  refine⟨by show 0<=sizeLine;decide,fun F' hF=>?_⟩;obtain⟨o,ks,OK,hd⟩:=hO.dict;have kl:=OK.len;refine⟨_,rfl,O,_,o,rfl,aj hF _ _ hd,?_⟩;refine qy (fun i σ H3=>(∃v,σ=[some (.ref O),some (.ref F'),v])/\aE H H3/\∃zs:Zs,H3 F'=some (.lst (zr zs))/\PO H3 zs/\zp zs=FJ g (ks.take i)) ⟨⟨_,rfl⟩,aj hF,[],af,dD.PO.nil,rfl⟩ (fun i σ H3 _ z=>z.2.1 _ _ hd) ?_ ?_
  .rintro j k v σ H3 hk ⟨⟨v',rfl⟩,sm,zs,PJ,po,ez⟩;obtain⟨i,xq,rfl⟩:=mD hk;obtain⟨hj,hi,tk,ni⟩:=OK.at_ xq;change bC 2 (V.int (i:Int)) _ _ _;have LM:=hO.same sm;refine⟨_,rfl,.inl ⟨rfl,_,aU.of PJ⟩,_,rfl,_,rfl,O,_,rfl,LM.get hi,as.getD i 0,rfl,⟨_,aU.of (LM.rows.2 i hi)⟩,fun D hD=>?_⟩;have l8:=G.le i hi;refine wW (xs:=g i) (fun x=>(ci i,ci x)) (fun σ=>∃a,σ=[a,some (.int (i:Int))]) (LM.rows.2 i hi) hD (by lia) ⟨_,rfl⟩ ?_ ?_
   .rintro x σ H4 R Kf hx ⟨a,rfl⟩ qN kr;exact⟨_,rfl,_,rfl,by show 2<=sizeLine;decide,fun p hp=>kr _ p ⟨_,rfl⟩ hp⟩
   .intro lR H4 qN B0 FK Yq;have Yr:=qN _ _ PJ;have nFD:F'≠D:=ai PJ hD;have lz:(zr zs).length<=256:=by rw[iZ,<-dO,ez];have:=AD G (ks:=ks.take j) (fun x hx=>OK.mem.mp (mR hx));rw[jc] at this;lia
    have lz':(zr lR).length<=8:=by rw[iZ,<-dO,Yq,aO];exact l8
    refine⟨F',D,_,_,rfl,rfl,Yr,B0,bB (show (zr zs).length+(zr lR).length<=264 by lia) (by decide),⟨_,rfl⟩,dD.bD (sm.trans qN) hF,zs++lR,by rw[iA];exact af,?_,by rw[iB,ez,Yq,tk,EQ]⟩;intro y hy;have e:H4 y.1=some (FE y.2):=(bp.mp hy).elim (fun z=>qN _ _ (po y z)) (FK y);rw[ak (cX e Yr (by intro w;cases w))];exact e
  .rintro σ H3 ⟨⟨v',rfl⟩,sm,zs,PJ,po,ez⟩;rw[cp,gy] at ez;exact⟨_,rfl,q F' zs H3 sm hF PJ po (by rw[ez];exact ER OK)⟩
end
def vh(f:Nat->Nat)(xs:List Nat):List (dq×V):=xs.map fun (x:Nat)=>(Sum.inl (x:Int),V.int ((f x:Nat):Int))
theorem HG{f:Nat->Nat}{xs:List Nat}:(vh f xs).length=xs.length:=aO _
theorem pf{f:Nat->Nat}{x:Nat}:∀ {xs:List Nat},iz (vh f xs) (Sum.inl (x:Int))=if x∈xs then some (.int ((f x:Nat):Int)) else none
 |[]=>rfl
 |y::ys=>by
  unfold vh;rw[cW];by_cases e:y=x
  .subst e;rw[jL rfl,ao b9]
  .have e2:¬ ((Sum.inl (y:Int):dq)=Sum.inl (x:Int)):=fun z=>e (dR (pW z));rw[jM e2];have ih:=pf (f:=f) (x:=x) (xs:=ys);unfold vh at ih;rw[ih];by_cases h:x∈ys
   .rw[ao h,ao (cC _ h)]
   .rw[ap h,ap (fun z=>(bK.mp z).elim (fun q=>e q.symm) h)]
theorem HJ{f:Nat->Nat}{x k:Nat}{xs:List Nat}(h:x∉xs):fS (vh f xs) (Sum.inl (x:Int)) (.int ((k:Nat):Int))=vh (put f x k) (xs++[x]):=by
 rw[mq _ (by rw[pf,ap h])];unfold vh;rw[cD,cW,lw,gB];congr 1;refine i9 fun y hy=>?_;rw[eT (show y≠x from fun z=>h (z ▸ hy))]
def kY(H:Hp)(D:Addr)(n:Nat)(f:Nat->Nat):Prop:=∃Rs:List Nat,H D=some (.dK (vh f Rs))/\∀x,x<n->x∈Rs
theorem kY.same{H H':Hp}{D:Addr}{n:Nat}{f:Nat->Nat}(h:kY H D n f)(s:aE H H'):kY H' D n f:=let ⟨R,a,b⟩:=h;⟨R,s _ _ a,b⟩
theorem kY.get{H:Hp}{D:Addr}{n:Nat}{f:Nat->Nat}(h:kY H D n f){x:Nat}(hx:x<n):iT H D (.int (x:Int)) (some (.int ((f x:Nat):Int))):=by
 obtain⟨R,a,b⟩:=h;have:=iT.k (k:=Sum.inl (x:Int)) a;rw[pf,ao (b x hx)] at this;exact this
section
variable {P:Program} {w:World} {K:PySem.W.Frag} {mg:Str->Option Value} {base:Heap}
theorem oA:aG ["_law_outs","_law_home","_law_far_here","_law_row","_law_at","_law_house"] ["_law_outs","_law_home"] (am wH):=⟨rfl,rfl,rfl,by decide +kernel,rfl,by decide +kernel,by decide +kernel⟩
def AE:Sp:=fun vs H Q _=>∃ (O:Addr) (as:List Addr) (n:Nat) (g:Nat->List Nat) (s:Nat),vs=[.ref O,.int s]/\fm H O as n g/\eG n (ba n g)/\s<n/\∀ (r:Addr) (H':Hp),aE H H'->H r=none->kY H' r n (fun x=>far (ba n g) x s)->Q (.ref r) H'
theorem gJ{xs:List Nat}{v:Nat}:NV (xs++[v])=NV xs++[.int (v:Int)]:=by unfold NV;rw[cD];rfl
theorem LP{f:Addr}{fd:FuncData}(F:fQ K "_law_far" "_law_far" wH f fd)(B:Bl mg):br P w K mg base aZ 1 f fd ["_law_outs","_law_home"] AE:=by
 refine F.ok oA (fun vs H Q E h=>?_) (fun dL A outer s H vs Q E hr h=>?_)
 .obtain⟨O,as,n,g,s,rfl,_⟩:=h;rfl
 .obtain⟨O,as,n,g,st,rfl,hO,Fi,hs,k⟩:=h;have fi:=EK Fi;have n1:=fi.n1;have n2:=fi.n2;have hu:(A.deeper (PyProof.Rows.envOfC "_law_far" (am wH) s.heap.objs.size f dL)).units+1<cLine:=by have:=hr.un;lia
  refine'⟨_,ah (aP (i:=2) oA.nd rfl (Or.inl rfl) (GA (DC (pv 1) aq Gz) rfl rfl (by simp) (by decide)))
   (ah (aP (i:=3) oA.nd rfl (Or.inl rfl) (dX (aa (pv 1) ag)))
   (ah (aP (i:=4) oA.nd rfl (Or.inl rfl) aq)
   (ah (p9 eM (aN qb (pv 4) (aA aH (by rfl) B.len cG (aa (pv 3) ag)) (aM _))
    (ah (dM eM rfl (wL (pv 0)) (aB (i:=5) oA.nd rfl (Or.inl rfl))
     (al (bx (PW.pt (yk (uf (nI hu (pv 5) (pv 2))) (ug (aN nz (au az (pv 3) (pv 4) (fun _ _=>rfl)) (bY hu (pv 0) (pv 5) (fun _ _=>rfl)) (by rfl)))))
      (ah (mr hu (pv 2) (pv 5) (bo dB (bY hu (pv 2) (au az (pv 3) (pv 4) (fun _ _=>rfl)) (fun _ _=>rfl)) aq) rfl)
      (al (cP (iy ij kJ kI dh (pv 3) (aa (pv 5) ag))))) aR)))
    (al (aP (i:=4) oA.nd rfl (Or.inl rfl) (bo dB (pv 4) aq)))))
   (al (aF (pv 2)))))),?_⟩
  obtain⟨o,ks,OK,hd⟩:=hO.dict;refine fun D hD=>⟨_,rfl,af,[(Sum.inl (st:Int),.int 0)],rfl,by show 1<=15;decide,?_⟩
  rw[gY];have e0:nJ [] [(Sum.inl (st:Int),V.int 0)]=vh (fun _=>0) [st]:=rfl;rw[e0];have Ys:aE H (upd H D (.dK (vh (fun _=>0) [st]))):=aj hD;refine⟨_,rfl,by show 1<=sizeLine;decide,fun R hR=>?_⟩;have Jy:D≠R:=ai (H:=upd H D (.dK (vh (fun _=>0) [st]))) af hR;have Pi:H R=none:=Ys.free hR;refine vI (fun σ H2=>∃ (i:Nat) (Rs:List Nat) (f:Nat->Nat),i<=Rs.length/\xo n (lU (ba n g)) st i Rs f/\(∃a,σ=[some (.ref O),some (.int st),some (.ref D),some (.ref R),some (.int (i:Int)),a])/\aE H H2/\H2 D=some (.dK (vh f Rs))/\H2 R=some (.lst (NV Rs)))
   (fun σ _=>n-dD.Jw σ) ⟨0,[st],fun _=>0,df _,xo.start hs,⟨none,rfl⟩,Ys.trans (aj hR),by rw[ak Jy,af],af⟩ ?_ ?_
  .rintro σ H2 ⟨i,Rs,f,hi,Bf,⟨a,rfl⟩,sm,lX,Nk⟩;have hRn:Rs.length<=n:=eC Bf.nd Bf.lt;refine⟨_,rfl,_,rfl,R,_,rfl,.inl (aU.of Nk),_,_,rfl,rfl,_,rfl,?_⟩;rw[show (NV Rs).length=Rs.length from aO _];by_cases sH:i<Rs.length
   .rw[show decide ((i:Int)<((Rs.length:Nat):Int))=true by simp;lia];refine Ge ?_;have vX:Rs[i]?=some Rs[i]:=cm sH;generalize Rs[i]=u at vX;refine⟨_,rfl,O,_,o,rfl,sm _ _ hd,?_⟩;refine qy (fun j σ H3=>∃ (f_:List Nat) (f':Nat->Nat),xo n (lU (ba n g)) st i f_ f'/\f_[i]?=some u/\(∀v∈ks.take j,T (lU (ba n g)) u v->v∈f_/\f' v<=f' u+1)/\
      (∃b,σ=[some (.ref O),some (.int st),some (.ref D),some (.ref R),some (.int (i:Int)),b])/\aE H H3/\H3 D=some (.dK (vh f' f_))/\H3 R=some (.lst (NV f_)))
      ⟨Rs,f,Bf,vX,fun v hv=>by simp at hv,⟨_,rfl⟩,sm,lX,Nk⟩ (fun j σ H3 _ ⟨_,_,_,_,_,_,rH,_⟩=>rH _ _ hd) ?_ ?_
    .rintro j k0 v0 σ H3 hk ⟨f_,f',sL,ET,dn,⟨b',rfl⟩,rH,kD,vw⟩;obtain⟨v,hkv,rfl⟩:=mD hk;obtain⟨hj,D9,tk,nv⟩:=OK.at_ hkv;change bC 5 (V.int (v:Int)) _ _ _;have LM:=hO.same rH;have R8:(NV f_)[i]?=some (.int (u:Int)):=by rw[bn,ET];rfl
     have D_:u∈f_:=dP ET;have lW:i<f_.length:=(cK.mp ET).1;have Ea:f_.length<=n:=eC sL.nd sL.lt;have gD:∀x:Nat,iT H3 D (.int (x:Int)) (if x∈f_ then some (.int ((f' x:Nat):Int)) else none):=fun x=>by
      have:=iT.k (k:=Sum.inl (x:Int)) kD;rw[pf] at this;exact this
     have PL:T (lU (ba n g)) u v↔u∈g v:=by rw[EJ,wS];exact⟨fun z=>z.2,fun z=>⟨D9,z⟩⟩
     refine⟨_,rfl,_,rfl,D,_,rfl,gD v,_,rfl,?_⟩;by_cases y_:v∈f_
     .rw[ao y_];refine lJ ⟨f_,f',sL,ET,fun x hx t=>?_,⟨_,rfl⟩,rH,kD,vw⟩;rw[tk] at hx;rcases bp.mp hx with hx|hx
      .exact dn x hx t
      .rw[bS.mp hx];exact⟨y_,sL.bd u ET _ y_⟩
     .rw[ap y_];refine Ge ?_;refine⟨_,rfl,_,rfl,R,_,_,_,rfl,rfl,aU.of vw,bf R8,_,rfl,_,rfl,O,_,rfl,LM.get D9,as.getD v 0,NV (g v),rfl,.inl (aU.of (LM.rows.2 v D9)),rfl,qO,_,rfl,?_⟩;rw[o_];refine bL (fun e=>?_) (fun e=>?_)
      .have UQ:T (lU (ba n g)) u v:=PL.mpr (bU e);have g2:=gD u;rw[ao D_] at g2;refine⟨_,rfl,_,rfl,_,rfl,R,_,_,_,rfl,rfl,aU.of vw,bf R8,D,_,rfl,g2,_,_,rfl,rfl,_,rfl,_,rfl,D,_,rfl,qm.k (k:=Sum.inl (v:Int)) kD (by rw[HG];exact bV (show f_.length<33 by lia) (by decide)),?_⟩;have e1:fS (vh f' f_) (Sum.inl (v:Int)) (V.int (((f' u:Nat):Int)+1))=vh (put f' v (f' u+1)) (f_++[v]):=by
        rw[show ((f' u:Nat):Int)+1=((f' u+1:Nat):Int) by lia,HJ y_]
       rw[e1];have rj:(upd H3 D (.dK (vh (put f' v (f' u+1)) (f_++[v])))) R=some (.lst (NV f_)):=by rw[ak Jy.symm];exact vw
       refine⟨_,rfl,.inl ⟨rfl,_,aU.of rj⟩,_,rfl,R,_,_,rfl,rfl,rj,by rw[aO];exact bV (show f_.length<33 by lia) (by decide),?_⟩;have UR:u≠v:=fun z=>y_ (z ▸ D_);refine⟨f_++[v],put f' v (f' u+1),sL.add ET D9 UQ y_,by rw[i8 lW];exact ET,fun x hx t=>?_,⟨_,rfl⟩,dD.bD (dD.bD rH hD) Pi,?_,?_⟩
       .rw[eT UR];by_cases e:x=v
        .subst e;exact⟨by simp,by rw[gB];exact aL _⟩
        .have sr:x∈ks.take j:=by
          rw[tk] at hx;rcases bp.mp hx with hx|hx
          .exact hx
          .exact absurd (bS.mp hx) e
         obtain⟨q1,q2⟩:=dn x sr t;exact⟨gW _ q1,by rw[eT e];exact q2⟩
       .rw[ak Jy,af]
       .rw[af,gJ]
      .have e':¬ u∈g v:=fun z=>e (bJ z);refine⟨f_,f',sL,ET,fun x hx t=>?_,⟨_,rfl⟩,rH,kD,vw⟩;by_cases ex:x=v
       .subst ex;exact absurd (PL.mp t) e'
       .have sr:x∈ks.take j:=by
         rw[tk] at hx;rcases bp.mp hx with hx|hx
         .exact hx
         .exact absurd (bS.mp hx) ex
        exact dn x sr t
    .rintro σ H3 ⟨f_,f',sL,ET,dn,⟨b',rfl⟩,rH,kD,vw⟩;rw[cp,gy] at dn;have lW:i<f_.length:=(cK.mp ET).1;have Ea:f_.length<=n:=eC sL.nd sL.lt;refine⟨_,rfl,_,_,rfl,rfl,⟨i+1,f_,f',lW,sL.next ET (fun v t=>dn v (OK.mem.mpr (fi.Cm t).2.1) t),⟨_,rfl⟩,rH,kD,vw⟩,?_⟩;show n-((i:Int)+1).toNat<n-((i:Int)).toNat;lia
   .rw[show decide ((i:Int)<((Rs.length:Nat):Int))=false by simp;lia];refine lJ ?_;refine⟨_,rfl,k D H2 sm hD ⟨Rs,?_,fun x hx=>(Bf.done fi (by lia) hx).1⟩⟩;have e:vh f Rs=vh (fun x=>far (ba n g) x st) Rs:=by
     unfold vh;refine i9 fun x hx=>?_;have sr:=Bf.lt x hx;rw[(Bf.done fi (by lia) sr).2,HE Fi hs sr]
    rw[<-e];exact lX
  .rintro σ H2 Q1 Q2 imp ⟨v,e1,v2,e2,p,ys,e3,e4,i1,i2,e5,e6,kk,e7,q⟩;exact⟨v,e1,v2,e2,p,ys,e3,e4,i1,i2,e5,e6,kk,e7,imp _ _ q⟩
end
theorem PM:(["_law_home","_law_outs"]:List Str).Nodup:=by decide +kernel
structure eV(H:Hp)(r:Addr)(ds:List Addr)(n:Nat)(g:Nat->List Nat):Prop where
 dict:∃ks,uY ks n/\H r=some (.dK (eU ds ks))
 rows:∀j,j<n->kY H (ds.getD j 0) n (fun x=>far (ba n g) x j)
theorem eV.same{H H':Hp}{r:Addr}{ds:List Addr}{n:Nat}{g:Nat->List Nat}(h:eV H r ds n g)(s:aE H H'):eV H' r ds n g:=⟨let ⟨ks,a,b⟩:=h.dict;⟨ks,a,s _ _ b⟩,fun j hj=>(h.rows j hj).same s⟩
theorem eV.gm{H H':Hp}{p r:Addr}{ds:List Addr}{n:Nat}{g:Nat->List Nat}(h:eV H r ds n g)(s:a_ p H H')(hp:bj H p):eV H' r ds n g:=by
 obtain⟨a,b,e,_⟩:=hp;obtain⟨ks,ok,d⟩:=h.dict;exact⟨⟨ks,ok,s _ _ d (cX d e (by intro z;cases z))⟩,fun j hj=>let ⟨R,x,y⟩:=h.rows j hj;⟨R,s _ _ x (cX x e (by intro z;cases z)),y⟩⟩
theorem eV.get{H:Hp}{r:Addr}{ds:List Addr}{n:Nat}{g:Nat->List Nat}(h:eV H r ds n g){x:Nat}(hx:x<n):iT H r (.int x) (some (.ref (ds.getD x 0))):=by
 obtain⟨ks,o,d⟩:=h.dict;have:=iT.k (k:=.inl (x:Int)) d;rw[gx,ao (o.mem.mpr hx)] at this;exact this
section
variable {P:Program} {w:World} {K:PySem.W.Frag} {mg:Str->Option Value} {base:Heap}
theorem LQ:aG ["_law_outs"] ["_law_outs"] (am EN):=⟨rfl,rfl,rfl,by decide +kernel,rfl,by decide +kernel,by decide +kernel⟩
def zn:Sp:=fun vs H Q _=>∃ (O:Addr) (as:List Addr) (n:Nat) (g:Nat->List Nat),vs=[.ref O]/\ii H O as n g/\eG n (ba n g)/\∀ (r:Addr) (ds:List Addr) (H':Hp),eV H' r ds n g->fm H' O as n g->a_ O H H'->H r=none->Q (.ref r) H'
theorem HK{f:Addr}{fd:FuncData}(F:fQ K "_law_fars" "_law_fars" EN f fd)(B:Bl mg)(FA:b_ P w K mg base aZ 1 "_law_far" ["_law_outs","_law_home"] AE):br P w K mg base aZ 2 f fd ["_law_outs"] zn:=by
 refine F.ok LQ (fun vs H Q E h=>?_) (fun dL A outer s H vs Q E hr h=>?_)
 .obtain⟨O,as,n,g,rfl,_⟩:=h;rfl
 .obtain⟨O,as,n,g,rfl,hO,Fi,q⟩:=h;have n2:=Fi.n2;refine'⟨_,al (aF (dg (yV rfl) (by rfl) B.dict PyProof.Rows.boot_dict (aa ?c ag))),?_⟩;case c=>
   refine' cR (g:=bC 0) (te:=yz (cH (bb 0) (cH (rY AE [] E0 (cH (bb 1) (cH (bb 0) lH))) lH))) (NB:=["_law_home","_law_outs"]) (src:=[none,some 0]) (cg (by kernel_rfl)) rfl (Ai (pv 0)) ?g ?t ?e;case g=>exact fun cl C s₃ H₃ fp=>aB (i:=0) PM rfl (Or.inl rfl) (Or.inr rfl)
   case t=>exact fun cl C s₃ H₃ fp=>ff
   case e=>exact fun cl C s₃ H₃ fp=>fZ (aa (pv 0) (aa (aD FA hr aQ (aa (pv 1) (aa (pv 0) ag))) ag))
  obtain⟨ks,OK,hd⟩:=hO.dict;have kl:=OK.len;refine⟨_,rfl,O,_,rfl,hd,fun o D hD=>?_⟩;have Yt:(upd H O (.iF o (.dK (eU as ks)))) O=some (.iF o (.dK (eU as ks))):=af;have Vn:∀j,j<n->as.getD j 0≠O:=fun j hj=>cX (hO.rows.2 j hj) hd (by intro z;cases z);have Yu:fm (upd H O (.iF o (.dK (eU as ks)))) O as n g:=⟨⟨o,ks,OK,af⟩,hO.rows.mono fun j hj e=>by rw[ak (Vn j hj)];exact e,hO.inj⟩
  have sE:a_ O H (upd H O (.iF o (.dK (eU as ks)))):=a_.upd;have fr:∀b,(upd H O (.iF o (.dK (eU as ks)))) b=none->H b=none:=fun b e=>by
   cases z:H b with
   |none=>rfl
   |some u=>
    by_cases eb:b=O
    .subst eb;rw[Yt] at e;cases e
    .rw[sE b u z eb] at e;cases e
  generalize upd H O (.iF o (.dK (eU as ks)))=H1 at *;refine B2 (d:=O) (o:=o) (kvs:=eU as ks) (fun i ys σ H2=>(∃a,σ=[a,some (.ref O)])/\aE H1 H2/\H2 D=some (.lst ys)/\∃ (ts:List Addr) (A:Nat->Addr),ys=ts.map V.ref/\Holds H2 ts i (fun j=>.tup [.int ((ks.getD j 0:Nat):Int),.ref (A (ks.getD j 0))])/\∀h∈ks.take i,kY H2 (A h) n (fun x=>far (ba n g) x h))
   ⟨⟨_,rfl⟩,aj hD,af,[],fun _=>0,rfl,Holds.nil,fun j hj=>by simp at hj⟩ (fun i ys σ H2 _ z=>z.2.1 _ _ Yt) ?_ ?_
  .rintro j k v ys σ H2 Kt Kf hk ⟨⟨a,rfl⟩,sm,lX,ts,A,rfl,Ab,Si⟩ kt kf;obtain⟨i,xq,rfl⟩:=mD hk;obtain⟨hj,hi,tk,ni⟩:=OK.at_ xq;change bC 0 (V.int (i:Int)) _ _ _;refine⟨_,rfl,_,rfl,_,rfl,O,as,n,g,i,rfl,Yu.same sm,Fi,hi,fun r H3 s3 Yn F3=>⟨by show 2<=sizeLine;decide,fun t ht=>?_⟩⟩;have s4:=aj (o:=.tup [.int (i:Int),.ref r]) ht;have B0:=s4 _ _ (s3 _ _ lX);have hti:=af (H:=H3) (a:=t) (o:=.tup [.int (i:Int),.ref r]);have F4:=F3.same s4;have Vo:=s3.trans s4;generalize upd H3 t (.tup [.int (i:Int),.ref r])=H4 at *;have keep:∀b u,H4 b=some u->(∀xs,u≠.lst xs)->(upd H4 D (.lst (ts.map V.ref++[.ref t]))) b=some u:=fun b u e z=>by rw[ak (cX e B0 (z _))];exact e
   have JG:∀b f,kY H4 b n f->kY (upd H4 D (.lst (ts.map V.ref++[.ref t]))) b n f:=fun b f z=>let ⟨R,x,y⟩:=z;⟨R,keep _ _ x (by intro xs w;cases w),y⟩;have kg:ks.getD j 0=i:=by rw[bO,xq];rfl
   have eA:∀h∈ks.take j,jk A i r h=A h:=fun h m=>by unfold jk;rw[ap (fun (z:h=i)=>ni (by rw[<-z];exact m))]
   have eI:jk A i r i=r:=by unfold jk;rw[ao rfl]
   refine kt _ _ _ B0 (by rw[aO,Ab.1];exact bV (show j<33 by lia) (by decide)) ⟨⟨_,rfl⟩,dD.bD (sm.trans Vo) hD,af,ts++[t],jk A i r,by rw[cD];rfl,?_,fun h hh=>?_⟩
   .refine⟨by rw[cr,Ab.1];rfl,fun x hx=>?_⟩;rw[j8 Ab.1];show _=some (HO.tup [.int ((ks.getD x 0:Nat):Int),.ref (jk A i r (ks.getD x 0))]);by_cases e:x=j
    .rw[ao e,e,kg,eI];exact keep _ _ hti (by intro xs w;cases w)
    .have mx:ks.getD x 0∈ks.take j:=by
      have Sj:x<ks.length:=by lia
      rw[bO,cm Sj];exact Cz.mpr ⟨x,by lia,rfl⟩
     rw[ap e,eA _ mx];exact keep _ _ (Vo _ _ (Ab.2 x (by lia))) (by intro xs w;cases w)
   .rw[tk] at hh;rcases bp.mp hh with m|m
    .rw[eA h m];exact JG _ _ ((Si h m).same Vo)
    .rw[bS.mp m,eI];exact JG _ _ F4
  .rintro ys σ H2 ⟨_,sm,lX,ts,A,rfl,Ab,Si⟩;rw[cp,kl] at Ab;rw[cp,gy] at Si;refine⟨D,ts,eE A ks,rfl,lX,by rw[Ab.1,cp,kl],fun i hi=>?_,?_,fun r vv=>?_⟩
   .rw[cp] at hi;have lW:i<n:=by lia
    refine⟨.inl ((ks.getD i 0:Nat):Int),.ref (A (ks.getD i 0)),?_,Ab.2 i lW⟩;unfold eE;rw[bn,cm hi,bO,cm hi];rfl
   .rw[cp];lia
   .rw[sO OK.nd];have s5:=aj (o:=.dK (eE A ks)) vv;refine q r ((List.range n).map A) _ ⟨⟨ks,OK,by rw[af];exact congrArg (fun z=>some (HO.dK z)) (jR fun x hx=>(hJ (OK.mem.mp hx)).symm)⟩,fun h hh=>?_⟩ ((Yu.same sm).same s5) (sE.trans (a_.of (sm.trans s5))) (fr r (sm.free vv));rw[hJ hh];exact(Si h (OK.mem.mpr hh)).same s5
end
open dD (zr zp PO FE Zs cS NT mC sK BY)
abbrev LU:Stmt:=gw 24
section
variable {P:Program} {w:World} {K:PySem.W.Frag} {mg:Str->Option Value} {base:Heap}
theorem PN:aG ["net","homes","stands","log","letter","beat","chain"] ["net","homes","stands","log","letter","beat","chain"] (am LU):=⟨rfl,rfl,rfl,by decide +kernel,rfl,by decide +kernel,by decide +kernel⟩
def EU(C:Addr):Sp:=fun vs H Q _=>∃ (p a SA LA Z:Addr) (bu bv:List Addr) (m L:Nat) (ss ls:Nat->List (Option Nat)) (hs zs ns:List Int) (j c n:Nat) (g:Nat->List Nat) (Lp:Addr->Prop),vs=[.ref p,.ref a,.ref SA,.ref LA,.int j,.int c,.ref Z]/\H a=some (.tup (HV hs))/\hs.length=m/\cI H SA LA bu bv m L ss ls/\jm n g hs L ss ls ns/\H Z=some (.lst (HV zs))/\j<m/\
 cS C H Lp p n (ba n g)/\jU hs m L ss ls j c zs=true/\∀ (b:Bool) (H':Hp),aE H H'->(∀d o e:Nat,zs.getD (zs.length-1) 0=(d:Int)->(ls c).getD j none=some o->hs.getD d 0=(e:Int)->b=decide (zs.length<=far (ba n g) o e))->Q (.bl b) H'
theorem LV{f C:Addr}{fd:FuncData}(F:fQ K "is_straight" "is_straight" LU f fd)(B:Bl mg)(T:NT K mg C)(CH:b_ P w K mg base aZ 5 "is_chain" ["homes","stands","log","letter","beat","thing"] pe)(MF:mC P w K mg base aZ 5 C "far" ["self","one","other"] (dD.nQ C)):
  br P w K mg base aZ 6 f fd ["net","homes","stands","log","letter","beat","chain"] (EU C):=by
 obtain⟨fF,fdF,mF,bF,GF⟩:=MF.ex;refine F.ok PN (fun vs H Q E h=>?_) (fun dL A outer s H vs Q E hr h=>?_)
 .obtain⟨p,a,SA,LA,Z,bu,bv,m,L,ss,ls,hs,zs,ns,j,c,n,g,Lp,rfl,_⟩:=h;rfl
 .obtain⟨p,a,SA,LA,Z,bu,bv,m,L,ss,ls,hs,zs,ns,j,c,n,g,Lp,rfl,ha,hl,LG,R,hZ,hj,N,hc,q⟩:=h;refine⟨_,ah (bx (dU (dA (aD CH hr aQ (aa (pv 1) (aa (pv 2) (aa (pv 3) (aa (pv 4) (aa (pv 5) (aa (pv 6) ag))))))))) dJ aR)
   (al (aF (cY CV (iR (pv 0) T.cl mF GF hr bF .nil aQ (aa (au aV (au az (pv 3) (pv 5) (fun _ _=>rfl)) (pv 4) (fun _ _=>rfl)) (aa (au aV (pv 1) (au az (pv 6) (n_ jH aq) (fun _ _=>rfl)) (fun _ _=>rfl)) ag)))
    (aA aH (by rfl) B.len cG (aa (pv 6) ag)) (aM _)))),?_⟩
  refine⟨_,rfl,_,rfl,_,rfl,_,rfl,_,rfl,_,rfl,a,SA,LA,Z,bu,bv,m,L,ss,ls,hs,zs,j,c,rfl,ha,hl,LG,hZ,fun H1 s1=>⟨_,rfl,?_⟩⟩;rw[hc];refine lJ ?_;obtain⟨d,o,h0,zd,AA,Ch⟩:=zm R hc;obtain⟨x,e,q1,q2,q3,q4,q5⟩:=Ch.hm;have fi:=N.i6;obtain⟨o',e1,t⟩:=R.goes Ch.cl Ch.s0;obtain rfl:o=o':=by rw[Ch.o0] at e1;exact bR e1
  have hon:=(fi.Cm t).2.1;have hen:=(fi.Cm q4).2.1;have Sk:=LG.same s1;obtain⟨g1,g2,g3,g4,g5,g6⟩:=Sk;have Yv:(ls c).length=m:=by rw[(g6 c Ch.cl).1];exact g5 c (dG Ch.cl)
  have N1:=N.same s1;obtain⟨dx,tl,ol,ds,hn,_⟩:=N1.ob;have wR:ft (SV (ls c)) (j:Int)=some (.int (o:Int)):=by rw[dv (by lia),Ch.o0];rfl
  have at3:ft (HV hs) (zs.getD (zs.length-1) 0)=some (.int (e:Int)):=by rw[zd,hU (by have:=Ch.dm;lia),<-q3]
  refine⟨_,rfl,p,dx,_,rfl,hn,BY _ _ _ _,_,rfl,_,rfl,LA,_,_,_,rfl,rfl,aU.of g2,eJ (by rw[g4.1];exact Ch.cl),_,rfl,bv.getD c 0,_,_,_,rfl,rfl,cx.of (g4.2 c Ch.cl),wR,
   _,rfl,_,rfl,_,rfl,Z,_,_,_,rfl,rfl,aU.of (s1 _ _ hZ),vd AA,a,_,_,_,rfl,rfl,cx.of (s1 _ _ ha),at3,Lp,p,n,ba n g,o,e,rfl,N1,hon,hen,?_⟩
  refine⟨_,rfl,Z,_,rfl,.inl (aU.of (s1 _ _ hZ)),_,_,rfl,rfl,q _ H1 s1 fun d' o2 e2 Yw eo ee=>?_⟩;obtain rfl:d=d':=by rw[zd] at Yw;exact dR Yw
  obtain rfl:o=o2:=by rw[Ch.o0] at eo;exact bR eo
  obtain rfl:e=e2:=by rw[<-q3] at ee;exact dR ee
  rw[show (HV zs).length=zs.length from aO _];exact mU.mpr (by lia)
end
noncomputable def dH(n:Nat)(g:Nat->List Nat)(hs:List Int)(i h:Nat):Nat:=far (ba n g) h (hs.getD i 0).toNat
noncomputable def gK(n:Nat)(g:Nat->List Nat)(hs:List Int)(s l:List (Option Nat))(i:Nat):Bool:=match s.getD i none,l.getD i none with
 |some h,some o=>decide (dH n g hs i h<=dH n g hs i o)
 |_,_=>false
noncomputable def dw(n:Nat)(g:Nat->List Nat)(hs:List Int)(i h:Nat):List Nat:=(g h).filter fun o=>decide (dH n g hs i o<dH n g hs i h)
def NF(n:Nat)(g:Nat->List Nat)(hs:List Int)(s l:List (Option Nat)):Prop:=∀i h,s.getD i none=some h->gK n g hs s l i=true->∀o∈dw n g hs i h,∃j,s.getD j none=some h/\l.getD j none=some o/\dH n g hs j o<dH n g hs j h/\dH n g hs j h<=dH n g hs i h
def Sl(s l:List (Option Nat))(h o:Nat):Nat:=((List.range s.length).find? fun j=>decide (s.getD j none=some h)&&decide (l.getD j none=some o)).getD 0
theorem LW{g:Nat->List Nat}{s l:List (Option Nat)}{h o j:Nat}(Hd:cZ g s l)(e1:s.getD j none=some h)(e2:l.getD j none=some o):Sl s l h o=j:=by
 unfold Sl;cases e:(List.range s.length).find? fun j=>decide (s.getD j none=some h)&&decide (l.getD j none=some o) with
 |none=>
  have:=List.find?_eq_none.mp e j (bN.mpr (aS e1).1);rw[e1,e2] at this;simp at this
 |some k=>
  have:=List.find?_some e;rw[eK,eZ,eZ] at this;exact Hd.Sh k j h o this.1 e1 this.2 e2
noncomputable def jV(n:Nat)(g:Nat->List Nat)(hs:List Int)(ss ls:Nat->List (Option Nat))(b i:Nat):Nat:=if gK n g hs (ss b) (ls b) i=true then Sl (ss b) (ls b) (((ss b).getD i none).getD 0) ((dw n g hs i (((ss b).getD i none).getD 0)).headD 0) else i
def kZ(hs:List Int)(l:List (Option Nat))(c:Nat):Bool:=match l.getD c none with
 |some o=>decide ((o:Int)=hs.getD c 0)
 |none=>false
def wX(hs:List Int)(ls:Nat->List (Option Nat))(nx:Nat->Nat->Nat):Nat->Nat->Nat->Option (List Nat)
 |0,_,_=>none
 |k+1,b,c=>if kZ hs (ls b) c=true then some [c] else (wX hs ls nx k (b+1) (nx (b+1) c)).map (c::·)
noncomputable def AF(n:Nat)(g:Nat->List Nat)(hs:List Int)(L:Nat)(ss ls:Nat->List (Option Nat))(b i:Nat):Option (List Nat):=
 if b<L/\gK n g hs (ss b) (ls b) i=true then wX hs ls (jV n g hs ss ls) (L-b) b (jV n g hs ss ls b i) else none
inductive mJ (hs:List Int) (L:Nat) (ss ls:Nat->List (Option Nat)):Nat->Nat->List Nat->Nat->Prop where
 |last {b h c o:Nat} (hb:b<L) (e1:(ss b).getD c none=some h) (e2:(ls b).getD c none=some o) (e3:(o:Int)=hs.getD c 0):mJ hs L ss ls b h [c] o
 |cons {b h c o e:Nat} {zs:List Nat} (hb:b<L) (e1:(ss b).getD c none=some h) (e2:(ls b).getD c none=some o) (r:mJ hs L ss ls (b+1) o zs e):mJ hs L ss ls b h (c::zs) e
abbrev IN(zs:List Nat):List Int:=zs.map fun (i:Nat)=>(i:Int)
theorem ku{zs:List Nat}{k:Nat}:(IN zs).getD k 0=((zs.getD k 0:Nat):Int):=by
 rw[bO,bO,bn];cases zs[k]? <;> rfl
theorem lV{m L:Nat}{ss ls:Nat->List (Option Nat)}{c:Int}{zs:List Int}:∀ {k b h:Nat},cT m L ss ls b h (c::zs) (k+1)=if fv m L ss c (b:Int) h=true then cT m L ss ls (b+1) (((ls b).getD c.toNat none).getD 0) zs k else none
 |0,b,h=>rfl
 |k+1,b,h=>by
  have ih:=lV (m:=m) (L:=L) (ss:=ss) (ls:=ls) (c:=c) (zs:=zs) (k:=k) (b:=b) (h:=h);rw[show cT m L ss ls b h (c::zs) (k+1+1)=(match cT m L ss ls b h (c::zs) (k+1) with
   |none=>none
   |some h=>if fv m L ss ((c::zs).getD (k+1) 0) ((b+(k+1):Nat):Int) h=true then some (((ls (b+(k+1))).getD ((c::zs).getD (k+1) 0).toNat none).getD 0) else none) from rfl,ih]
  by_cases e:fv m L ss c (b:Int) h=true
  .rw[ao e,ao e];rw[show cT m L ss ls (b+1) (((ls b).getD c.toNat none).getD 0) zs (k+1)=(match cT m L ss ls (b+1) (((ls b).getD c.toNat none).getD 0) zs k with
    |none=>none
    |some h=>if fv m L ss (zs.getD k 0) ((b+1+k:Nat):Int) h=true then some (((ls (b+1+k)).getD (zs.getD k 0).toNat none).getD 0) else none) from rfl,xN,show b+(k+1)=b+1+k by lia]
  .rw[ap e,ap e]
theorem mJ.walk{hs:List Int}{m L:Nat}{ss ls:Nat->List (Option Nat)}{b h:Nat}{zs:List Nat}{e:Nat}(A:mJ hs L ss ls b h zs e)(sl:∀b,b<=L->(ss b).length=m):cT m L ss ls b h (IN zs) zs.length=some e/\zs≠[]/\(∃d:Nat,zs.getD (zs.length-1) 0=d/\(e:Int)=hs.getD d 0):=by
 induction A with
 |@last b h c o hb e1 e2 e3=>
  have hc:c<m:=by rw[<-sl b (dG hb)];exact(aS e1).1
  refine⟨?_,by simp,c,rfl,e3⟩;show cT m L ss ls b h [(c:Int)] (0+1)=_;rw[lV,ao (Az hc hb e1),cM,e2];rfl
 |@cons b h c o e zs hb e1 e2 r ih=>
  obtain⟨w,ne,d,hd,he⟩:=ih;have hc:c<m:=by rw[<-sl b (dG hb)];exact(aS e1).1
  refine⟨?_,by simp,d,?_,he⟩
  .show cT m L ss ls b h ((c:Int)::IN zs) (zs.length+1)=_;rw[lV,ao (Az hc hb e1),cM,e2];exact w
  .rw[<-hd];have hz:0<zs.length:=pK.mpr ne;rw[cw,show zs.length+1-1=(zs.length-1)+1 by lia,xN]
theorem mJ.chain{hs:List Int}{m L:Nat}{ss ls:Nat->List (Option Nat)}{b h i:Nat}{zs:List Nat}{e:Nat}(A:mJ hs L ss ls b h zs e)(sl:∀b,b<=L->(ss b).length=m)(hb:b<L)(e1:(ss b).getD i none=some h)(ni:zs.headD 0≠i):jU hs m L ss ls i b (IN zs)=true:=by
 obtain⟨w,ne,d,hd,he⟩:=A.walk sl;have hi:i<m:=by rw[<-sl b (dG hb)];exact(aS e1).1
 unfold jU;rw[iq hi hb e1,cM,cM,e1,aO];show (true&&(!(IN zs).isEmpty&&(!decide ((IN zs).getD 0 0=(i:Int))&&EG hs (IN zs) (cT m L ss ls b h (IN zs) zs.length))))=true;rw[w];unfold EG;rw[aO,ku,ku,hd,cM];cases zs with
 |nil=>exact absurd rfl ne
 |cons c zs=>
  have n1:¬ ((c:Int)=(i:Int)):=fun z=>ni (dR z);simp only[cW,List.isEmpty_cons,yf,jz,List.getD_cons_zero,cE n1,bJ he]
def fd(n i j:Nat):Nat:=if i<=j then j-i else j+n-i
def rd(n i j:Nat):Nat:=if fd n i j<=fd n j i then fd n i j else fd n j i
def sc(n i:Nat):Nat:=if i+1=n then 0 else i+1
structure Rg(n:Nat)(g:Nat->List Nat)(P:Nat->Nat):Prop where
 n3:3<=n
 lt:∀h,h<n->P h<n
 inj:∀h k,h<n->k<n->P h=P k->h=k
 on:∀k,k<n->∃h,h<n/\P h=k
 tie:∀h o,h<n->(o∈g h↔o<n/\(P o=sc n (P h)\/P h=sc n (P o)))
theorem HL{n i j k:Nat}(n3:3<=n)(hi:i<n)(hj:j<n)(hk:k<n)(h:k=sc n j\/j=sc n k):rd n i k<=rd n i j+1:=by
 unfold rd fd sc at *
 grind
theorem HN{n i j d:Nat}(n3:3<=n)(hi:i<n)(hj:j<n)(h:rd n i j=d+1):∃k,k<n/\rd n i k=d/\(j=sc n k\/k=sc n j):=by
 by_cases c:fd n i j<=fd n j i
 .refine⟨if j=0 then n-1 else j-1,?_,?_,.inl ?_⟩ <;> (unfold rd fd at *;(try unfold sc at *);grind)
 .refine⟨sc n j,?_,?_,.inr rfl⟩ <;> (unfold rd fd at *;(try unfold sc at *);grind)
theorem gL{n:Nat}{g:Nat->List Nat}{P:Nat->Nat}(R:Rg n g P)(F:eG n (ba n g)){a b:Nat}(ha:a<n)(hb:b<n):far (ba n g) a b=rd n (P a) (P b):=by
 have n3:=R.n3;have le:∀k b,b<n->dj (ba n g) k a b->rd n (P a) (P b)<=k:=by
  intro k;induction k with
  |zero=>
   intro b hb w;obtain rfl:a=b:=w;have:=R.lt a ha;unfold rd fd;split <;> split <;> lia
  |succ k ih=>
   rintro b hb ⟨c,w,t⟩;obtain⟨hc,hm⟩:=wS.mp t;have:=ih c hc w;have:=HL n3 (R.lt a ha) (R.lt c hc) (R.lt b hb) ((R.tie c b hc).mp hm).2;lia
 have ge:∀d b,b<n->rd n (P a) (P b)=d->dj (ba n g) d a b:=by
  intro d;induction d with
  |zero=>
   intro b hb e;refine R.inj a b ha hb ?_;have:=R.lt a ha;have:=R.lt b hb;unfold rd fd at e;split at e <;> split at e <;> lia
  |succ d ih=>
   intro b hb e;obtain⟨k,hk,e1,t⟩:=HN n3 (R.lt a ha) (R.lt b hb) e;obtain⟨c,hc,rfl⟩:=R.on k hk;exact⟨c,ih c hc e1,wS.mpr ⟨hc,(R.tie c b hc).mpr ⟨hb,t⟩⟩⟩
 exact qI ⟨ge _ b hb rfl,fun k w=>le k b hb w⟩
def W(n:Nat)(d:Bool)(i j:Nat):Nat:=if d=true then fd n i j else fd n j i
def Sd(n:Nat)(d:Bool)(i j:Nat):Prop:=if d=true then j=sc n i else i=sc n j
theorem Vp{n i j:Nat}{d:Bool}(hi:i<n)(hj:j<n)(h:2*W n d i j<n):rd n i j=W n d i j:=by
 unfold W rd fd at *;grind
theorem EV{n i j k:Nat}{d:Bool}(n3:3<=n)(hi:i<n)(hj:j<n)(hk:k<n)(s:Sd n d i k)(h:0<W n d i j):W n d i j=W n d k j+1:=by
 unfold W fd Sd sc at *;grind
theorem JH{n i j k:Nat}{d:Bool}(n3:3<=n)(hi:i<n)(hj:j<n)(hk:k<n)(t:k=sc n i\/i=sc n k)(h:2*W n d i j<n)(c:rd n k j<rd n i j):Sd n d i k:=by
 unfold rd W fd Sd sc at *;grind
theorem PP{n i j k:Nat}{d:Bool}(n3:3<=n)(hi:i<n)(hj:j<n)(hk:k<n)(s:Sd n d i k)(c:rd n k j<rd n i j)(h:2*rd n i j<n):W n d i j=rd n i j:=by
 unfold rd W fd Sd sc at *;grind
theorem Vq{n i j k l:Nat}(n3:3<=n)(hi:i<n)(hj:j<n)(hk:k<n)(hl:l<n)(t:k=sc n i\/i=sc n k)(u:l=sc n i\/i=sc n l)(c:rd n k j<rd n i j)(e:¬ rd n l j<rd n i j):2*rd n i j<n/\∃d,Sd n d i k/\Sd n (!d) i l:=by
 refine⟨by unfold rd fd sc at *;grind,?_⟩;rcases t with t|t
 .refine⟨true,t,?_⟩;rcases u with u|u
  .exact absurd c (by rw[t,<-u];exact e)
  .exact u
 .refine⟨false,t,?_⟩;rcases u with u|u
  .exact u
  .refine absurd c ?_;have:k=l:=by unfold sc at t u;grind
   rw[this];exact e
theorem back{n i l e:Nat}{d:Bool}(n3:3<=n)(hi:i<n)(hl:l<n)(he:e<n)(s:Sd n (!d) i l)(h:2*W n d i e<n):W n d i e<=rd n l e:=by
 unfold rd W fd Sd sc at *;grind
section
variable {n:Nat} {g:Nat->List Nat} {hs ns:List Int} {m L:Nat} {ss ls:Nat->List (Option Nat)} {P:Nat->Nat}
structure gv(n:Nat)(g:Nat->List Nat)(hs:List Int)(L:Nat)(ss ls:Nat->List (Option Nat))(ns:List Int):Prop where
 r:jm n g hs L ss ls ns
 nf:∀b,b<L->NF n g hs (ss b) (ls b)
 hm:∀h∈hs,0<=h/\h<n
 off:∀b,b<=L->∀i h,(ss b).getD i none=some h->hs.getD i 0≠(h:Int)
 sl:∀b,b<=L->(ss b).length=hs.length
theorem gv.home(N:gv n g hs L ss ls ns){b i h:Nat}(hb:b<=L)(e:(ss b).getD i none=some h):∃k:Nat,k<n/\hs.getD i 0=(k:Int)/\(hs.getD i 0).toNat=k/\k≠h/\h<n/\i<hs.length:=by
 have hi:i<hs.length:=by rw[<-N.sl b hb];exact(aS e).1
 have mm:hs.getD i 0∈hs:=by rw[bO,cm hi];exact jd _
 obtain⟨a,c⟩:=N.hm _ mm;have o:=N.off b hb i h e;refine⟨(hs.getD i 0).toNat,by lia,by lia,rfl,by lia,N.r.lt b hb i h e,hi⟩
theorem iC{i h o:Nat}:o∈dw n g hs i h↔o∈g h/\dH n g hs i o<dH n g hs i h:=by
 unfold dw;rw[bX,eZ]
theorem zo(F:eG n (ba n g)){i h:Nat}(hh:h<n)(hk:(hs.getD i 0).toNat<n)(ne:(hs.getD i 0).toNat≠h):∃o l,dw n g hs i h=o::l:=by
 have fs:=F.GY hh hk;cases e:dH n g hs i h with
 |zero=>
  unfold dH at e;rw[e] at fs;exact absurd fs.1.symm ne
 |succ d=>
  unfold dH at e;rw[e] at fs;obtain⟨b,t,w⟩:=dj.DN fs.1;have tl:=F.Cm t;have:=F.yZ tl.2.1 hk w;have mb:b∈dw n g hs i h:=iC.mpr ⟨(wS.mp t).2,by unfold dH;rw[e];lia⟩;cases z:dw n g hs i h with
  |nil=>rw[z] at mb;cases mb
  |cons o l=>exact⟨o,l,rfl⟩
theorem jW{s l:List (Option Nat)}{i h o:Nat}(e1:s.getD i none=some h)(e2:l.getD i none=some o):gK n g hs s l i=decide (dH n g hs i h<=dH n g hs i o):=by
 unfold gK;rw[e1,e2]
theorem sW{s l:List (Option Nat)}{i:Nat}(h:gK n g hs s l i=true):∃x o,s.getD i none=some x/\l.getD i none=some o:=by
 unfold gK at h;cases e1:s.getD i none with
 |none=>rw[e1] at h;cases h
 |some x=>
  cases e2:l.getD i none with
  |none=>rw[e1,e2] at h;cases h
  |some o=>exact⟨x,o,rfl,rfl⟩
theorem gv.taker(N:gv n g hs L ss ls ns)(F:eG n (ba n g)){b i:Nat}(hb:b<L)(led:gK n g hs (ss b) (ls b) i=true):
  ∃h o' o l j,(ss b).getD i none=some h/\(ls b).getD i none=some o'/\o'∈g h/\h<n/\dw n g hs i h=o::l/\jV n g hs ss ls b i=j/\(ss b).getD j none=some h/\(ls b).getD j none=some o/\o∈g h/\dH n g hs i o<dH n g hs i h/\¬ dH n g hs i o'<dH n g hs i h/\dH n g hs j o<dH n g hs j h/\dH n g hs j h<=dH n g hs i h:=by
 obtain⟨h,o',e1,e2⟩:=sW led;obtain⟨k,k1,k2,k3,k4,k5,_⟩:=N.home (dG hb) e1;obtain⟨o,l,eg⟩:=zo F (hs:=hs) (i:=i) k5 (by rw[k3];exact k1) (by rw[k3];exact k4);have mo:o∈dw n g hs i h:=by rw[eg];exact b9
 obtain⟨j,j1,j2,j3,j4⟩:=N.nf b hb i h e1 led o mo;obtain⟨o2,e3,m2⟩:=(N.r.tie b hb).tie i h e1;rw[e2] at e3;cases e3;refine⟨h,o',o,l,j,e1,e2,m2,k5,eg,?_,j1,j2,(iC.mp mo).1,(iC.mp mo).2,?_,j3,j4⟩
 .unfold jV;rw[ao led,e1];show Sl (ss b) (ls b) h ((dw n g hs i h).headD 0)=j;rw[eg];exact LW (N.r.tie b hb) j1 j2
 .rw[jW e1 e2,eZ] at led;lia
theorem gv.next(N:gv n g hs L ss ls ns){b c h o:Nat}(hb:b<L)(e1:(ss b).getD c none=some h)(e2:(ls b).getD c none=some o)(nh:kZ hs (ls b) c≠true):(ss (b+1)).getD c none=some o:=by
 have:=N.r.next b hb c (by rw[e1];intro z;cases z);rw[this,e2];unfold kZ at nh;rw[e2] at nh;have nh':¬ ((o:Int)=hs.getD c 0):=fun z=>nh (bJ z);exact ap nh'
theorem zq(N:gv n g hs L ss ls ns)(F:eG n (ba n g))(R:Rg n g P)(d:Bool):∀ (k b c h o q:Nat) (zs:List Nat),k=L-b->b<L->(ss b).getD c none=some h->(ls b).getD c none=some o->o∈g h->hs.getD c 0=(q:Int)->2*W n d (P h) (P q)<n->Sd n d (P h) (P o)->
  wX hs ls (jV n g hs ss ls) k b c=some zs->∃e:Nat,e<n/\mJ hs L ss ls b h zs e/\W n d (P h) (P e)=zs.length/\zs.length<=W n d (P h) (P q)/\zs.headD 0=c:=by
 intro k;induction k with
 |zero=>intro b c h o q zs _ _ _ _ _ _ _ _ z;cases z
 |succ k ih=>
  intro b c h o q zs hk hb e1 e2 mo eq w st z;have n3:=R.n3;obtain⟨q',q1,q2,q3,q4,hn,hc⟩:=N.home (dG hb) e1;obtain rfl:q=q':=by rw[eq] at q2;exact dR q2
  obtain⟨on,ot⟩:=(R.tie h o hn).mp mo;have Ph:=R.lt h hn;have Po:=R.lt o on;have Pq:=R.lt q q1;have w0:0<W n d (P h) (P q):=by
   refine xQ fun y=>q4 (R.inj q h q1 hn ?_);unfold W fd at y
   grind
  have ws:=EV n3 Ph Pq Po st w0;have PQ:∀x,x<n->dH n g hs c x=rd n (P x) (P q):=fun x hx=>by unfold dH;rw[q3];exact gL R F hx q1
  unfold wX at z;by_cases hm:kZ hs (ls b) c=true
  .rw[ao hm] at z;cases z;unfold kZ at hm;rw[e2] at hm;have Vr:(o:Int)=hs.getD c 0:=bU hm;obtain rfl:o=q:=by rw[eq] at Vr;exact dR Vr
   refine⟨o,on,.last hb e1 e2 Vr,?_,w0,rfl⟩;rw[ws];show W n d (P o) (P o)+1=1;unfold W fd
   grind
  .rw[ap hm] at z;obtain⟨lR,z',rfl⟩:=pj.mp z;have Nl:b+1<L:=by
    refine Nat.lt_of_not_le fun y=>?_;rw[show k=0 by lia] at z';cases z'
   have e3:=N.next hb e1 e2 hm;have w1:2*W n d (P o) (P q)<n:=by lia
   have fin:∀c' o2 q2:Nat,jV n g hs ss ls (b+1) c=c'->(ss (b+1)).getD c' none=some o->(ls (b+1)).getD c' none=some o2->o2∈g o->hs.getD c' 0=(q2:Int)->W n d (P o) (P q2)<=W n d (P o) (P q)->Sd n d (P o) (P o2)->
     ∃e:Nat,e<n/\mJ hs L ss ls b h (c::lR) e/\W n d (P h) (P e)=(c::lR).length/\(c::lR).length<=W n d (P h) (P q)/\(c::lR).headD 0=c:=by
    intro c' o2 q2 x1 x2 x3 x4 x5 x6 x7;rw[x1] at z';obtain⟨e,a1,a2,a3,a4,_⟩:=ih (b+1) c' o o2 q2 lR (by lia) Nl x2 x3 x4 x5 (by lia) x7 z';refine⟨e,a1,.cons hb e1 e2 a2,?_,?_,rfl⟩
    .rw[cw,<-a3];refine EV n3 Ph (R.lt e a1) Po st ?_;refine xQ fun y=>?_;have Pe:=R.lt e a1;have lz:lR.length<=W n d (P o) (P q):=bB a4 x6;rw[<-a3] at lz;unfold W fd Sd sc at *
     grind
    .rw[cw];lia
   by_cases led:gK n g hs (ss (b+1)) (ls (b+1)) c=true
   .obtain⟨h',o',o2,l,j,f1,f2,f3,f4,f5,f6,f7,f8,f9,Nu,Sm,PR,Vs⟩:=N.taker F Nl led;obtain rfl:o=h':=by rw[e3] at f1;exact bR f1
    obtain⟨qj,j1,j2,j3,j4,_,_⟩:=N.home (dG Nl) f7;obtain⟨Nv,Vt⟩:=(R.tie o o2 on).mp f9;have Sn:=R.lt o2 Nv;have Pqj:=R.lt qj j1;rw[PQ _ Nv,PQ _ on] at Nu;have gR:=JH n3 Po Pq Sn Vt w1 Nu;have LX:∀x,x<n->dH n g hs j x=rd n (P x) (P qj):=fun x hx=>by unfold dH;rw[j3];exact gL R F hx j1
    rw[LX _ Nv,LX _ on] at PR;rw[LX _ on,PQ _ on] at Vs;have er:=Vp Po Pq w1;have ew:=PP n3 Po Pqj Sn gR PR (by lia);exact fin j o2 qj f6 f7 f8 f9 j2 (by lia) gR
   .obtain⟨o2,f1,f2⟩:=(N.r.tie (b+1) Nl).tie c o e3;obtain⟨Nv,Vt⟩:=(R.tie o o2 on).mp f2;have Sn:=R.lt o2 Nv;have nl:=led;rw[jW e3 f1,eZ,PQ _ Nv,PQ _ on] at nl;have gR:=JH n3 Po Pq Sn Vt w1 (by lia);exact fin c o2 q (by unfold jV;rw[ap led]) e3 f1 f2 eq (aL _) gR
theorem AG(N:gv n g hs L ss ls ns)(F:eG n (ba n g))(R:Rg n g P){b i:Nat}{zs:List Nat}(z:AF n g hs L ss ls b i=some zs):
  ∃ (h o' e d q c:Nat),b<L/\i<hs.length/\(ss b).getD i none=some h/\(ls b).getD i none=some o'/\h<n/\o'<n/\e<n/\jU hs hs.length L ss ls i b (IN zs)=true/\zs.getD (zs.length-1) 0=d/\d<hs.length/\hs.getD d 0=(e:Int)/\zs.length<=far (ba n g) o' e/\
   zs.getD 0 0=c/\c<hs.length/\hs.getD c 0=(q:Int)/\q<n/\zs.length<=far (ba n g) h q/\zs≠[]:=by
 unfold AF at z;by_cases c0:b<L/\gK n g hs (ss b) (ls b) i=true
 rotate_left
 .rw[ap c0] at z;cases z
 rw[ao c0] at z;obtain⟨hb,led⟩:=c0;have n3:=R.n3;obtain⟨h,o',o,l,j,f1,f2,f3,f4,f5,f6,f7,f8,f9,Nu,Sm,PR,Vs⟩:=N.taker F hb led;obtain⟨qi,i1,i2,i3,i4,_,il⟩:=N.home (dG hb) f1;obtain⟨qj,j1,j2,j3,j4,_,jl⟩:=N.home (dG hb) f7;obtain⟨on,ot⟩:=(R.tie h o f4).mp f9;obtain⟨Sq,ot'⟩:=(R.tie h o' f4).mp f3;have Ph:=R.lt h f4;have Po:=R.lt o on;have Yx:=R.lt o' Sq;have PU:∀x,x<n->dH n g hs i x=rd n (P x) (P qi):=fun x hx=>by unfold dH;rw[i3];exact gL R F hx i1
 have LX:∀x,x<n->dH n g hs j x=rd n (P x) (P qj):=fun x hx=>by unfold dH;rw[j3];exact gL R F hx j1
 rw[PU _ on,PU _ f4] at Nu;rw[PU _ Sq,PU _ f4] at Sm;rw[LX _ on,LX _ f4] at PR;rw[LX _ f4,PU _ f4] at Vs;obtain⟨hf,d,s1,s2⟩:=Vq n3 Ph (R.lt qi i1) Po Yx ot ot' Nu Sm;have ew:=PP n3 Ph (R.lt qj j1) Po s1 PR (by lia);rw[f6] at z;obtain⟨e,a1,a2,a3,a4,a5⟩:=zq N F R d (L-b) b j h o qj zs rfl hb f7 f8 f9 j2 (by lia) s1 z;have Yy:j≠i:=by
  rintro rfl;rw[f2] at f8;cases f8;exact Sm Nu
 obtain⟨w,ne,dd,hd,he⟩:=a2.walk (m:=hs.length) N.sl;have lz:0<zs.length:=pK.mpr ne;refine⟨h,o',e,dd,qj,j,hb,il,f1,f2,f4,Sq,a1,a2.chain N.sl hb f1 (by rw[a5];exact Yy),hd,?_,he.symm,?_,?_,jl,j2,j1,?_,ne⟩
 .refine Nat.lt_of_not_le fun y=>?_;have ch:=a2.chain (m:=hs.length) N.sl hb f1 (by rw[a5];exact Yy);obtain⟨d2,o2,h2,zd,AA,Ch⟩:=zm N.r ch;rw[aO,ku,hd] at zd;have:=Ch.dm;have:=dR zd;lia
 .rw[gL R F Sq a1,<-a3];exact back n3 Ph Yx (R.lt e a1) s2 (by lia)
 .cases zs with
  |nil=>exact absurd rfl ne
  |cons c zs=>exact a5
 .rw[gL R F f4 j1,<-ew];exact a4
end
abbrev LY:Stmt:=gw 46
abbrev Vu:Stmt:=gw 47
abbrev Vv:Stmt:=gw 49
theorem AH{β:Type}{K:PySem.W.Frag}{a D:Addr}{g:TG}{tt:TT}{te:TE}{fin:Hp->Prop}{σB:St}{H0:Hp}(ms:List β)(e G:β->V)(dt:St->Prop)(ha:H0 a=some (.lst (ms.map e)))(hD:H0 D=none)(hn:ms.length<=1000)(h0:dt σB)(hs:∀m σ H (R:V->St->Hp->Prop) (Kf:St->Hp->Prop),m∈ms->dt σ->aE H0 H->(∀σ2 H2,dt σ2->aE H H2->R (G m) σ2 H2)->
   g (e m) σ H fun σ2 H2=>tt σ2 H2 fun b H3=>if b=true then te σ2 H3 fun v H4=>R v σ2 H4 else Kf σ2 H3)(hd:∀H,aE H0 H->H D=some (.lst (ms.map G))->fin H):gZ (CP K a) g tt te D fin σB (upd H0 D (.lst [])):=by
 refine eX (xs:=ms.map e) (fun i ys σ H=>dt σ/\aE H0 H/\H D=some (.lst ys)/\ys=(ms.take i).map G) ⟨h0,aj hD,af,rfl⟩ (fun i ys σ H _ z=>aU.of (z.2.1 _ _ ha)) ?_ ?_
 .rintro i x ys σ H Kt Kf hx ⟨sh,sm,nN,rfl⟩ kt kf;rw[bn] at hx;cases hz:ms[i]? with
  |none=>rw[hz] at hx;cases hx
  |some m=>
   rw[hz] at hx;obtain rfl:e m=x:=bR hx;refine hs m σ H Kt Kf (dP hz) sh sm (fun σ2 H2 BW s2=>?_);refine kt _ _ _ (s2 _ _ nN) ?_ ⟨BW,dD.bD (sm.trans s2) hD,af,?_⟩
   .rw[aO];exact gg (List.length_take_le' _ _) (gg hn (by decide))
   .rw[io,hz,Option.toList_some,cD];rfl
 .rintro ys σ H ⟨_,sm,nN,rfl⟩;rw[aO,gy] at nN;exact hd H sm nN
theorem vi{K:PySem.W.Frag}{a D:Addr}{os:List Nat}{g:TG}{tt:TT}{te:TE}{fin:Hp->Prop}{σB:St}{H0:Hp}(c:Nat->Bool)(dt:St->Prop)(ha:H0 a=some (.lst (NV os)))(hD:H0 D=none)(hn:os.length<=1000)(h0:dt σB)(hs:∀x σ H (Kt:V->St->Hp->Prop) (Kf:St->Hp->Prop),x∈os->dt σ->aE H0 H->(∀σ2 H2,dt σ2->aE H H2->c x=true->Kt (.int (x:Nat)) σ2 H2)->(∀σ2 H2,dt σ2->aE H H2->c x=false->Kf σ2 H2)->
   g (.int (x:Nat)) σ H fun σ2 H2=>tt σ2 H2 fun b H3=>if b=true then te σ2 H3 fun v H4=>Kt v σ2 H4 else Kf σ2 H3)(hd:∀H,aE H0 H->H D=some (.lst (NV (os.filter c)))->fin H):gZ (CP K a) g tt te D fin σB (upd H0 D (.lst [])):=by
 refine eX (xs:=NV os) (fun i ys σ H=>dt σ/\aE H0 H/\H D=some (.lst ys)/\ys=NV ((os.take i).filter c)) ⟨h0,aj hD,af,rfl⟩ (fun i ys σ H _ z=>aU.of (z.2.1 _ _ ha)) ?_ ?_
 .rintro i x ys σ H Kt Kf hx ⟨sh,sm,nN,rfl⟩ kt kf;obtain⟨y,hy,rfl⟩:=EO hx;have tk:os.take (i+1)=os.take i++[y]:=by rw[io,hy];rfl
  refine hs y σ H Kt Kf (dP hy) sh sm (fun σ2 H2 BW s2 e=>?_) (fun σ2 H2 BW s2 e=>?_)
  .refine kt _ _ _ (s2 _ _ nN) ?_ ⟨BW,dD.bD (sm.trans s2) hD,af,?_⟩
   .rw[aO];exact gg (bB (n5 _ _) (List.length_take_le' _ _)) (gg hn (by decide))
   .rw[tk,jq,show [y].filter c=[y] by simp[jt,e],gJ]
  .refine kf _ _ ⟨BW,sm.trans s2,s2 _ _ nN,?_⟩;rw[tk,jq,show [y].filter c=[] by simp[jt,e],mZ]
 .rintro ys σ H ⟨_,sm,nN,rfl⟩;rw[show (NV os).length=os.length from aO _,gy] at nN;exact hd H sm nN
theorem wY{K:PySem.W.Frag}{a D:Addr}{xs:List V}{g:TG}{tt:TT}{te:TE}{fin:Hp->Prop}{σB:St}{H0:Hp}(c:Nat->Bool)(dt:St->Prop)(ha:H0 a=some (.tup xs))(hD:H0 D=none)(hn:xs.length<=1000)(h0:dt σB)(hs:∀ (i:Nat) x t σ H (Kt:V->St->Hp->Prop) (Kf:St->Hp->Prop),xs[i]?=some x->dt σ->aE H0 H->H t=some (.tup [.int (i:Int),x])->(∀σ2 H2,dt σ2->aE H H2->c i=true->Kt (.int (i:Nat)) σ2 H2)->(∀σ2 H2,dt σ2->aE H H2->c i=false->Kf σ2 H2)->
   g (.ref t) σ H fun σ2 H2=>tt σ2 H2 fun b H3=>if b=true then te σ2 H3 fun v H4=>Kt v σ2 H4 else Kf σ2 H3)(hd:∀H,aE H0 H->H D=some (.lst (NV ((List.range xs.length).filter c)))->fin H):gZ (GC K a) g tt te D fin σB (upd H0 D (.lst [])):=by
 refine qu (xs:=xs) (fun i ys σ H=>dt σ/\aE H0 H/\H D=some (.lst ys)/\ys=NV ((List.range i).filter c)) ⟨h0,aj hD,af,rfl⟩ (fun i ys σ H _ z=>cx.of (z.2.1 _ _ ha)) ?_ ?_
 .rintro i x t ys σ H Kt Kf hx ⟨sh,sm,nN,rfl⟩ ht kt kf;have st:=aj (o:=.tup [.int (i:Int),x]) ht;have hi:i<xs.length:=(cK.mp hx).1;refine hs i x t σ _ Kt Kf hx sh (sm.trans st) af (fun σ2 H2 BW s2 e=>?_) (fun σ2 H2 BW s2 e=>?_)
  .refine kt _ _ _ (s2 _ _ (st _ _ nN)) ?_ ⟨BW,dD.bD ((sm.trans st).trans s2) hD,af,?_⟩
   .rw[aO];exact gg (bB (n5 _ _) (by rw[fK];exact dG hi)) (gg hn (by decide))
   .rw[jx,jq,show [i].filter c=[i] by simp[jt,e],gJ]
  .refine kf _ _ ⟨BW,(sm.trans st).trans s2,s2 _ _ (st _ _ nN),?_⟩;rw[jx,jq,show [i].filter c=[] by simp[jt,e],mZ]
 .rintro ys σ H ⟨_,sm,nN,rfl⟩;exact hd H sm nN
theorem fV:(["_law_other","_law_fars_here","_law_home","_law_house"]:List Str).Nodup:=by decide +kernel
theorem dI:(["_law_j","_law_here","_law_stand","_law_i","_law_gone","_law_house"]:List Str).Nodup:=by decide +kernel
theorem vj{a b:Option Nat}:decide (jo a=jo b)=decide (a=b):=by
 rw[l6,eZ,eZ];exact⟨Ht,fun z=>by rw[z]⟩
theorem mK{n:Nat}{hs:List Int}(hm:∀h∈hs,0<=h/\h<n){i:Nat}(hi:i<hs.length):∃k:Nat,k<n/\hs.getD i 0=(k:Int)/\(hs.getD i 0).toNat=k:=by
 have mm:hs.getD i 0∈hs:=by rw[bO,cm hi];exact jd _
 obtain⟨a,c⟩:=hm _ mm;exact⟨(hs.getD i 0).toNat,by lia,by lia,rfl⟩
section
variable {P:Program} {w:World} {K:PySem.W.Frag} {mg:Str->Option Value} {base:Heap}
theorem JI:aG ["_law_fars_here","_law_homes","_law_stand","_law_gone","_law_i","_law_far_here"] ["_law_fars_here","_law_homes","_law_stand","_law_gone","_law_i"] (am LY):=⟨rfl,rfl,rfl,by decide +kernel,rfl,by decide +kernel,by decide +kernel⟩
def EW:Sp:=fun vs H Q _=>∃ (r a S G:Addr) (ds:List Addr) (n:Nat) (g:Nat->List Nat) (hs:List Int) (s l:List (Option Nat)) (i:Nat),vs=[.ref r,.ref a,.ref S,.ref G,.int i]/\eV H r ds n g/\H a=some (.tup (HV hs))/\H S=some (.tup (SV s))/\H G=some (.tup (SV l))/\s.length=hs.length/\cZ g s l/\gc n g/\(∀i h,s.getD i none=some h->h<n)/\(∀h∈hs,0<=h/\h<n)/\i<hs.length/\Q (.bl (gK n g hs s l i)) H
theorem LZ{f:Addr}{fd:FuncData}(F:fQ K "_law_is_led" "_law_is_led" LY f fd):br P w K mg base aZ 1 f fd ["_law_fars_here","_law_homes","_law_stand","_law_gone","_law_i"] EW:=by
 refine F.ok JI (fun vs H Q E h=>?_) (fun dL A outer s0 H vs Q E hr h=>?_)
 .obtain⟨r,a,S,G,ds,n,g,hs,s,l,i,rfl,_⟩:=h;rfl
 .obtain⟨r,a,S,G,ds,n,g,hs,s,l,i,rfl,FR,ha,hS,hG,sl,Hd,Gd,Nw,hm,hi,q⟩:=h;have mP:=hr.u (n:=1);refine⟨_,(ah (bx (PW.pt (n9 (aN iQ (au aV (pv 2) (pv 4) (fun _ _=>rfl)) ce (aM _)) (lG (aN eO (au aV (pv 3) (pv 4) (fun _ _=>rfl)) (au aV (pv 2) (pv 4) (fun _ _=>rfl)) (aM _))))) (al (aF fO)) aR)
   (ah (aP (i:=5) JI.nd rfl (Or.inl rfl) (bY mP (pv 0) (au aV (pv 1) (pv 4) (fun _ _=>rfl)) (fun _ _=>rfl)))
   (al (aF (cY CV (bY mP (pv 5) (au aV (pv 3) (pv 4) (fun _ _=>rfl)) (fun _ _=>rfl)) (bY mP (pv 5) (au aV (pv 2) (pv 4) (fun _ _=>rfl)) (fun _ _=>rfl)) (aM _)))))),?_⟩
  have kE:ft (SV s) (i:Int)=some (jo (s.getD i none)):=dv (by lia);have wR:ft (SV l) (i:Int)=some (jo (l.getD i none)):=dv (by rw[Hd.len];lia);refine⟨_,rfl,_,rfl,S,_,_,_,rfl,rfl,cx.of hS,kE,rfl,_,rfl,?_⟩;cases es:s.getD i none with
  |none=>
   refine bL (fun _=>?_) (fun e=>absurd (bJ rfl) e);have e2:gK n g hs s l i=false:=by unfold gK;rw[es]
   rw[e2] at q;exact kW q
  |some h=>
   rw[es] at kE;obtain⟨o,eo,mo⟩:=Hd.tie i h es;rw[eo] at wR;have hn:=Nw i h es;obtain⟨on,one⟩:=Gd.lt h hn o mo;obtain⟨k,hk,ek,Cp⟩:=mK hm hi;refine bL (fun e=>absurd (bU e) (by intro z;cases z)) (fun _=>?_);refine⟨_,rfl,_,rfl,G,_,_,_,rfl,rfl,cx.of hG,wR,_,rfl,_,rfl,S,_,_,_,rfl,rfl,cx.of hS,kE,rfl,_,rfl,?_⟩;refine bL (fun e=>absurd (dR (V.int.inj (bU e))) one) (fun _=>?_);refine⟨_,rfl,_,rfl,_,rfl,a,_,_,_,rfl,rfl,cx.of ha,hU hi,r,_,rfl,by rw[ek];exact FR.get hk,?_⟩;refine⟨_,rfl,_,rfl,_,rfl,G,_,_,_,rfl,rfl,cx.of hG,wR,_,_,rfl,((FR.rows k hk).get on),_,rfl,_,rfl,_,rfl,S,_,_,_,rfl,rfl,cx.of hS,kE,_,_,rfl,((FR.rows k hk).get hn),_,_,rfl,rfl,?_⟩;rw[jW es eo] at q;unfold dH at q;rw[Cp] at q;have e3:decide (((far (ba n g) h k:Nat):Int)<=((far (ba n g) o k:Nat):Int))=decide (far (ba n g) h k<=far (ba n g) o k):=mU.mpr (by lia);show Q (V.bl (decide (((far (ba n g) h k:Nat):Int)<=((far (ba n g) o k:Nat):Int)))) H;rw[e3];exact q
theorem Vw:aG ["_law_outs","_law_fars_here","_law_home","_law_house"] ["_law_outs","_law_fars_here","_law_home","_law_house"] (am Vu):=⟨rfl,rfl,rfl,by decide +kernel,rfl,by decide +kernel,by decide +kernel⟩
def HP:Sp:=fun vs H Q _=>∃ (O r:Addr) (as ds:List Addr) (n:Nat) (g:Nat->List Nat) (k h:Nat),vs=[.ref O,.ref r,.int k,.int h]/\fm H O as n g/\eV H r ds n g/\gc n g/\k<n/\h<n/\∀ (D:Addr) (H':Hp),aE H H'->H D=none->H' D=some (.lst (NV ((g h).filter fun o=>decide (far (ba n g) o k<far (ba n g) h k))))->Q (.ref D) H'
theorem PV{f:Addr}{fd:FuncData}(F:fQ K "_law_goods" "_law_goods" Vu f fd):br P w K mg base aZ 1 f fd ["_law_outs","_law_fars_here","_law_home","_law_house"] HP:=by
 refine F.ok Vw (fun vs H Q E h=>?_) (fun dL A outer s0 H vs Q E hr h=>?_)
 .obtain⟨O,r,as,ds,n,g,k,h,rfl,_⟩:=h;rfl
 .obtain⟨O,r,as,ds,n,g,k,h,rfl,OF,FR,Gd,hk,hh,q⟩:=h;have mP:=hr.u (n:=1);refine'⟨_,(al (aF ?c1)),?_⟩;case c1=>
   refine' cR (g:=(bC 0)) (tt:=(md (l_ (Ci fun i j=>.bl (decide (i<j))) (ow (ow (bb 1) (bb 2)) (bb 0)) (ow (ow (bb 1) (bb 2)) (bb 3))))) (te:=(bb 0)) (NB:=["_law_other","_law_fars_here","_law_home","_law_house"]) (src:=[none,some 1,some 2,some 3]) (cg (by kernel_rfl)) rfl (cf (bY mP (pv 0) (pv 3) (fun _ _=>rfl))) ?g ?t ?e;case g=>exact fun cl C s₃ H₃ fp=>(aB (i:=0) fV rfl (Or.inl rfl) (Or.inr rfl))
   case t=>exact fun cl C s₃ H₃ fp=>fg (aN qb (bY mP (bY mP (pv 1) (pv 2) (fun _ _=>rfl)) (pv 0) (fun _ _=>rfl)) (bY mP (bY mP (pv 1) (pv 2) (fun _ _=>rfl)) (pv 3) (fun _ _=>rfl)) (aM _))
   case e=>exact fun cl C s₃ H₃ fp=>(pv 0)
  refine⟨_,rfl,_,rfl,O,_,rfl,OF.get hh,_,rfl,⟨_,aU.of (OF.rows.2 h hh)⟩,fun D hD=>?_⟩;have l8:=Gd.le h hh;refine vi (os:=g h) (fun o=>decide (far (ba n g) o k<far (ba n g) h k)) (fun σ=>∃b,σ=[b,some (.ref r),some (.int (k:Int)),some (.int (h:Int))]) (OF.rows.2 h hh) hD (by lia) ⟨_,rfl⟩ ?_ ?_
  .rintro x σ H5 Kt Kf hx ⟨b',rfl⟩ sm kt kf;have FL:=FR.same sm;have xn:=(Gd.lt h hh x hx).1;refine⟨_,rfl,_,rfl,r,_,rfl,FL.get hk,_,rfl,_,_,rfl,(FL.rows k hk).get xn,_,rfl,_,rfl,r,_,rfl,FL.get hk,_,rfl,_,_,rfl,(FL.rows k hk).get hh,_,_,rfl,rfl,_,rfl,?_⟩;refine bL (fun c=>?_) (fun c=>?_)
   .exact⟨_,rfl,kt _ _ ⟨_,rfl⟩ (aE.refl _) (bJ (by have:=bU c;lia))⟩
   .exact kf _ _ ⟨_,rfl⟩ (aE.refl _) (cE fun z=>c (bJ (by lia)))
  .intro H5 sm Sr;exact q D H5 sm hD Sr
theorem Vx:aG ["_law_stand","_law_gone","_law_i","_law_house"] ["_law_stand","_law_gone","_law_i","_law_house"] (am Vv):=⟨rfl,rfl,rfl,by decide +kernel,rfl,by decide +kernel,by decide +kernel⟩
def L3:Sp:=fun vs H Q _=>∃ (S G:Addr) (g:Nat->List Nat) (s l:List (Option Nat)) (i h o j:Nat),vs=[.ref S,.ref G,.int i,.int o]/\H S=some (.tup (SV s))/\H G=some (.tup (SV l))/\s.length<=16/\cZ g s l/\s.getD i none=some h/\s.getD j none=some h/\l.getD j none=some o/\∀H',aE H H'->Q (.int j) H'
theorem PX{f:Addr}{fd:FuncData}(F:fQ K "_law_taker" "_law_taker" Vv f fd)(B:Bl mg):br P w K mg base aZ 1 f fd ["_law_stand","_law_gone","_law_i","_law_house"] L3:=by
 refine F.ok Vx (fun vs H Q E h=>?_) (fun dL A outer s0 H vs Q E hr h=>?_)
 .obtain⟨S,G,g,s,l,i,h,o,j,rfl,_⟩:=h;rfl
 .obtain⟨S,G,g,s,l,i,h,o,j,rfl,hS,hG,LI,Hd,ei,ej,eo,q⟩:=h;refine'⟨_,(al (aF (au az ?c1 aq (fun _ _=>rfl)))),?_⟩;case c1=>
   refine' cR (g:=(ui K 2 (fP (bC 0) (fP (bC 1) uh)))) (tt:=(NS (md (l_ (RF) (bb 1) (l_ (vQ K) (bb 2) (bb 3)))) (md (l_ (RF) (l_ (vQ K) (bb 4) (bb 0)) (bb 5))))) (te:=(bb 0)) (NB:=["_law_j","_law_here","_law_stand","_law_i","_law_gone","_law_house"]) (src:=[none,none,some 0,some 2,some 1,some 3]) (cg (by kernel_rfl)) rfl (qt rfl B.enum (aa (pv 0) ag)) ?g ?t ?e;case g=>exact fun cl C s₃ H₃ fp=>(fA (n:=2) rfl (a9 (aB (i:=0) dI rfl (Or.inl rfl) (Or.inr rfl)) (a9 (aB (i:=1) dI rfl (Or.inl rfl) (Or.inr rfl)) d9)))
   case t=>exact fun cl C s₃ H₃ fp=>fg (PW.pt (yk (aN eO (pv 1) (au aV (pv 2) (pv 3) (fun _ _=>rfl)) (aM _)) (ug (aN eO (au aV (pv 4) (pv 0) (fun _ _=>rfl)) (pv 5) (aM _)))))
   case e=>exact fun cl C s₃ H₃ fp=>(pv 0)
  refine⟨_,rfl,S,_,rfl,cx.of hS,fun D hD=>?_⟩;have hi:=(aS ei).1;have hj:=(aS ej).1;refine wY (xs:=SV s) (fun x=>decide (s.getD x none=some h)&&decide (l.getD x none=some o)) (fun σ=>∃b c,σ=[b,c,some (.ref S),some (.int (i:Int)),some (.ref G),some (.int (o:Int))]) hS hD (by rw[aO];lia) ⟨_,_,rfl⟩ ?_ ?_
  .rintro x v t σ H5 Kt Kf hx ⟨b,c,rfl⟩ sm ht kt kf;obtain⟨Sj,rfl⟩:=zf hx;refine⟨_,_,rfl,cx.of ht,rfl,_,_,rfl,_,_,rfl,rfl,?_⟩;have kE:ft (SV s) (i:Int)=some (.int (h:Int)):=by rw[dv hi,ei];rfl
   refine⟨_,rfl,_,rfl,_,rfl,S,_,_,_,rfl,rfl,cx.of (sm _ _ hS),kE,kq,_,rfl,?_⟩;have e1:decide (jo (s.getD x none)=V.int (h:Int))=decide (s.getD x none=some h):=vj (b:=some h);rw[e1];refine bL (fun e=>?_) (fun e=>?_)
   .refine⟨_,rfl,_,rfl,G,_,_,_,rfl,rfl,cx.of (sm _ _ hG),dv (by rw[Hd.len];exact Sj),_,rfl,kq,_,rfl,?_⟩;have e2:decide (jo (l.getD x none)=V.int (o:Int))=decide (l.getD x none=some o):=vj (b:=some o);rw[e2];refine bL (fun e3=>?_) (fun e3=>?_)
    .exact⟨_,rfl,kt _ _ ⟨_,_,rfl⟩ (aE.refl _) (by rw[e,e3];rfl)⟩
    .exact kf _ _ ⟨_,_,rfl⟩ (aE.refl _) (by rw[tS.mpr e3,tY])
   .exact sR (kf _ _ ⟨_,_,rfl⟩ (aE.refl _) (by rw[tS.mpr e,m3]))
  .intro H5 sm Sr;rw[aO] at Sr;have mj:j∈(List.range s.length).filter (fun x=>decide (s.getD x none=some h)&&decide (l.getD x none=some o)):=bX.mpr ⟨bN.mpr hj,by rw[ej,eo];simp⟩;have all:∀x∈(List.range s.length).filter (fun x=>decide (s.getD x none=some h)&&decide (l.getD x none=some o)),x=j:=fun x hx=>by
    have:=(bX.mp hx).2;rw[eK,eZ,eZ] at this;exact Hd.Sh x j h o this.1 ej this.2 eo
   generalize (List.range s.length).filter _=fl at *;have Yz:0<fl.length:=tD mj;have LL:ft (NV fl) 0=some (.int (j:Int)):=by
    have:=wJ (js:=fl) (k:=0) Yz;rw[all _ (mE Yz)] at this;exact this
   exact⟨D,_,_,_,rfl,rfl,aU.of Sr,LL,q H5 sm⟩
end
abbrev Vy:Stmt:=gw 53
def EX(n k:Nat):Nat:=(k+1) % n
def FM(n k:Nat):Nat:=if k=0 then n-1 else k-1
def AI(names:List Nat)(x:Nat):List Nat:=[names.getD (FM names.length (names.idxOf x)) 0,names.getD (EX names.length (names.idxOf x)) 0]
theorem qU{n k:Nat}(h:k<n):EX n k=sc n k:=by
 unfold EX sc;by_cases e:k+1=n
 .rw[ao e,e,Nat.mod_self]
 .rw[ap e,jv (by lia)]
theorem zu{n k j:Nat}(hk:k<n)(hj:j<n):j=FM n k↔k=sc n j:=by
 unfold FM sc;constructor <;> intro h <;> (split at h <;> split <;> lia)
theorem mL{names:List Nat}(nd:names.Nodup){k:Nat}(h:k<names.length):names.idxOf (names.getD k 0)=k:=by
 rw[pc h];exact nd.idxOf_getElem k h
theorem gN{names:List Nat}{x:Nat}(h:x∈names):names.idxOf x<names.length/\names.getD (names.idxOf x) 0=x:=by
 have:=List.idxOf_lt_length_of_mem h;exact⟨this,by rw[pc this];exact List.getElem_idxOf this⟩
theorem vk{n:Nat}{names:List Nat}(n3:3<=n)(pm:names.Perm (List.range n)):Rg n (AI names) (fun x=>names.idxOf x):=by
 have nl:names.length=n:=by rw[pm.length_eq,fK]
 have nd:names.Nodup:=pm.nodup_iff.mpr kN;have mem:∀x,x∈names↔x<n:=fun x=>by rw[pm.mem_iff,bN]
 refine⟨n3,fun h hh=>by rw[<-nl];exact(gN ((mem h).mpr hh)).1,fun h k hh hk e=>?_,fun k hk=>⟨names.getD k 0,(mem _).mp (mE (by lia)),mL nd (by lia)⟩,fun h o hh=>?_⟩
 .have a:=(gN ((mem h).mpr hh)).2;have b:=(gN ((mem k).mpr hk)).2;have e:names.idxOf h=names.idxOf k:=e;rw[<-a,<-b,e]
 .obtain⟨i1,i2⟩:=gN ((mem h).mpr hh);have hi:names.idxOf h<n:=by lia
  have nx:EX n (names.idxOf h)<n:=by rw[qU hi];unfold sc;split <;> lia
  have pv:FM n (names.idxOf h)<n:=by unfold FM;split <;> lia
  unfold AI;rw[nl,bK,bS];constructor
  .rintro(e|e)
   .have hm:names.getD (FM n (names.idxOf h)) 0∈names:=mE (by lia);refine⟨by rw[e];exact(mem _).mp hm,.inr ?_⟩;show names.idxOf h=sc n (names.idxOf o);rw[e,mL nd (by lia)];exact(zu hi pv).mp rfl
   .have hm:names.getD (EX n (names.idxOf h)) 0∈names:=mE (by lia);refine⟨by rw[e];exact(mem _).mp hm,.inl ?_⟩;show names.idxOf o=sc n (names.idxOf h);rw[e,mL nd (by lia),qU hi]
  .rintro⟨on,e|e⟩
   .have e':names.idxOf o=sc n (names.idxOf h):=e;right;rw[qU hi,<-e',(gN ((mem o).mpr on)).2]
   .have e':names.idxOf h=sc n (names.idxOf o):=e;left;have oi:=(gN ((mem o).mpr on)).1;rw[<-(zu hi (by lia)).mpr e',(gN ((mem o).mpr on)).2]
theorem JJ{n k j:Nat}(n3:3<=n)(hk:k<n)(hj:j<n)(h:k=sc n j):j≠sc n k/\j≠k:=by
 unfold sc at *;split at h <;> (constructor <;> (try split) <;> lia)
theorem Rg.sym{n:Nat}{g:Nat->List Nat}{P:Nat->Nat}(R:Rg n g P){h o:Nat}(hh:h<n)(ho:o<n):o∈g h↔h∈g o:=by
 rw[R.tie h o hh,R.tie o h ho];exact⟨fun z=>⟨hh,z.2.symm⟩,fun z=>⟨ho,z.2.symm⟩⟩
theorem B6{n:Nat}{names:List Nat}(n3:3<=n)(pm:names.Perm (List.range n)):gc n (AI names):=by
 have R:=vk n3 pm;have nl:names.length=n:=by rw[pm.length_eq,fK]
 have nd:names.Nodup:=pm.nodup_iff.mpr kN;have lt:∀h,h<n->∀o∈AI names h,o<n/\o≠h:=fun h hh o ho=>by
  obtain⟨a,b⟩:=(R.tie h o hh).mp ho;refine⟨a,fun e=>?_⟩;subst e;rcases b with b|b <;> exact(JJ n3 (R.lt _ a) (R.lt _ a) b).2 rfl
 have YA:∀h,h<n->(AI names h).Nodup:=fun h hh=>by
  have hi:=R.lt h hh;have hi:names.idxOf h<n:=hi;have nx:EX n (names.idxOf h)<n:=by rw[qU hi];unfold sc;split <;> lia
  have pv:FM n (names.idxOf h)<n:=by unfold FM;split <;> lia
  unfold AI;rw[nl];refine dQ.mpr ⟨fun z=>?_,dQ.mpr ⟨(fun z=>nomatch z),jf⟩⟩;have e:=Pn nd (by lia) (by lia) (bS.mp z);rw[qU hi] at e;have e2:=(zu hi pv).mp rfl;rw[e] at e2;have:=(JJ n3 hi (by rw[<-e];exact pv) e2).1;exact this rfl
 refine⟨YA,lt,fun h hh=>by unfold AI;simp,fun h hh=>?_⟩;unfold inn;rw[xu];have e1:(List.range n).filter (fun o=>decide (h∈AI names o))=(List.range n).filter (fun o=>decide (o∈AI names h)):=xT fun o ho=>mU.mpr (R.sym (bN.mp ho) hh);rw[e1];refine(List.Perm.length_eq ((xv (pA _ kN) (YA h hh)).mpr fun o=>?_)).symm;rw[bX,bN,eZ];exact⟨fun z=>z.2,fun z=>⟨(lt h hh o z).1,z⟩⟩
theorem Vz{n:Nat}{g:Nat->List Nat}{P:Nat->Nat}(R:Rg n g P):Lw n g:=by
 have up:∀d i,i+d<n->∀a b,a<n->b<n->P a=i->P b=i+d->Rc g a b:=by
  intro d;induction d with
  |zero=>intro i hi a b ha hb ea eb;rw[R.inj a b ha hb (by lia)];exact .refl _
  |succ d ih=>
   intro i hi a b ha hb ea eb;obtain⟨c,hc,ec⟩:=R.on (i+d) (by lia);refine .step (ih i (by lia) a c ha hc ea ec) ((R.tie c b hc).mpr ⟨hb,.inl ?_⟩);rw[eb,ec];unfold sc;rw[ap (by lia)];lia
 intro a b ha hb;have n3:=R.n3;obtain⟨z,hz,ez⟩:=R.on (n-1) (by lia);obtain⟨y,hy,ey⟩:=R.on 0 (by lia);have pa:=R.lt a ha;have pb:=R.lt b hb;refine Rc.trans (.step (up (n-1-P a) (P a) (by lia) a z ha hz rfl (by lia)) ((R.tie z y hz).mpr ⟨hy,.inl ?_⟩)) (up (P b) 0 (by lia) y b hy hb ey (by lia));rw[ey,ez];unfold sc;rw[ao (by lia)]
theorem Rg.gr{n:Nat}{g:Nat->List Nat}{P:Nat->Nat}(R:Rg n g P)(G:gc n g):Rg n (gr n g) P:=⟨R.n3,R.lt,R.inj,R.on,fun h o hh=>by rw[(gu G hh).mem_iff];exact R.tie h o hh⟩
section
variable {P:Program} {w:World} {K:PySem.W.Frag} {mg:Str->Option Value} {base:Heap}
theorem B7:aG ["_law_pot_here","_law_many","_law_names","_law_outs","_law_k","_law_house"] ["_law_pot_here","_law_many"] (am Vy):=⟨rfl,rfl,rfl,by decide +kernel,rfl,by decide +kernel,by decide +kernel⟩
def L4:Sp:=fun vs H Q _=>∃ (p:Addr) (n:Nat),vs=[.ref p,.int n]/\bj H p/\3<=n/\n<=32/\∀ (O:Addr) (as:List Addr) (g:Nat->List Nat) (H':Hp),El H H' O as n g->(∃P,Rg n g P)->a_ p H H'->bj H' p->Q (.ref O) H'
theorem PY{f:Addr}{fd:FuncData}(F:fQ K "_law_ring" "_law_ring" Vy f fd)(B:Bl mg)(TK:b_ P w K mg base aZ 1 "_law_take" ["_law_pot_here","_law_many"] lT)(SH:b_ P w K mg base aZ 2 "_law_shuffled" ["_law_pot_here","_law_some"] (ze K)):br P w K mg base aZ 3 f fd ["_law_pot_here","_law_many"] L4:=by
 refine F.ok B7 (fun vs H Q E h=>?_) (fun dL A outer s H vs Q E hr h=>?_)
 .obtain⟨p,n,rfl,_⟩:=h;rfl
 .obtain⟨p,n,rfl,hp,n3,FG,q⟩:=h;have h1:bW 1 _:=hr.mono (by decide);have h2:bW 2 _:=hr.mono (by decide);have mP:=hr.u (n:=1);refine⟨_,(ah (aP (i:=2) B7.nd rfl (Or.inl rfl) (dg (yO rfl) (by rfl) B.lst tu (aa (dg we (by rfl) B.range PyProof.Rows.boot_range (aa (pv 1) ag)) ag)))
   (ah (bx (aN eO (aD TK h1 aQ (aa (pv 0) (aa aq ag))) aq (aM _)) (al (aP (i:=2) B7.nd rfl (Or.inl rfl) (aD SH h2 aQ (aa (pv 0) (aa (pv 2) ag))))) aR)
   (ah (aP (i:=3) B7.nd rfl (Or.inl rfl) wq)
   (ah (dM eM rfl (Ah rfl B.enum (aa (pv 2) ag)) (fA (n:=2) rfl (a9 (aB (i:=4) B7.nd rfl (Or.inl rfl)) (a9 (aB (i:=5) B7.nd rfl (Or.inl rfl)) d9)))
    (al (mr mP (pv 3) (pv 5) (dX (aa (au az (pv 2) (bo nt (pv 4) aq) (fun _ _=>rfl)) (aa (au az (pv 2) (bo fY (bo dB (pv 4) aq) (pv 1)) (fun _ _=>rfl)) ag))) rfl)))
   (al (aF (pv 3))))))),?_⟩
  refine⟨_,rfl,n,rfl,fun R hR=>⟨R,n,rfl,af,by lia,fun L hL=>?_⟩⟩;have Nm:aE H (upd (upd H R (.CF 0 n)) L (.lst ((List.range n).map fun (i:Nat)=>V.int i))):=(aj hR).trans (aj hL);have VA:p≠L:=by obtain⟨_,_,e,_⟩:=hp;exact ai ((aj hR) _ _ e) hL
  have Nr:(upd (upd H R (.CF 0 n)) L (.lst ((List.range n).map fun (i:Nat)=>V.int i))) L=some (.lst (NV (List.range n))):=af;have hLH:H L=none:=(aj hR).free hL;generalize upd (upd H R (.CF 0 n)) L (.lst ((List.range n).map fun (i:Nat)=>V.int i))=H1 at *;have Oz:=hp.same Nm;refine⟨_,rfl,p,2,rfl,by decide,by decide,Oz,fun d a b d0 d1 a0 b0 b1=>⟨rfl,_,rfl,?_⟩⟩;have wN:bj (upd H1 p (.lst [.int a,.int b])) p:=bj.upd a0 b0 b1;have YB:(upd H1 p (.lst [.int a,.int b])) L=some (.lst (NV (List.range n))):=by rw[ak VA.symm];exact Nr
  have Es:a_ p H (upd H1 p (.lst [.int a,.int b])):=(a_.of Nm).trans a_.upd;generalize upd H1 p (.lst [.int a,.int b])=H2 at *;refine Em (fun σ Hc=>∃ (L:Addr) (names:List Nat),σ=[some (.ref p),some (.int n),some (.ref L),none,none,none]/\names.Perm (List.range n)/\Hc L=some (.lst (NV names))/\L≠p/\a_ p H Hc/\bj Hc p) ?_ (fun e kc=>?_) (fun e=>⟨L,List.range n,rfl,List.Perm.refl _,YB,VA.symm,Es,wN⟩)
  rotate_left
  .refine⟨_,rfl,_,rfl,p,L,_,rfl,wN,YB,VA.symm,by rw[aO,fK];lia,fun nm ys H3 pm Ss Jz hn3 hy3=>?_⟩;obtain⟨names,rfl,pn⟩:=Ho (xs:=List.range n) pm;exact kc _ _ ⟨nm,names,rfl,pn,hy3,fun z=>wN.some (z ▸ hn3),Es.trans Ss,Jz⟩
  .rintro σ H3 ⟨L,names,rfl,pn,Su,aac,Nx,FK⟩;have nl:names.length=n:=by rw[pn.length_eq,fK]
   have nd:names.Nodup:=pn.nodup_iff.mpr kN;have OK:uY names n:=pn;intro F' hF;have nLF:L≠F':=ai Su hF;refine⟨_,rfl,L,_,rfl,aj hF _ _ Su,?_⟩;refine wr (K:=K) (xs:=NV names) (fun i σ H5=>(∃x y,σ=[some (.ref p),some (.int n),some (.ref L),some (.ref F'),x,y])/\aE H3 H5/\∃A,rJ H5 F' A (names.take i) (AI names)/\∀h∈names.take i,H3 (A h)=none)
    ⟨⟨_,_,rfl⟩,aj hF,fun _=>0,⟨af,fun h m=>by simp at m,fun h m=>by simp at m⟩,fun h m=>by simp at m⟩ (fun i σ H5 _ z=>aU.of (z.2.1 _ _ Su)) ?_ ?_
   .rintro i v t σ H5 hx ⟨⟨x,y,rfl⟩,sm,A,hB,fr⟩ ht;obtain⟨h,xq,rfl⟩:=EO hx;obtain⟨hi,hh,tk,ni⟩:=OK.at_ xq;have s5:=sm.trans (aj (o:=.tup [.int (i:Int),.int (h:Int)]) ht);have Sg:=hB.same (aj (o:=.tup [.int (i:Int),.int (h:Int)]) ht);have VB:upd H5 t (.tup [.int (i:Int),.int (h:Int)]) t=some (.tup [.int (i:Int),.int (h:Int)]):=af;refine⟨_,_,rfl,cx.of VB,rfl,_,_,rfl,_,_,rfl,rfl,?_⟩;generalize upd H5 t (.tup [.int (i:Int),.int (h:Int)])=H6 at *;have PZ:=s5 _ _ Su;have ix:names.idxOf h=i:=by
     have:names.getD i 0=h:=by rw[bO,xq];rfl
     rw[<-this,mL nd (by lia)]
    have kE:ft (NV names) ((i:Int)-1)=some (.int ((names.getD (FM n i) 0:Nat):Int)):=by
     rw[Ei (by lia),Ej (by lia),nl];rfl
    have em:((i:Int)+1) % (n:Int)=((EX n i:Nat):Int):=by unfold EX;rw[Int.natCast_emod];rfl
    have nx:EX n i<n:=ud _ (by lia);have wR:ft (NV names) (((i:Int)+1) % (n:Int))=some (.int ((names.getD (EX n i) 0:Nat):Int)):=by
     rw[em,wJ (by lia)]
    refine⟨_,rfl,_,rfl,_,_,rfl,rfl,L,_,_,_,rfl,rfl,aU.of PZ,kE,_,rfl,_,rfl,_,_,rfl,rfl,_,rfl,_,_,rfl,rfl,by lia,L,_,_,_,rfl,rfl,aU.of PZ,wR,by show 2<=sizeLine;decide,fun D hD=>?_⟩;have eg:NV (AI names h)=[.int ((names.getD (FM n i) 0:Nat):Int),.int ((names.getD (EX n i) 0:Nat):Int)]:=by unfold AI;rw[ix,nl];rfl
    rw[<-eg];have YC:=Sg.same (aj (o:=.lst (NV (AI names h))) hD);have hB7:=YC.push ni (D:=D) af fun x m=>(ai (Sg.rows x m) hD).symm;refine⟨_,rfl,_,rfl,F',_,rfl,qm.k (k:=.inl (h:Int)) YC.dict (by rw[cp,jc];exact bV (show min i names.length<33 by lia) (by decide)),⟨_,_,rfl⟩,dD.bD (s5.trans (aj hD)) hF,jk A h D,by rw[tk];exact hB7,fun x hx=>?_⟩;rw[tk] at hx;unfold jk;by_cases e:x=h
    .rw[ao e];exact s5.free hD
    .rw[ap e];rcases bp.mp hx with m|m
     .exact fr x m
     .exact absurd (bS.mp m) e
   .rintro σ H5 ⟨⟨x,y,rfl⟩,sm,A,hB,fr⟩;rw[show (NV names).length=names.length from aO _,gy] at hB fr;have P1:=Nx.trans (a_.of sm);refine⟨_,rfl,q F' _ (AI names) H5 ⟨B6 n3 pn,by lia,FG,hB.done OK,?_,fun h hh=>?_,Vz (vk n3 pn)⟩ ⟨_,vk n3 pn⟩ P1 (FK.same sm)⟩
    .exact Nx.free FK.some hF
    .rw[hJ hh];exact Nx.free FK.some (fr h (OK.mem.mpr hh))
end
open dD (zr zp PO FE Zs iA iB iZ dO uZ Ec)
abbrev VC:Stmt:=gw 48
def VD(kz:Nat->Int)(a b:Nat):Prop:=64*kz a+a<=64*kz b+b
theorem HQ{kz:Nat->Int}{us:List Nat}{zs lR:Zs}(e:zp zs=us.map fun l=>(kz l,ci l))(pm:lR.Perm zs)(ord:dD.uY (zp lR)):∃out:List Nat,(lR.map fun z=>V.int z.2.2)=NV out/\out.Perm us/\out.Pairwise (VD kz):=by
 have pz:(zp lR).Perm (us.map fun l=>(kz l,ci l)):=by rw[<-e];exact pm.map _
 have mem:∀u∈zp lR,∃l∈us,u=(kz l,ci l):=fun u hu=>by
  obtain⟨l,hl,e⟩:=bP.mp (pz.mem_iff.mp hu);exact⟨l,hl,e.symm⟩
 refine⟨(zp lR).map fun u=>u.2.toNat,?_,?_,?_⟩
 .unfold zp NV;rw[fL,fL];refine i9 fun z hz=>?_;obtain⟨l,_,el⟩:=mem z.2 (bP.mpr ⟨z,hz,rfl⟩);show V.int z.2.2=V.int ((z.2.2.toNat:Nat):Int);rw[el];rfl
 .have:=pz.map fun u=>u.2.toNat;rw[fL] at this;refine this.trans ?_;rw[show ((fun u:Int×Int=>u.2.toNat) ∘ fun l=>(kz l,ci l))=id from funext fun l=>rfl,jB]
 .refine ip.mpr (ord.imp_of_mem fun {u v} hu hv h=>?_);obtain⟨l,_,rfl⟩:=mem u hu;obtain⟨m,_,rfl⟩:=mem v hv;exact h
theorem qV:(["_law_i","_law_house"]:List Str).Nodup:=by decide +kernel
theorem gO:(["_law_i","_law_fars_here","_law_homes","_law_stand"]:List Str).Nodup:=by decide +kernel
theorem k8:(["_law_far_here","_law_i"]:List Str).Nodup:=by decide +kernel
theorem fq:(["_law_house","_law_stand","_law_i","_law_taken"]:List Str).Nodup:=by decide +kernel
theorem zw{xs:List Nat}:oj ux (NV xs) []=xs.isEmpty:=by cases xs <;> rfl
theorem HR{o:Option Nat}:(!decide (jo o=V.bH))=o.isSome:=by
 cases o with
 |none=>rw[bJ (show jo none=V.bH from rfl)];rfl
 |some x=>rw[cE (show ¬ jo (some x)=V.bH from fun z=>by cases z)];rfl
theorem L7{o:Option Nat}:decide (jo o=V.bH)=o.isNone:=by
 cases o with
 |none=>exact bJ rfl
 |some x=>exact cE fun z=>by cases z
noncomputable def dN(n:Nat)(g:Nat->List Nat)(hs:List Int)(s:List (Option Nat))(i:Nat):Nat:=dH n g hs i ((s.getD i none).getD 0)
structure Cq(n:Nat)(g:Nat->List Nat)(hs:List Int)(s gl:List (Option Nat))(pre dn:List Nat):Prop where
 nd:dn.Nodup
 sub:∀j∈dn,j∈pre
 mid:Co g s gl dn
 near:∀j∈dn,∀h o,s.getD j none=some h->gl.getD j none=some o->dH n g hs j o<dH n g hs j h
 left:∀i∈pre,i∉dn->∀h,s.getD i none=some h->∀o∈dw n g hs i h,∃j∈dn,s.getD j none=some h/\gl.getD j none=some o/\dH n g hs j h<=dH n g hs i h
theorem Cq.nil{n:Nat}{g:Nat->List Nat}{hs:List Int}{s:List (Option Nat)}:Cq n g hs s (List.replicate s.length none) [] []:=⟨jf,(fun j h=>nomatch h),Co.nil,(fun j h=>nomatch h),(fun j h=>nomatch h)⟩
theorem HS{g:Nat->List Nat}{s gl:List (Option Nat)}{dn:List Nat}(M:Co g s gl dn){h o:Nat}:(h,o)∈gf s gl dn↔∃j∈dn,s.getD j none=some h/\gl.getD j none=some o:=by
 unfold gf;rw[bP];constructor
 .rintro⟨j,hj,e⟩;obtain⟨h',o',a,b,c⟩:=M.inn j hj;rw[a,b] at e;have e1:h'=h:=congrArg Prod.fst e;have e2:o'=o:=congrArg Prod.snd e;subst e1 e2;exact⟨j,hj,a,b⟩
 .rintro⟨j,hj,a,b⟩;exact⟨j,hj,by rw[a,b];rfl⟩
theorem Cq.pass{n:Nat}{g:Nat->List Nat}{hs:List Int}{s gl:List (Option Nat)}{pre dn:List Nat}{i h:Nat}(L:Cq n g hs s gl pre dn)(hi:s.getD i none=some h)(up:∀j∈pre,dN n g hs s j<=dN n g hs s i)(all:∀o∈dw n g hs i h,(h,o)∈gf s gl dn):Cq n g hs s gl (pre++[i]) dn:=by
 refine⟨L.nd,fun j hj=>gW _ (L.sub j hj),L.mid,L.near,fun j hj nj x hx o ho=>?_⟩;rcases bp.mp hj with m|m
 .exact L.left j m nj x hx o ho
 .obtain rfl:=bS.mp m;rw[hi] at hx;cases hx;obtain⟨k,hk,a,b⟩:=(HS L.mid).mp (all o ho);refine⟨k,hk,a,b,?_⟩;have:=up k (L.sub k hk);unfold dN at this;rw[a,hi] at this;exact this
theorem Cq.take{n:Nat}{g:Nat->List Nat}{hs:List Int}{s gl:List (Option Nat)}{pre dn:List Nat}{i h o:Nat}(L:Cq n g hs s gl pre dn)(hi:s.getD i none=some h)(ni:i∉pre)(ho:o∈dw n g hs i h)(fr:(h,o)∉gf s gl dn):
  Cq n g hs s (gl.set i (some o)) (pre++[i]) (dn++[i])/\gf s (gl.set i (some o)) (dn++[i])=gf s gl dn++[(h,o)]:=by
 have EY:i∉dn:=fun z=>ni (L.sub i z);obtain⟨M,e⟩:=L.mid.step EY hi (iC.mp ho).1 fr;have il:i<gl.length:=by rw[L.mid.len];exact(aS hi).1
 have old:∀j∈dn,(gl.set i (some o)).getD j none=gl.getD j none:=fun j hj=>by rw[dE il,ap (fun z:j=i=>EY (z ▸ hj))]
 have new:(gl.set i (some o)).getD i none=some o:=by rw[dE il,ao rfl]
 refine⟨⟨jr.mpr ⟨L.nd,dQ.mpr ⟨(fun z=>nomatch z),jf⟩,fun u hu v hv z=>EY (by rw[bS] at hv;rw[<-hv,<-z];exact hu)⟩,fun j hj=>?_,M,fun j hj x y hx hy=>?_,fun j hj nj x hx y hy=>?_⟩,e⟩
 .rcases bp.mp hj with m|m
  .exact gW _ (L.sub j m)
  .exact ik _ m
 .rcases bp.mp hj with m|m
  .rw[old j m] at hy;exact L.near j m x y hx hy
  .obtain rfl:=bS.mp m;rw[new] at hy;rw[hi] at hx;cases hx;cases hy;exact(iC.mp ho).2
 .rcases bp.mp hj with m|m
  .obtain⟨k,hk,a,b,c⟩:=L.left j m (fun z=>nj (gW _ z)) x hx y hy;exact⟨k,gW _ hk,a,by rw[old k hk];exact b,c⟩
  .exact absurd (ik _ m) nj
structure EZ(g:Nat->List Nat)(s g5 gl:List (Option Nat))(d5 pre dn:List Nat):Prop where
 nd:dn.Nodup
 old:∀j∈d5,j∈dn/\gl.getD j none=g5.getD j none
 sub:∀j∈pre,j∈dn
 mid:Co g s gl dn
theorem EZ.start{n:Nat}{g:Nat->List Nat}{hs:List Int}{s gl:List (Option Nat)}{pre dn:List Nat}(L:Cq n g hs s gl pre dn):EZ g s gl gl dn [] dn:=⟨L.nd,fun j hj=>⟨hj,rfl⟩,(fun j h=>nomatch h),L.mid⟩
theorem EZ.skip{g:Nat->List Nat}{s g5 gl:List (Option Nat)}{d5 pre dn:List Nat}{i:Nat}(L:EZ g s g5 gl d5 pre dn)(h:gl.getD i none≠none):EZ g s g5 gl d5 (pre++[i]) dn:=by
 refine⟨L.nd,L.old,fun j hj=>?_,L.mid⟩;rcases bp.mp hj with m|m
 .exact L.sub j m
 .rw[bS.mp m];by_cases z:i∈dn
  .exact z
  .exact absurd (L.mid.out i z) h
theorem EZ.take{g:Nat->List Nat}{s g5 gl:List (Option Nat)}{d5 pre dn:List Nat}{i h o:Nat}(L:EZ g s g5 gl d5 pre dn)(hn:gl.getD i none=none)(hi:s.getD i none=some h)(ho:o∈g h)(fr:(h,o)∉gf s gl dn):
  EZ g s g5 (gl.set i (some o)) d5 (pre++[i]) (dn++[i])/\gf s (gl.set i (some o)) (dn++[i])=gf s gl dn++[(h,o)]/\(dn++[i]).Nodup:=by
 have EY:i∉dn:=fun z=>by
  obtain⟨_,_,_,b,_⟩:=L.mid.inn i z;rw[hn] at b;cases b
 obtain⟨M,e⟩:=L.mid.step EY hi ho fr;have il:i<gl.length:=by rw[L.mid.len];exact(aS hi).1
 have nd:(dn++[i]).Nodup:=jr.mpr ⟨L.nd,dQ.mpr ⟨(fun z=>nomatch z),jf⟩,fun u hu v hv z=>EY (by rw[bS] at hv;rw[<-hv,<-z];exact hu)⟩;refine⟨⟨nd,fun j hj=>⟨gW _ (L.old j hj).1,?_⟩,fun j hj=>?_,M⟩,e,nd⟩
 .rw[dE il,ap (fun z:j=i=>EY (z ▸ (L.old j hj).1))];exact(L.old j hj).2
 .rcases bp.mp hj with m|m
  .exact gW _ (L.sub j m)
  .exact ik _ m
theorem HU{n:Nat}{g:Nat->List Nat}{hs:List Int}{s g5 gl:List (Option Nat)}{us d5 dn:List Nat}(L5:Cq n g hs s g5 us d5)(L6:EZ g s g5 gl d5 us dn)(pm:us.Perm (EC s s.length)):cZ g s gl/\NF n g hs s gl:=by
 have du:∀j∈dn,j∈us:=fun j hj=>by
  obtain⟨h,o,a,_,_⟩:=L6.mid.inn j hj;exact pm.mem_iff.mpr (bX.mpr ⟨bN.mpr (aS a).1,by rw[a];rfl⟩)
 have VE:us.Nodup:=pm.nodup_iff.mpr (pA _ kN);have pd:dn.Perm us:=(xv L6.nd VE).mpr fun j=>⟨du j,L6.sub j⟩
 have Hd:=L6.mid.done (pd.trans pm);refine⟨Hd,fun i h hi led o ho=>?_⟩;have iu:i∈us:=pm.mem_iff.mpr (bX.mpr ⟨bN.mpr (aS hi).1,by rw[hi];rfl⟩);have EY:i∉d5:=fun z=>by
  obtain⟨h',o',a,b,_⟩:=L5.mid.inn i z;rw[hi] at a;cases a;have c:=L5.near i z h o' hi b;rw[jW hi (by rw[(L6.old i z).2];exact b),eZ] at led;lia
 obtain⟨j,hj,a,b,c⟩:=L5.left i iu EY h hi o ho;exact⟨j,a,by rw[(L6.old j hj).2];exact b,L5.near j hj h o a b,c⟩
section
variable {P:Program} {w:World} {K:PySem.W.Frag} {mg:Str->Option Value} {base:Heap}
theorem vm:aG ["_law_outs","_law_fars_here","_law_homes","_law_stand","_law_under","_law_order","_law_gone","_law_taken","_law_i","_law_goods_here","_law_free"] ["_law_outs","_law_fars_here","_law_homes","_law_stand"] (am VC):=⟨rfl,rfl,rfl,by decide +kernel,rfl,by decide +kernel,by decide +kernel⟩
def L8:Sp:=fun vs H Q _=>∃ (O r a S:Addr) (as ds:List Addr) (n:Nat) (g:Nat->List Nat) (hs:List Int) (s:List (Option Nat)),vs=[.ref O,.ref r,.ref a,.ref S]/\fm H O as n g/\eV H r ds n g/\gc n g/\H a=some (.tup (HV hs))/\H S=some (.tup (SV s))/\s.length=hs.length/\s.length<=16/\dZ n g s/\(∀h∈hs,0<=h/\h<n)/\
 ∀ (t:Addr) (gs:List (Option Nat)) (H':Hp),aE H H'->H' t=some (.tup (SV gs))->cZ g s gs->NF n g hs s gs->Q (.ref t) H'
structure Ne(H:Hp)(Gn Tk D:Addr)(us:List Nat)(s:List (Option Nat))(Hc:Hp)(gl:List (Option Nat))(dn:List Nat):Prop where
 sm:aE H Hc
 ord:Hc D=some (.lst (NV us))
 gn:Hc Gn=some (.lst (SV gl))
 tk:Hc Tk=some (.dT (B3 (gf s gl dn)))
theorem Ne.same{H:Hp}{Gn Tk D:Addr}{us:List Nat}{s:List (Option Nat)}{Hc H':Hp}{gl:List (Option Nat)}{dn:List Nat}(h:Ne H Gn Tk D us s Hc gl dn)(x:aE Hc H'):Ne H Gn Tk D us s H' gl dn:=⟨h.sm.trans x,x _ _ h.ord,x _ _ h.gn,x _ _ h.tk⟩
theorem Ne.put{H:Hp}{Gn Tk D t:Addr}{us:List Nat}{s:List (Option Nat)}{Hc:Hp}{gl:List (Option Nat)}{dn:List Nat}{i h o:Nat}(N:Ne H Gn Tk D us s Hc gl dn)(hG:H Gn=none)(hT:H Tk=none)(Ny:Gn≠Tk)(Sv:D≠Gn)(Sw:D≠Tk)(fr:(h,o)∉gf s gl dn)(e:gf s (gl.set i (some o)) (dn++[i])=gf s gl dn++[(h,o)])(ht:(upd Hc Gn (.lst (SV (gl.set i (some o))))) t=none):
  Ne H Gn Tk D us s (upd (upd (upd Hc Gn (.lst (SV (gl.set i (some o))))) t (.tup [.int (h:Int),.int (o:Int)])) Tk (.dT (fS (B3 (gf s gl dn)) (kF (h,o)) (.bl true)))) (gl.set i (some o)) (dn++[i]):=by
 have keep:∀b u,Hc b=some u->b≠Gn->b≠Tk->(upd (upd (upd Hc Gn (.lst (SV (gl.set i (some o))))) t (.tup [.int (h:Int),.int (o:Int)])) Tk (.dT (fS (B3 (gf s gl dn)) (kF (h,o)) (.bl true)))) b=some u:=fun b u e n1 n2=>by
  have e8:(upd Hc Gn (.lst (SV (gl.set i (some o))))) b=some u:=by rw[ak n1];exact e
  rw[ak n2,ak (ai e8 ht)];exact e8
 refine⟨fun b u e=>keep _ _ (N.sm _ _ e) (ai e hG) (ai e hT),keep _ _ N.ord Sv Sw,?_,?_⟩
 .rw[ak Ny];exact aj ht _ _ af
 .rw[af,mq _ (Ez fr),<-EA,e]
theorem P2{f:Addr}{fd:FuncData}(F:fQ K "_law_nearest" "_law_nearest" VC f fd)(B:Bl mg)(hso:mg "sorted"=none)(GO:b_ P w K mg base aZ 1 "_law_goods" ["_law_outs","_law_fars_here","_law_home","_law_house"] HP):br P w K mg base aZ 2 f fd ["_law_outs","_law_fars_here","_law_homes","_law_stand"] L8:=by
 refine F.ok vm (fun vs H Q E h=>?_) (fun dL A outer s0 H vs Q E hr h=>?_)
 .obtain⟨O,r,a,S,as,ds,n,g,hs,s,rfl,_⟩:=h;rfl
 .obtain⟨O,r,a,S,as,ds,n,g,hs,s,rfl,OF,FR,Gd,ha,hS,sl,LI,R,hm,q⟩:=h;have h1:bW 1 _:=hr.mono (by decide);have mP:=hr.u (n:=1);refine'⟨_,(ah (gA (i:=4) (g:=(ui K 2 (fP (bC 0) (fP (bC 1) uh)))) (tt:=(md (l_ (fun x y H Q=>y=.bH/\Q (.bl (!decide (x=.bH))) H) (bb 1) (tC .bH)))) (te:=(bb 0)) (NB:=["_law_i","_law_house"]) (src:=[none,none]) (cg (by kernel_rfl)) rfl (qt rfl B.enum (aa (pv 3) ag)) ?g1 ?t1 ?e1 vm.nd rfl rfl rfl)
   (ah (gA (i:=5) (g:=(ui K 2 (fP (bC 0) (fP (bC 1) uh)))) (te:=(bb 1)) (NB:=["_law_far_here","_law_i"]) (src:=[none,none]) (cg (by kernel_rfl)) rfl (cf (aA qH (by rfl) hso xy (aa ?c2 ag))) ?g3 ?t3 ?e3 vm.nd rfl rfl rfl)
   (ah (aP (i:=6) vm.nd rfl (Or.inl rfl) (bo Ky (dX (aa ce ag)) (aA aH (by rfl) B.len cG (aa (pv 3) ag))))
   (ah (aP (i:=7) vm.nd rfl (Or.inr rfl) DB)
   (ah (dM eM rfl (cf (pv 5)) (aB (i:=8) vm.nd rfl (Or.inr rfl))
    (ah (aP (i:=9) vm.nd rfl (Or.inl rfl) (aD GO h1 aQ (aa (pv 0) (aa (pv 1) (aa (au aV (pv 2) (pv 8) (fun _ _=>rfl)) (aa (au aV (pv 3) (pv 8) (fun _ _=>rfl)) ag))))))
    (ah (gA (i:=10) (g:=(bC 0)) (tt:=(tB (uO (yz (cH (l_ (vQ K) (bb 1) (bb 2)) (cH (bb 0) lH))) (bb 3)))) (te:=(bb 0)) (NB:=["_law_house","_law_stand","_law_i","_law_taken"]) (src:=[none,some 3,some 8,some 7]) (cg (by kernel_rfl)) rfl (cf (pv 9)) ?g4 ?t4 ?e4 vm.nd rfl rfl rfl)
    (al (bx (aN (Do (e:=ux) hr.u) (pv 10) (dX ag) (aM _)) (ah (iO (au az (pv 10) aq (fun _ _=>rfl)) (nr (pv 6) (pv 8) ir))
     (al (mr mP (pv 7) (fZ (aa (au aV (pv 3) (pv 8) (fun _ _=>rfl)) (aa (au az (pv 6) (pv 8) (fun _ _=>rfl)) ag))) fO rfl))) aR)))))
   (ah (dM eM rfl (cf (pv 5)) (aB (i:=8) vm.nd rfl (Or.inr rfl))
    (al (bx (aN iQ (au az (pv 6) (pv 8) (fun _ _=>rfl)) ce (aM _)) (ah (iO (au az ?c5 aq (fun _ _=>rfl)) (nr (pv 6) (pv 8) ir))
     (al (mr mP (pv 7) (fZ (aa (au aV (pv 3) (pv 8) (fun _ _=>rfl)) (aa (au az (pv 6) (pv 8) (fun _ _=>rfl)) ag))) fO rfl))) aR)))
   (al (aF (dg fH (by rfl) B.tup pE (aa (pv 6) ag)))))))))),?_⟩
  case g1=>exact fun cl C s₃ H₃ fp=>(fA (n:=2) rfl (a9 (aB (i:=0) qV rfl (Or.inl rfl) (Or.inr rfl)) (a9 (aB (i:=1) qV rfl (Or.inl rfl) (Or.inr rfl)) d9)))
  case t1=>exact fun cl C s₃ H₃ fp=>fg (aN uq (pv 1) ce (aM _))
  case e1=>exact fun cl C s₃ H₃ fp=>(pv 0)
  case c2=>
   refine' cR (g:=(bC 0)) (te:=(yz (cH (ow (ow (bb 1) (l_ (vQ K) (bb 2) (bb 0))) (l_ (vQ K) (bb 3) (bb 0))) (cH (bb 0) lH)))) (NB:=["_law_i","_law_fars_here","_law_homes","_law_stand"]) (src:=[none,some 1,some 2,some 3]) (cg (by kernel_rfl)) rfl (cf (pv 4)) ?g ?t ?e;case g=>exact fun cl C s₃ H₃ fp=>(aB (i:=0) gO rfl (Or.inl rfl) (Or.inr rfl))
   case t=>exact fun cl C s₃ H₃ fp=>ff
   case e=>exact fun cl C s₃ H₃ fp=>(fZ (aa (bY mP (bY mP (pv 1) (au aV (pv 2) (pv 0) (fun _ _=>rfl)) (fun _ _=>rfl)) (au aV (pv 3) (pv 0) (fun _ _=>rfl)) (fun _ _=>rfl)) (aa (pv 0) ag)))
  case g3=>exact fun cl C s₃ H₃ fp=>(fA (n:=2) rfl (a9 (aB (i:=0) k8 rfl (Or.inl rfl) (Or.inr rfl)) (a9 (aB (i:=1) k8 rfl (Or.inl rfl) (Or.inr rfl)) d9)))
  case t3=>exact fun cl C s₃ H₃ fp=>ff
  case e3=>exact fun cl C s₃ H₃ fp=>(pv 1)
  case g4=>exact fun cl C s₃ H₃ fp=>(aB (i:=0) fq rfl (Or.inl rfl) (Or.inr rfl))
  case t4=>exact fun cl C s₃ H₃ fp=>fg (uf (nI mP (fZ (aa (au aV (pv 1) (pv 2) (fun _ _=>rfl)) (aa (pv 0) ag))) (pv 3)))
  case e4=>exact fun cl C s₃ H₃ fp=>(pv 0)
  case c5=>
   refine' cR (g:=(bC 0)) (tt:=(tB (uO (yz (cH (l_ (vQ K) (bb 1) (bb 2)) (cH (bb 0) lH))) (bb 3)))) (te:=(bb 0)) (NB:=["_law_house","_law_stand","_law_i","_law_taken"]) (src:=[none,some 3,some 8,some 7]) (cg (by kernel_rfl)) rfl (cf (bY mP (pv 0) (au aV (pv 3) (pv 8) (fun _ _=>rfl)) (fun _ _=>rfl))) ?g ?t ?e;case g=>exact fun cl C s₃ H₃ fp=>(aB (i:=0) fq rfl (Or.inl rfl) (Or.inr rfl))
   case t=>exact fun cl C s₃ H₃ fp=>fg (uf (nI mP (fZ (aa (au aV (pv 1) (pv 2) (fun _ _=>rfl)) (aa (pv 0) ag))) (pv 3)))
   case e=>exact fun cl C s₃ H₃ fp=>(pv 0)
  refine⟨_,rfl,S,_,rfl,cx.of hS,fun D1 K1=>?_⟩;refine wY (xs:=SV s) (fun x=>(s.getD x none).isSome) (fun σ=>∃b c,σ=[b,c]) hS K1 (by rw[aO];lia) ⟨_,_,rfl⟩ ?_ ?_
  .rintro x v t σ H5 Kt Kf hx ⟨b,c,rfl⟩ sm ht kt kf;obtain⟨Sj,rfl⟩:=zf hx;refine⟨_,_,rfl,cx.of ht,rfl,_,_,rfl,_,_,rfl,rfl,?_⟩;refine⟨_,rfl,rfl,_,rfl,?_⟩;rw[HR];refine bL (fun e=>?_) (fun e=>?_)
   .exact⟨_,rfl,kt _ _ ⟨_,_,rfl⟩ (aE.refl _) e⟩
   .exact kf _ _ ⟨_,_,rfl⟩ (aE.refl _) (tS.mpr e)
  intro H1 s1 E2;rw[aO] at E2;change H1 D1=some (.lst (NV (EC s s.length))) at E2;dsimp only;have VE:(EC s s.length).Nodup:=pA _ kN;have ul:(EC s s.length).length<=16:=bB Hw LI;have um:∀i∈EC s s.length,∃h k:Nat,s.getD i none=some h/\h<n/\i<s.length/\k<n/\hs.getD i 0=(k:Int)/\(hs.getD i 0).toNat=k:=fun i hi=>by
   obtain⟨a1,a2⟩:=bX.mp hi;obtain⟨h,eh⟩:=pD.mp a2;obtain⟨k,b1,b2,b3⟩:=mK hm (i:=i) (by rw[<-sl];exact bN.mp a1);exact⟨h,k,eh,R.1 h (aS eh).2,bN.mp a1,b1,b2,b3⟩
  refine⟨_,rfl,D1,rfl,⟨_,aU.of E2⟩,fun D2 lX=>?_⟩;refine wW (xs:=EC s s.length) (fun i=>(((dN n g hs s i:Nat):Int),ci i)) (fun σ=>∃b,σ=[b,some (.ref r),some (.ref a),some (.ref S)]) E2 lX (by lia) ⟨_,rfl⟩ ?_ ?_
  .rintro x σ H5 Rr Kf hx ⟨b,rfl⟩ sm kr;obtain⟨h,k,eh,hn,xl,hk,ek,Cp⟩:=um x hx;have s5:=s1.trans sm;have FL:=FR.same s5;have kE:ft (SV s) (x:Int)=some (.int (h:Int)):=by rw[dv xl,eh];rfl
   refine⟨_,rfl,_,rfl,_,rfl,a,_,_,_,rfl,rfl,cx.of (s5 _ _ ha),hU (by lia),r,_,rfl,by rw[ek];exact FL.get hk,_,rfl,_,rfl,S,_,_,_,rfl,rfl,cx.of (s5 _ _ hS),kE,_,_,rfl,(FL.rows k hk).get hn,_,rfl,by show 2<=sizeLine;decide,fun p hp=>?_⟩;have e:((dN n g hs s x:Nat):Int)=((far (ba n g) h k:Nat):Int):=by unfold dN dH;rw[eh,Cp];rfl
   have:=kr [some (.int (x:Int)),some (.ref r),some (.ref a),some (.ref S)] p ⟨_,rfl⟩ hp
   (try dsimp only at this)
   rw[e] at this;exact this
  intro zs H2 s2 P3 po ez;have zl:zs.length<=16:=by rw[<-dO,ez,aO];exact ul
  refine Ec ?_;refine uZ P3 po (by lia) (fun u hu=>?_) fun D3 lR kD pm ord=>⟨D3,rfl,⟨_,aU.of af⟩,fun D hD=>?_⟩
  .rw[ez] at hu;obtain⟨l,hl,rfl⟩:=bP.mp hu;obtain⟨_,_,_,_,xl,_⟩:=um l hl;show (0:Int)<=(l:Int)/\(l:Int)<64;lia
  obtain⟨us,eo,op,pw⟩:=HQ (kz:=fun i=>((dN n g hs s i:Nat):Int)) ez pm ord;have sD:=aj (o:=.lst (zr lR)) kD;have wN:PO (upd H2 D3 (.lst (zr lR))) lR:=fun z hz=>sD _ _ (po z (pm.mem_iff.mp hz));refine AH lR (fun z=>V.ref z.1) (fun z=>V.int z.2.2) (fun σ=>∃a b,σ=[a,b]) af hD (by rw[pm.length_eq];lia) ⟨_,_,rfl⟩ ?_ ?_
  .rintro z σ H5 Rr Kf hz ⟨a,b,rfl⟩ sm kk;exact⟨z.1,_,rfl,cx.of (sm _ _ (wN z hz)),rfl,_,_,rfl,_,_,rfl,rfl,_,rfl,kk _ _ ⟨_,_,rfl⟩ (aE.refl _)⟩
  intro H3 s3 DZ;rw[eo] at DZ;have rH:aE H H3:=s1.trans (s2.trans (sD.trans s3));dsimp only;clear pm ord po wN ez eo sD s3 P3 s2 E2 s1;have nud:us.Nodup:=op.nodup_iff.mpr VE;have usl:us.length<=16:=by rw[op.length_eq];exact ul
  refine⟨by show 1<=sizeLine;decide,fun L hL=>⟨_,rfl,S,_,rfl,.inr (cx.of (aj hL _ _ (rH _ _ hS))),L,_,_,rfl,rfl,af,by lia,?_,?_,fun Gn hG=>?_⟩⟩
  .rw[aO];lia
  .rw[cM,aO];exact bB (show 1*s.length<=16 by lia) (by decide)
  have eL:(List.replicate ((((SV s).length:Nat):Int)).toNat [V.bH]).flatten=SV (List.replicate s.length none):=by rw[cM,aO];exact EB
  rw[eL];have qN:aE H3 (upd (upd H3 L (.lst [.bH])) Gn (.lst (SV (List.replicate s.length none)))):=(aj hL).trans (aj hG);have YD:H3 Gn=none:=(aj hL).free hG;have L9:(upd (upd H3 L (.lst [.bH])) Gn (.lst (SV (List.replicate s.length none)))) Gn=some (.lst (SV (List.replicate s.length none))):=af;generalize upd (upd H3 L (.lst [.bH])) Gn (.lst (SV (List.replicate s.length none)))=H4 at *;intro Tk P4;have YE:H3 Tk=none:=qN.free P4;have Ny:Gn≠Tk:=ai L9 P4;have Nz:aE H3 (upd H4 Tk (.dT [])):=qN.trans (aj P4);have P5:(upd H4 Tk (.dT [])) Gn=some (.lst (SV (List.replicate s.length none))):=aj P4 _ _ L9;have P6:(upd H4 Tk (.dT [])) Tk=some (.dT []):=af;generalize upd H4 Tk (.dT [])=H5 at *;have Sx:H Gn=none:=rH.free YD;have YF:H Tk=none:=rH.free YE;have Sv:D≠Gn:=ai DZ YD;have Sw:D≠Tk:=ai DZ YE;have N5:Ne H Gn Tk D us s H5 (List.replicate s.length none) []:=⟨rH.trans Nz,Nz _ _ DZ,P5,P6⟩
  clear qN Nz L9 P5 P6 P4 hG hL DZ rH;refine⟨_,rfl,D,rfl,⟨_,aU.of N5.ord⟩,?_⟩;refine jG (K:=K) (a:=D) (xs:=NV us) (fun k σ Hc=>(∃x1 x8 x9 L_,σ=[some (.ref O),some (.ref r),some (.ref a),some (.ref S),x1,some (.ref D),some (.ref Gn),some (.ref Tk),x8,x9,L_])/\∃gl dn,Ne H Gn Tk D us s Hc gl dn/\Cq n g hs s gl (us.take k) dn) ⟨⟨_,_,_,_,rfl⟩,_,_,N5,Cq.nil⟩ (fun k σ Hc _ ⟨_,_,_,z,_⟩=>aU.of z.ord) ?_ ?_
  .rintro k v σ Hc hx ⟨⟨x1,x8,x9,L_,rfl⟩,gl,dn,N,L5⟩;obtain⟨i,xq,rfl⟩:=EO hx;have hk:k<us.length:=(cK.mp xq).1;have tk:us.take (k+1)=us.take k++[i]:=by rw[io,xq];rfl
   have iu:i∈EC s s.length:=op.mem_iff.mp (dP xq);have VF:(us.take k++[i]).Nodup:=by rw[<-tk];exact nud.sublist (tQ _ _)
   have hip:i∉us.take k:=fun z=>(jr.mp VF).2.2 i z i (bS.mpr rfl) rfl;obtain⟨h,kk,eh,hn,il,Sy,ek,Cp⟩:=um i iu;have up:∀j∈us.take k,dN n g hs s j<=dN n g hs s i:=fun j hj=>by
    have pw':(us.take k++[i]).Pairwise (VD fun i=>((dN n g hs s i:Nat):Int)):=by rw[<-tk];exact pw.sublist (tQ _ _)
    have:=(tH.mp pw').2.2 j hj i (bS.mpr rfl);obtain⟨_,_,_,_,jl,_⟩:=um j (op.mem_iff.mp (mR hj));unfold VD at this;lia
   have kE:ft (SV s) (i:Int)=some (.int (h:Int)):=by rw[dv il,eh];rfl
   have NA:=N.sm _ _ hS;have Ma:(g h).filter (fun o=>decide (far (ba n g) o kk<far (ba n g) h kk))=dw n g hs i h:=by unfold dw dH;rw[Cp]
   refine⟨_,rfl,_,rfl,_,rfl,_,rfl,a,_,_,_,rfl,rfl,cx.of (N.sm _ _ ha),hU (by lia),_,rfl,_,rfl,S,_,_,_,rfl,rfl,cx.of NA,kE,O,r,as,ds,n,g,kk,h,by rw[ek];rfl,OF.same N.sm,FR.same N.sm,Gd,Sy,hn,fun D6 H6 s6 JA Mb=>?_⟩;rw[Ma] at Mb;have N6:=N.same s6;have NC:=s6 _ _ NA;have gl8:(dw n g hs i h).length<=8:=bB (n5 _ _) (Gd.le h hn);refine⟨_,rfl,D6,rfl,⟨_,aU.of Mb⟩,fun D7 VG=>?_⟩;refine vi (os:=dw n g hs i h) (fun o=>decide ((h,o)∉gf s gl dn)) (fun σ=>∃b,σ=[b,some (.ref S),some (.int (i:Int)),some (.ref Tk)]) Mb VG (by lia) ⟨_,rfl⟩ ?_ ?_
   .rintro o σ H8 Kt Kf ho ⟨b',rfl⟩ Mc kt kf;refine⟨_,rfl,_,rfl,S,_,_,_,rfl,rfl,cx.of (Mc _ _ NC),kE,_,rfl,by show 2<=sizeLine;decide,fun t ht=>⟨_,rfl,Tk,_,rfl,iT.t (k:=kF (h,o)) (aj ht _ _ (Mc _ _ N6.tk)) af,_,rfl,?_⟩⟩;refine bL (fun e=>?_) (fun e=>?_)
    .exact⟨_,rfl,kt _ _ ⟨_,rfl⟩ (aj ht) (bJ (by rw[km] at e;simpa using e))⟩
    .exact kf _ _ ⟨_,rfl⟩ (aj ht) (cE fun z=>z (by rw[km] at e;simpa using e))
   intro H8 s8 hD8;dsimp only;have N8:=N6.same s8;have VH:=s8 _ _ NC;have VI:∀o∈(dw n g hs i h).filter (fun o=>decide ((h,o)∉gf s gl dn)),o∈dw n g hs i h/\(h,o)∉gf s gl dn:=fun o ho=>⟨(bX.mp ho).1,bU (bX.mp ho).2⟩
   have frn:(dw n g hs i h).filter (fun o=>decide ((h,o)∉gf s gl dn))=[]->∀o∈dw n g hs i h,(h,o)∈gf s gl dn:=fun e o ho=>by
    by_cases z:(h,o)∈gf s gl dn
    .exact z
    .have:o∈(dw n g hs i h).filter (fun o=>decide ((h,o)∉gf s gl dn)):=bX.mpr ⟨ho,bJ z⟩;rw[e] at this;cases this
   generalize (dw n g hs i h).filter (fun o=>decide ((h,o)∉gf s gl dn))=fr at *;refine⟨_,rfl,by show 0<=sizeLine;decide,fun E1 HW=>?_⟩;have sE:=aj (o:=.lst []) HW;have N9:=N8.same sE;have VJ:=sE _ _ VH;have Sz:=sE _ _ hD8;refine⟨D7,E1,_,[],rfl,rfl,aU.of Sz,aU.of af,fun i h1 h2=>absurd h2 (by simp),_,rfl,?_⟩;rw[ao rfl,zw];generalize upd H8 E1 (.lst [])=H9 at *;cases fr with
   |nil=>exact sR ⟨⟨_,_,_,_,rfl⟩,gl,dn,N9,by rw[tk];exact L5.pass eh up (frn rfl)⟩
   |cons o fr'=>
    obtain⟨og,P7⟩:=VI o b9;obtain⟨L5',ep⟩:=L5.take eh hip og P7;have JK:i<gl.length:=by rw[L5.mid.len];exact il
    have Md:(SV gl).set i (.int (o:Int))=SV (gl.set i (some o)):=by unfold SV;rw[List.map_set];rfl
    have wR:ft (SV (gl.set i (some o))) (i:Int)=some (.int (o:Int)):=by rw[dv (by rw[lf];exact JK),dE JK,ao rfl];rfl
    have VL:S≠Gn:=ai hS Sx;refine kW ⟨_,rfl,D7,_,_,_,rfl,rfl,aU.of Sz,bf (j:=0) rfl,_,rfl,_,rfl,Gn,_,_,i,rfl,rfl,N9.gn,j7 (by rw[aO];exact JK),?_⟩;rw[Md];refine⟨_,rfl,_,rfl,_,rfl,S,_,_,_,rfl,rfl,cx.of (by rw[ak VL];exact VJ),kE,_,rfl,_,rfl,Gn,_,_,_,rfl,rfl,aU.of af,wR,by show 2<=sizeLine;decide,fun t2 P8=>?_⟩;refine⟨Tk,_,rfl,qm.t (k:=kF (h,o)) (aj P8 _ _ (by rw[ak Ny.symm];exact N9.tk)) af ?_,⟨_,_,_,_,rfl⟩,_,_,N9.put Sx YF Ny Sv Sw P7 ep P8,by rw[tk];exact L5'⟩;unfold B3 gf;rw[aO,aO];have:=sS L5.nd (m:=us.take k) L5.sub;rw[jc] at this;exact gg this (bV (show min k us.length<17 by lia) (by decide))
  rintro σ Hc ⟨⟨x1,x8,x9,L_,rfl⟩,g5,d5,YG,L5⟩;rw[show (NV us).length=us.length from aO _,gy] at L5;refine⟨_,rfl,D,rfl,⟨_,aU.of YG.ord⟩,?_⟩;refine jG (K:=K) (a:=D) (xs:=NV us) (fun k σ Hc=>(∃x1 x8 x9 L_,σ=[some (.ref O),some (.ref r),some (.ref a),some (.ref S),x1,some (.ref D),some (.ref Gn),some (.ref Tk),x8,x9,L_])/\∃gl dn,Ne H Gn Tk D us s Hc gl dn/\EZ g s g5 gl d5 (us.take k) dn) ⟨⟨_,_,_,_,rfl⟩,_,_,YG,EZ.start L5⟩ (fun k σ Hc _ ⟨_,_,_,z,_⟩=>aU.of z.ord) ?_ ?_
  .rintro k v σ Hc hx ⟨⟨x1,x8,x9,L_,rfl⟩,gl,dn,N,L6⟩;obtain⟨i,xq,rfl⟩:=EO hx;have tk:us.take (k+1)=us.take k++[i]:=by rw[io,xq];rfl
   have iu:i∈EC s s.length:=op.mem_iff.mp (dP xq);obtain⟨h,kk,eh,hn,il,Sy,ek,Cp⟩:=um i iu;have kE:ft (SV s) (i:Int)=some (.int (h:Int)):=by rw[dv il,eh];rfl
   have JK:i<gl.length:=by rw[L6.mid.len];exact il
   have NA:=N.sm _ _ hS;refine⟨_,rfl,_,rfl,Gn,_,_,_,rfl,rfl,aU.of N.gn,dv JK,rfl,_,rfl,?_⟩;rw[L7];refine bL (fun e=>?_) (fun e=>?_)
   rotate_left
   .exact⟨⟨_,_,_,_,rfl⟩,gl,dn,N,by rw[tk];exact L6.skip (fun z=>e (by rw[z];rfl))⟩
   have e':=Option.isNone_iff_eq_none.mp e;have EY:i∉dn:=fun z=>by
    obtain⟨_,_,_,b,_⟩:=L6.mid.inn i z;rw[e'] at b;cases b
   have VF:(dn++[i]).Nodup:=jr.mpr ⟨L6.nd,dQ.mpr ⟨(fun z=>nomatch z),jf⟩,fun u hu v hv z=>EY (by rw[bS] at hv;rw[<-hv,<-z];exact hu)⟩;have f0:=j6 L6.mid VF R Gd eh;have VM:=OF.same N.sm;refine⟨_,rfl,_,rfl,_,rfl,S,_,_,_,rfl,rfl,cx.of NA,kE,O,_,rfl,VM.get hn,as.getD h 0,rfl,⟨_,aU.of (VM.rows.2 h hn)⟩,fun D7 VG=>?_⟩;refine vi (os:=g h) (fun o=>decide ((h,o)∉gf s gl dn)) (fun σ=>∃b,σ=[b,some (.ref S),some (.int (i:Int)),some (.ref Tk)]) (VM.rows.2 h hn) VG (by have:=Gd.le h hn;lia) ⟨_,rfl⟩ ?_ ?_
   .rintro o σ H8 Kt Kf ho ⟨b',rfl⟩ Mc kt kf;refine⟨_,rfl,_,rfl,S,_,_,_,rfl,rfl,cx.of (Mc _ _ NA),kE,_,rfl,by show 2<=sizeLine;decide,fun t ht=>⟨_,rfl,Tk,_,rfl,iT.t (k:=kF (h,o)) (aj ht _ _ (Mc _ _ N.tk)) af,_,rfl,?_⟩⟩;refine bL (fun e=>?_) (fun e=>?_)
    .exact⟨_,rfl,kt _ _ ⟨_,rfl⟩ (aj ht) (bJ (by rw[km] at e;simpa using e))⟩
    .exact kf _ _ ⟨_,rfl⟩ (aj ht) (cE fun z=>z (by rw[km] at e;simpa using e))
   intro H8 s8 Sz;dsimp only;have N9:=N.same s8;have VJ:=s8 _ _ NA;have VI:∀o∈(g h).filter (fun o=>decide ((h,o)∉gf s gl dn)),o∈g h/\(h,o)∉gf s gl dn:=fun o ho=>⟨(bX.mp ho).1,bU (bX.mp ho).2⟩
   generalize (g h).filter (fun o=>decide ((h,o)∉gf s gl dn))=fr at *;cases fr with
   |nil=>exact absurd f0 (by simp)
   |cons o fr'=>
    obtain⟨og,P7⟩:=VI o b9;obtain⟨L6',ep,nd'⟩:=L6.take e' eh og P7;have Md:(SV gl).set i (.int (o:Int))=SV (gl.set i (some o)):=by unfold SV;rw[List.map_set];rfl
    have wR:ft (SV (gl.set i (some o))) (i:Int)=some (.int (o:Int)):=by rw[dv (by rw[lf];exact JK),dE JK,ao rfl];rfl
    have VL:S≠Gn:=ai hS Sx;refine⟨D7,_,_,_,rfl,rfl,aU.of Sz,bf (j:=0) rfl,_,rfl,_,rfl,Gn,_,_,i,rfl,rfl,N9.gn,j7 (by rw[aO];exact JK),?_⟩;rw[Md];refine⟨_,rfl,_,rfl,_,rfl,S,_,_,_,rfl,rfl,cx.of (by rw[ak VL];exact VJ),kE,_,rfl,_,rfl,Gn,_,_,_,rfl,rfl,aU.of af,wR,by show 2<=sizeLine;decide,fun t2 P8=>?_⟩;refine⟨Tk,_,rfl,qm.t (k:=kF (h,o)) (aj P8 _ _ (by rw[ak Ny.symm];exact N9.tk)) af ?_,⟨_,_,_,_,rfl⟩,_,_,N9.put Sx YF Ny Sv Sw P7 ep P8,by rw[tk];exact L6'⟩;unfold B3 gf;rw[aO,aO];have:dn.length<=us.length:=sS L6.nd fun j hj=>by
     obtain⟨h',o',a,_,_⟩:=L6.mid.inn j hj;exact op.mem_iff.mpr (bX.mpr ⟨bN.mpr (aS a).1,by rw[a];rfl⟩)
    exact gg this (bV (show us.length<17 by lia) (by decide))
  rintro σ Hc ⟨⟨x1,x8,x9,L_,rfl⟩,gl,dn,N,L6⟩;rw[show (NV us).length=us.length from aO _,gy] at L6;obtain⟨Hd,nf⟩:=HU L5 L6 op;exact⟨_,rfl,Gn,_,rfl,.inl ⟨aU.of N.gn,fun t ht=>q t gl _ (N.sm.trans (aj ht)) af Hd nf⟩⟩
end
end vx
namespace L2
open PySem PySem.Spec PyProof.Rows
section
variable {X:Cx}
def SB(X:Cx)(H:Hp)(d:Nat)(x y:V):Prop:=∀ (ae:List (Addr×Obj)) (s:Shared) (σ:St) (A:Around) (u v:Value),aK X ae σ H s->A.units+d<cLine->be x u->be y v->SeqAt.EqAt A s u v true
theorem HX:SB X H 0 (.int i) (.int i):=by
 intro ae s σ A u v I hu rx ry;have h:=C4 (A:=A) (s:=s) rx ry rfl rfl;rw[show ux (.int i) (.int i)=true by show decide (i=i)=true;simp] at h;exact h
theorem sX(I:aK X ae σ H s)(hu:A.units+d<cLine)(rx:aW xs us)(ry:aW ys vs)(he:∀i,i<xs.length->i<ys.length->SB X H d (xs.getD i .bH) (ys.getD i .bH)):∀j (h1:j<us.toArray.size) (h2:j<vs.toArray.size),SeqAt.EqAt A s us.toArray[j] vs.toArray[j] true:=by
 intro j h1 h2;have j1:j<xs.length:=by rw[rx.length];simpa using h1
 have j2:j<ys.length:=by rw[ry.length];simpa using h2
 have e1:xs[j]?=some (xs.getD j .bH):=by rw[bO,cm j1];rfl
 have e2:ys[j]?=some (ys.getD j .bH):=by rw[bO,cm j2];rfl
 obtain⟨u,mP,ru⟩:=rx.get e1;obtain⟨v,Uk,rv⟩:=ry.get e2;have eu:us.toArray[j]=u:=by
  have:us[j]?=some us.toArray[j]:=by simp at h1 |-
  rw[mP] at this;exact(bR this).symm
 have ev:vs.toArray[j]=v:=by
  have:vs[j]?=some vs.toArray[j]:=by simp at h2 |-
  rw[Uk] at this;exact(bR this).symm
 rw[eu,ev];exact he j j1 j2 ae s σ A u v I hu ru rv
theorem wZ:(List.range n).all (fun _=>true)=true:=mW.mpr fun _ _=>rfl
def JL(X:Cx)(Og:Bool)(d:Nat):R2:=fun x y H Q=>∃p q xs ys,x=.ref p/\y=.ref q/\aU X.K H p xs/\aU X.K H q ys/\xs.length=ys.length/\(∀i,i<xs.length->i<ys.length->SB X H d (xs.getD i .bH) (ys.getD i .bH))/\Q (.bl (!Og)) H
theorem HY{d:Nat}(hu:X.A.units+(d+1)<cLine):l9 X (compareOp .NotEq) (JL X true d):=by
 intro ae s σ H x y v u Q I rx ry h;obtain⟨p,q,xs,ys,rfl,rfl,hp,hq,hl,he,k⟩:=h;obtain rfl:v=Value.ref p:=rx;obtain rfl:u=Value.ref q:=ry;obtain⟨us,r1,p1,_⟩:=I.list hp;obtain⟨vs,r2,p2,_⟩:=I.list hq;refine SeqAt.RcNeAt.lists (e:=fun _=>true) p1.isList p2.isList (by simp only[cu];rw[<-r1.length,<-r2.length];exact hl) (by lia) (sX I (by show X.A.units+1+d<cLine;lia) r1 r2 he) _ _ _ _ ⟨.bl _,H,I,rfl,?_⟩;rw[wZ];exact k
end
end L2
namespace vx
open PySem L2 rF
abbrev VN:Stmt:=gw 51
abbrev VO:Stmt:=gw 52
abbrev Me:Stmt:=gw 54
theorem B8{K:PySem.W.Frag}{a D:Addr}{xs:List V}{g:TG}{tt:TT}{te:TE}{fin:Hp->Prop}{σB:St}{H0:Hp}(Pv:Nat->List V->St->Hp->Prop)(h0:Pv 0 [] σB H0)(hl:∀i ys σ H,i<=xs.length->Pv i ys σ H->cx K H a xs)(hs:∀i x ys σ H (Kt:V->St->Hp->Prop) (Kf:St->Hp->Prop),xs[i]?=some x->Pv i ys σ H->
   (∀v σ2 H4,H4 D=some (.lst ys)->ys.length<sizeLine->Pv (i+1) (ys++[v]) σ2 (upd H4 D (.lst (ys++[v])))->Kt v σ2 H4)->(∀σ2 H3,Pv (i+1) ys σ2 H3->Kf σ2 H3)->
   g x σ H fun σ2 H2=>tt σ2 H2 fun b H3=>if b=true then te σ2 H3 fun v H4=>Kt v σ2 H4 else Kf σ2 H3)(hd:∀ys σ H,Pv xs.length ys σ H->fin H):gZ (Tp K a) g tt te D fin σB H0:=by
 refine⟨fun i m σ H=>m=xs.length-i/\i<=xs.length/\∃ys,Pv i ys σ H,⟨xs.length,by simp,df _,[],h0⟩,?_⟩;rintro i m σ H ⟨rfl,hi,ys,p⟩;have q:=hl i ys σ H hi p;by_cases et:i<xs.length
 .refine .inr ⟨⟨xs,xs[i],q,by simp[et]⟩,?_⟩;rintro x H' ⟨rfl,y⟩;exact hs i x ys σ _ (fun v σ2 H4=>∃ys,H4 D=some (.lst ys)/\ys.length<sizeLine/\∃m',m'<xs.length-i/\m'=xs.length-(i+1)/\i+1<=xs.length/\∃oJ,Pv (i+1) oJ σ2 (upd H4 D (.lst (ys++[v]))))
   (fun σ2 H3=>∃m',m'<xs.length-i/\m'=xs.length-(i+1)/\i+1<=xs.length/\∃oJ,Pv (i+1) oJ σ2 H3) (y xs q) p
   (fun v σ2 H4 z1 z2 z3=>⟨ys,z1,z2,_,by lia,rfl,et,_,z3⟩) (fun σ2 H3 z=>⟨_,by lia,rfl,et,_,z⟩)
 .have e:i=xs.length:=by lia
  subst e;exact .inl ⟨⟨xs,q,aL _⟩,hd ys σ H p⟩
theorem HZ{X:Cx}{d:Nat}(hu:X.A.units+(d+1)<cLine):l9 X (compareOp .Eq) (JL X false d):=by
 intro ae s σ H x y v u Q I rx ry h;obtain⟨p,q,xs,ys,rfl,rfl,hp,hq,hl,he,k⟩:=h;obtain rfl:v=Value.ref p:=rx;obtain rfl:u=Value.ref q:=ry;obtain⟨us,r1,p1,_⟩:=I.list hp;obtain⟨vs,r2,p2,_⟩:=I.list hq;refine SeqAt.eq_listAt (e:=fun _=>true) p1.isList p2.isList (by simp only[cu];rw[<-r1.length,<-r2.length];exact hl) (by lia) (sX I (by show X.A.units+1+d<cLine;lia) r1 r2 he) ⟨.bl _,H,I,rfl,?_⟩;rw[wZ];exact k
theorem Mf:(["_law_one"]:List Str).Nodup:=by decide +kernel
theorem E3:(["_law_house"]:List Str).Nodup:=by decide +kernel
theorem E4{X:Cx}{H:Hp}{os:List Nat}:∀i,i<(NV os).length->i<(NV os).length->SB X H 0 ((NV os).getD i .bH) ((NV os).getD i .bH):=fun i h _=>by
 rw[bO,cm h,Option.getD_some,xY];exact HX
theorem w4{as:List Addr}{k:Nat}:Bc (as.map V.ref) none (some (k:Int))=(as.take k).map V.ref:=by
 have h1:HT.vt (as.map V.ref).length 0 none=0:=rfl;have h2:HT.vt (as.map V.ref).length (as.map V.ref).length (some (k:Int))=min k as.length:=by
  unfold HT.vt;simp;try lia
 unfold Bc;rw[h1,h2,ye,Nat.sub_zero,List.map_take,List.take_eq_take_iff];simp;try lia
section
variable {n:Nat} {g:Nat->List Nat} {hs:List Int} {L:Nat} {ss ls:Nat->List (Option Nat)}
theorem gv.start{s:List (Option Nat)}{ls:Nat->List (Option Nat)}(h:Pz n hs s)(R:dZ n g s)(sl:s.length=hs.length):gv n g hs 0 (fun _=>s) ls []:=
 ⟨jm.start (fun z hz=>nomatch hz) fun i h e=>R.1 h (aS e).2,fun b hb=>absurd hb (by lia),h.1,fun b _=>h.2,fun b _=>sl⟩
theorem gv.push{gs:List (Option Nat)}(N:gv n g hs L ss ls [])(G:gc n g)(R:dZ n g (ss L))(Hd:cZ g (ss L) gs)(nf:NF n g hs (ss L) gs):gv n g hs (L+1) (wQ ss (L+1) (bh hs gs)) (wQ ls L gs) []:=by
 have R5:dZ n g (bh hs gs):=Hd.right G R u9 (fun i=>JE i);refine⟨N.r.push Hd (fun _ _=>rfl) (fun _ h=>h) (fun z hz=>nomatch hz) fun i h e=>R5.1 h (aS e).2,fun b hb=>?_,N.hm,fun b hb i h e=>?_,fun b hb=>?_⟩
 .rw[hV (show b≠L+1 by lia)];by_cases e:b=L
  .rw[e,i7];exact nf
  .rw[hV e];exact N.nf b (by lia)
 .by_cases e':b=L+1
  .rw[e',i7,u_] at e;intro z;unfold JC at e;split at e
   .cases e
   .rename_i x _;by_cases c:(x:Int)=hs.getD i 0
    .rw[ao c] at e;cases e
    .rw[ap c] at e;cases e;exact c z.symm
  .rw[hV e'] at e;exact N.off b (by lia) i h e
 .by_cases e':b=L+1
  .rw[e',i7,u9,Hd.len];exact N.sl L (aL _)
  .rw[hV e'];exact N.sl b (by lia)
theorem gv.cut{M:Nat}{ns:List Int}(N:gv n g hs L ss ls ns)(h:M<=L):gv n g hs M ss ls ns:=
 ⟨⟨fun b hb=>N.r.tie b (by lia),fun b hb=>N.r.next b (by lia),fun z hz b hb=>N.r.fresh z hz b (by lia),fun b hb i a c d e f=>N.r.out b (by lia) i a c d e (by lia),fun b hb=>N.r.lt b (by lia)⟩,fun b hb=>N.nf b (by lia),N.hm,fun b hb=>N.off b (by lia),fun b hb=>N.sl b (by lia)⟩
theorem sY{H:Hp}{as:List Addr}{L M:Nat}{f:Nat->HO}(h:Holds H as L f)(le:M<=L):Holds H (as.take M) M f:=by
 refine⟨by rw[jc,h.1];lia,fun j hj=>?_⟩;have e:(as.take M).getD j 0=as.getD j 0:=by rw[bO,bO,xA hj]
 rw[e];exact h.2 j (by lia)
end
def E5(H H':Hp)(v:V):Option (List Nat)->Prop
 |none=>v=.bH
 |some zs=>∃D,v=.ref D/\H D=none/\H' D=some (.lst (NV zs))
section
variable {P:Program} {w:World} {K:PySem.W.Frag} {mg:Str->Option Value} {base:Heap}
theorem P9:aG ["_law_pot_here","_law_stands","_law_log_here","_law_many"] ["_law_pot_here","_law_stands","_law_log_here"] (am VN):=⟨rfl,rfl,rfl,by decide +kernel,rfl,by decide +kernel,by decide +kernel⟩
def Mg:Sp:=fun vs H Q _=>∃ (p SA LA:Addr) (bu bv:List Addr) (m L:Nat) (ss ls:Nat->List (Option Nat)),vs=[.ref p,.ref SA,.ref LA]/\bj H p/\cI H SA LA bu bv m L ss ls/\SA≠p/\LA≠p/\L<=60/\
 ∀ (t VP VQ:Addr) (VR VS:List Addr) (M:Nat) (H':Hp),H' t=some (.tup [.ref VP,.ref VQ])->cI H' VP VQ VR VS m M ss ls->M<=L->VP≠p->VQ≠p->a_ p H H'->bj H' p->Q (.ref t) H'
theorem P_{f:Addr}{fd:FuncData}(F:fQ K "_law_cut" "_law_cut" VN f fd)(B:Bl mg)(TK:b_ P w K mg base aZ 1 "_law_take" ["_law_pot_here","_law_many"] lT):br P w K mg base aZ 2 f fd ["_law_pot_here","_law_stands","_law_log_here"] Mg:=by
 refine F.ok P9 (fun vs H Q E h=>?_) (fun dL A outer s0 H vs Q E hr h=>?_)
 .obtain⟨p,SA,LA,bu,bv,m,L,ss,ls,rfl,_⟩:=h;rfl
 .obtain⟨p,SA,LA,bu,bv,m,L,ss,ls,rfl,hp,LG,SC,SD,zx,q⟩:=h;have h1:bW 1 _:=hr.mono (by decide);refine⟨_,(ah (bx (aN zO (aD TK h1 aQ (aa (pv 0) (aa aq ag))) aq (aM _)) (al (aF (fZ (aa (pv 1) (aa (pv 2) ag))))) aR)
   (ah (aP (i:=3) P9.nd rfl (Or.inl rfl) (aD TK h1 aQ (aa (pv 0) (aa (bo dB (aA aH (by rfl) B.len cG (aa (pv 2) ag)) aq) ag))))
   (al (aF (fZ (aa (vO zU (pv 1) zP (zQ (bo dB (pv 3) aq))) (aa (vO zU (pv 2) zP (zQ (pv 3))) ag))))))),?_⟩
  refine⟨_,rfl,p,3,rfl,by decide,by decide,hp,fun d a b d0 d1 a0 b0 b1=>⟨_,_,rfl,rfl,_,rfl,?_⟩⟩;have ND:bj (upd H p (.lst [.int a,.int b])) p:=bj.upd a0 b0 b1;have VT:a_ p H (upd H p (.lst [.int a,.int b])):=a_.upd;have Sk:=LG.gm VT hp SC SD;generalize upd H p (.lst [.int a,.int b])=H1 at *;refine bL (fun e=>?_) (fun e=>?_)
  .refine⟨_,rfl,_,rfl,by show 2<=sizeLine;decide,fun t ht=>?_⟩;have st:=aj (o:=.tup [.ref SA,.ref LA]) ht;exact q t SA LA bu bv L _ af (Sk.same st) (aL _) SC SD (VT.trans (a_.of st)) (ND.same st)
  .obtain⟨g1,g2,g3,g4,g5,g6⟩:=Sk;have ll:(((bv.map V.ref).length:Nat):Int)=(L:Int):=by rw[aO,g4.1]
   refine⟨_,rfl,_,rfl,LA,_,rfl,.inl (aU.of g2),_,_,rfl,rfl,p,_,rfl,by lia,by lia,ND,fun d2 a2 b2 e0 e1 c0 c1 c2=>?_⟩;have wN:bj (upd H1 p (.lst [.int a2,.int b2])) p:=bj.upd c0 c1 c2;have Es:a_ p H1 (upd H1 p (.lst [.int a2,.int b2])):=a_.upd;have VU:=cI.gm ⟨g1,g2,g3,g4,g5,g6⟩ Es ND SC SD;generalize upd H1 p (.lst [.int a2,.int b2])=H2 at *;obtain⟨k,rfl⟩:∃k:Nat,(k:Int)=d2:=⟨d2.toNat,by lia⟩
   have kL:k<=L:=by lia
   obtain⟨g1,g2,g3,g4,g5,g6⟩:=VU;refine⟨_,rfl,_,rfl,_,_,rfl,rfl,_,rfl,SA,_,rfl,aU.of g1,fun S2 YH=>?_⟩;rw[show ((k:Int)+1)=((k+1:Nat):Int) by lia,w4];have s3:=aj (o:=.lst ((bu.take (k+1)).map V.ref)) YH;refine⟨_,rfl,_,rfl,_,rfl,LA,_,rfl,aU.of (s3 _ _ g2),fun L2 Nr=>?_⟩;rw[w4];have s4:=aj (o:=.lst ((bv.take k).map V.ref)) Nr;have hSn:(upd (upd H2 S2 (.lst ((bu.take (k+1)).map V.ref))) L2 (.lst ((bv.take k).map V.ref))) S2=some (.lst ((bu.take (k+1)).map V.ref)):=s4 _ _ af;have hLn:(upd (upd H2 S2 (.lst ((bu.take (k+1)).map V.ref))) L2 (.lst ((bv.take k).map V.ref))) L2=some (.lst ((bv.take k).map V.ref)):=af;have s34:=s3.trans s4;have nS:S2≠p:=by rintro rfl;exact wN.some YH
   have nL:L2≠p:=by rintro rfl;exact(wN.same s3).some Nr
   generalize upd (upd H2 S2 (.lst ((bu.take (k+1)).map V.ref))) L2 (.lst ((bv.take k).map V.ref))=H3 at *;refine⟨by show 2<=sizeLine;decide,fun t ht=>?_⟩;have st:=aj (o:=.tup [.ref S2,.ref L2]) ht;have s5:=s34.trans st;exact q t S2 L2 _ _ k _ af ⟨st _ _ hSn,st _ _ hLn,sY (g3.mono fun j _ e=>s5 _ _ e) (by lia),sY (g4.mono fun j _ e=>s5 _ _ e) kL,fun b hb=>g5 b (by lia),fun b hb=>g6 b (by lia)⟩ kL nS nL (VT.trans (Es.trans (a_.of s5))) (wN.same s5)
theorem VW:aG ["_law_found","_law_due"] ["_law_found","_law_due"] (am VO):=⟨rfl,rfl,rfl,by decide +kernel,rfl,by decide +kernel,by decide +kernel⟩
def Mh:Sp:=fun vs H Q _=>∃ (a b:Addr) (os:List Nat),vs=[.ref a,.ref b]/\H a=some (.lst (NV os))/\H b=some (.lst (NV os))/\os.length<=100/\∀H',aE H H'->Q (.bl true) H'
theorem Qa{f:Addr}{fd:FuncData}(F:fQ K "_law_is_list" "_law_is_list" VO f fd)(B:Bl mg):br P w K mg base aZ 1 f fd ["_law_found","_law_due"] Mh:=by
 refine F.ok VW (fun vs H Q E h=>?_) (fun dL A outer s H vs Q E hr h=>?_)
 .obtain⟨a,b,os,rfl,_⟩:=h;rfl
 .obtain⟨a,b,os,rfl,ha,hb,ol,q⟩:=h;refine'⟨_,(ah (bx (PW.pt (n9 (dU (dA (aA eQ (by rfl) B.DO kG (aa (pv 0) (aa (fE (v:=.ty "list") rfl B.lst tu rfl) ag))))) (lG (aN (HY (d:=0) hr.u) (pv 0) (pv 1) (aM _))))) (al (aF fO)) aR)
   (al (aF (aA (BN rfl) (by rfl) B.all PyProof.Rows.boot_all (aa ?c1 ag))))),?_⟩
  case c1=>
   refine' cR (g:=(bC 0)) (te:=(IZ (RI (KD K) (cH (bb 0) (cH (tC (.ty "int")) lH))) (I0 (RI (KD K) (cH (bb 0) (cH (tC (.ty "bool")) lH)))))) (NB:=["_law_one"]) (src:=[none]) (cg (by kernel_rfl)) rfl (cf (pv 0)) ?g ?t ?e;case g=>exact fun cl C s₃ H₃ fp=>(aB (i:=0) Mf rfl (Or.inl rfl) (Or.inr rfl))
   case t=>exact fun cl C s₃ H₃ fp=>ff
   case e=>exact fun cl C s₃ H₃ fp=>(fc (aA eQ (by rfl) B.DO kG (aa (pv 0) (aa (fE (v:=.ty "int") rfl B.int pG rfl) ag))) (fX (ym (aA eQ (by rfl) B.DO kG (aa (pv 0) (aa (fE (v:=.ty "bool") rfl B.bool xD rfl) ag))))))
  refine⟨_,rfl,_,_,_,.type "list",true,rfl,⟨rfl,kX⟩,.of (.lst ha),true,rfl,?_⟩;refine bL (fun e=>absurd e (by decide)) (fun _=>?_);refine⟨_,rfl,_,rfl,a,b,_,_,rfl,rfl,aU.of ha,aU.of hb,rfl,E4,_,rfl,?_⟩;refine bL (fun e=>absurd e (by decide)) (fun _=>?_);refine⟨_,rfl,a,rfl,⟨_,aU.of ha⟩,fun D hD=>?_⟩;refine AH os (fun (x:Nat)=>V.int (x:Int)) (fun _=>V.bl true) (fun σ=>∃x,σ=[x]) ha hD (by lia) ⟨_,rfl⟩ ?_ ?_
  .rintro x σ H2 R Kf hx ⟨x',rfl⟩ sm kk;refine⟨_,rfl,_,_,_,.type "int",true,rfl,⟨rfl,g_⟩,.of (.int _),true,rfl,?_⟩;exact kW ⟨_,rfl,_,_,_,.type "int",false,rfl,⟨rfl,gq⟩,.of (.int _),false,rfl,kk _ _ ⟨_,rfl⟩ (aE.refl _)⟩
  .intro H2 sm lX;have e0:(os.map fun _=>V.bl true)=(os.map fun _=>true).map V.bl:=by rw[fL];rfl
   rw[e0] at lX;refine⟨D,_,rfl,aU.of lX,?_⟩;have e:(os.map fun _=>true).all id=true:=by
    rw[mW];intro x sr;obtain⟨_,_,rfl⟩:=bP.mp sr;rfl
   rw[e];exact q _ sm
theorem AJ:aG ["_law_outs","_law_fars_here","_law_homes","_law_stand","_law_stands","_law_log_here","_law_beat"] ["_law_outs","_law_fars_here","_law_homes","_law_stand"] (am Me):=⟨rfl,rfl,rfl,by decide +kernel,rfl,by decide +kernel,by decide +kernel⟩
def zy:Sp:=fun vs H Q _=>∃ (O r a S:Addr) (as ds:List Addr) (n:Nat) (g:Nat->List Nat) (hs:List Int) (s:List (Option Nat)),vs=[.ref O,.ref r,.ref a,.ref S]/\fm H O as n g/\eV H r ds n g/\gc n g/\H a=some (.tup (HV hs))/\H S=some (.tup (SV s))/\s.length=hs.length/\s.length<=16/\dZ n g s/\Pz n hs s/\
 ∀ (t SA LA:Addr) (bu bv:List Addr) (L:Nat) (ss ls:Nat->List (Option Nat)) (H':Hp),H' t=some (.tup [.ref SA,.ref LA])->cI H' SA LA bu bv s.length L ss ls->gv n g hs L ss ls []->L<=60->aE H H'->H SA=none->H LA=none->Q (.ref t) H'
theorem Mi{f:Addr}{fd:FuncData}(F:fQ K "_law_log" "_law_log" Me f fd)(B:Bl mg)(NE:b_ P w K mg base aZ 2 "_law_nearest" ["_law_outs","_law_fars_here","_law_homes","_law_stand"] L8)(BE:b_ P w K mg base aZ 1 "_law_behind" ["_law_homes","_law_stand","_law_gone"] Ew):
  br P w K mg base aZ 3 f fd ["_law_outs","_law_fars_here","_law_homes","_law_stand"] zy:=by
 refine F.ok AJ (fun vs H Q E h=>?_) (fun dL A outer s0 H vs Q E hr h=>?_)
 .obtain⟨O,r,a,S,as,ds,n,g,hs,s,rfl,_⟩:=h;rfl
 .obtain⟨O,r,a,S,as,ds,n,g,hs,s,rfl,OF,FR,G,ha,hS,sl,LI,R,HM,q⟩:=h;have h1:bW 1 _:=hr.mono (by decide);have h2:bW 2 _:=hr.mono (by decide);refine'⟨_,(ah (aP (i:=4) AJ.nd rfl (Or.inl rfl) (dX (aa (pv 3) ag)))
   (ah (aP (i:=5) AJ.nd rfl (Or.inl rfl) (dX ag))
   (ah (dM eM rfl (d_ rfl B.range (aa aq ag)) (aB (i:=6) AJ.nd rfl (Or.inl rfl))
    (al (bx (aN (Do (e:=ux) hr.u) ?c1 (dX ag) (aM _)) (ah (cP (iy ij kJ kI dh (pv 5) (aa (aD NE h2 aQ (aa (pv 0) (aa (pv 1) (aa (pv 2) (aa (au az (pv 4) (n_ jH aq) (fun _ _=>rfl)) ag))))) ag)))
     (al (cP (iy ij kJ kI dh (pv 4) (aa (aD BE h1 aQ (aa (pv 2) (aa (au az (pv 4) (n_ jH aq) (fun _ _=>rfl)) (aa (au az (pv 5) (n_ jH aq) (fun _ _=>rfl)) ag)))) ag))))) aR)))
   (al (aF (fZ (aa (pv 4) (aa (pv 5) ag)))))))),?_⟩
  case c1=>
   refine' cR (g:=(bC 0)) (tt:=(md (l_ (fun x y H Q=>y=.bH/\Q (.bl (!decide (x=.bH))) H) (bb 0) (tC .bH)))) (te:=(bb 0)) (NB:=["_law_house"]) (src:=[none]) (cg (by kernel_rfl)) rfl (Kh (au az (pv 4) (n_ jH aq) (fun _ _=>rfl))) ?g ?t ?e;case g=>exact fun cl C s₃ H₃ fp=>(aB (i:=0) E3 rfl (Or.inl rfl) (Or.inr rfl))
   case t=>exact fun cl C s₃ H₃ fp=>fg (aN uq (pv 0) ce (aM _))
   case e=>exact fun cl C s₃ H₃ fp=>(pv 0)
  refine⟨_,rfl,by show 1<=sizeLine;decide,fun SA SE=>⟨by show 0<=sizeLine;decide,fun LA VX=>?_⟩⟩;have VY:SA≠LA:=ai af VX;have Qb:H LA=none:=(aj SE).free VX;have Nz:=(aj (o:=.lst [.ref S]) SE).trans (aj (o:=.lst []) VX)
  let J:Nat->Hp->Prop:=fun i Hc=>aE H Hc/\∃bu bv L ss ls,L<=i/\cI Hc SA LA bu bv s.length L ss ls/\dZ n g (ss L)/\gv n g hs L ss ls []
  have J0:J 0 (upd (upd H SA (.lst [.ref S])) LA (.lst [])):=by
   refine⟨Nz,[S],[],0,fun _=>s,fun _=>[],aL _,⟨by rw[ak VY];exact af,af,⟨rfl,fun j hj=>?_⟩,Holds.nil,fun b _=>rfl,fun b hb=>absurd hb (by lia)⟩,R,gv.start HM R sl⟩;have:j=0:=by lia
   subst this;exact Nz _ _ hS
  refine⟨60,rfl,by decide,by decide,eW (n:=60) (lo:=0) (fun i σ Hc=>(∃v6,σ=[some (.ref O),some (.ref r),some (.ref a),some (.ref S),some (.ref SA),some (.ref LA),v6])/\J i Hc) ⟨⟨_,rfl⟩,J0⟩ ?_ ?_⟩
  .rintro i σ Hc hi ⟨⟨v6,rfl⟩,sc,bu,bv,L,ss,ls,hL,LG,RC,LN⟩;obtain⟨g1,g2,g3,g4,g5,g6⟩:=LG;have LG:cI Hc SA LA bu bv s.length L ss ls:=⟨g1,g2,g3,g4,g5,g6⟩
   have YI:(ss L).length=s.length:=g5 L (aL _);have hT:=g3.2 L (by lia);refine⟨_,rfl,_,rfl,SA,_,_,_,rfl,rfl,aU.of g1,mH g3.1,_,rfl,⟨_,cx.of hT⟩,fun D hD=>?_⟩;refine B8 (K:=K) (xs:=SV (ss L)) (fun j ys σ H3=>(∃b,σ=[b])/\ys.length<=j/\aE Hc H3/\H3 D=some (.lst ys)) ⟨⟨_,rfl⟩,aL _,aj hD,af⟩ (fun j ys σ H3 _ z=>cx.of (z.2.2.1 _ _ hT)) ?_ ?_
   .rintro j x ys σ H3 Kt Kf hx ⟨⟨b,rfl⟩,yl,sm,kD⟩ kt kf;have hj:=(cK.mp hx).1;rw[aO] at hj;refine⟨_,rfl,rfl,_,rfl,?_⟩;refine bL (fun e=>?_) (fun e=>kf _ _ ⟨⟨_,rfl⟩,by lia,sm,kD⟩);exact⟨_,rfl,kt _ _ _ kD (gg yl (bV (show j<17 by lia) (by decide))) ⟨⟨_,rfl⟩,by rw[cr,pH];lia,dD.bD sm hD,af⟩⟩
   rintro ys σ H3 ⟨_,_,sm,kD⟩;dsimp only;refine⟨by show 0<=sizeLine;decide,fun E1 HW=>?_⟩;have s3:=sm.trans (aj (o:=.lst []) HW);have B0:=aj (o:=.lst []) HW _ _ kD;refine⟨D,E1,_,[],rfl,rfl,aU.of B0,aU.of af,fun i h1 h2=>absurd h2 (by simp),_,rfl,?_⟩;have YJ:=LG.same s3;have Qc:=sc.trans s3;generalize upd H3 E1 (.lst [])=H4 at *;refine bL (fun _=>?_) (fun _=>⟨⟨_,rfl⟩,Qc,bu,bv,L,ss,ls,by lia,YJ,RC,LN⟩);obtain⟨g1,g2,g3,g4,g5,g6⟩:=YJ;refine⟨_,rfl,.inl ⟨rfl,_,aU.of g2⟩,_,rfl,_,rfl,_,rfl,_,rfl,_,rfl,SA,_,_,_,rfl,rfl,aU.of g1,mH g3.1,O,r,a,bu.getD L 0,as,ds,n,g,hs,ss L,rfl,OF.same Qc,FR.same Qc,G,Qc _ _ ha,g3.2 L (by lia),by lia,by lia,RC,HM.1,fun t gs H5 s5 ht Hd nf=>?_⟩;have gl:gs.length=s.length:=by rw[Hd.len];exact YI
   have Mj:=s5 _ _ g2;refine⟨LA,_,_,rfl,rfl,Mj,by rw[aO,g4.1];exact bV (show L<61 by lia) (by decide),?_⟩;have Cn:aE H (upd H5 LA (.lst (bv.map V.ref++[.ref t]))):=dD.bD (Qc.trans s5) Qb;have kt6:qQ H4 (upd H5 LA (.lst (bv.map V.ref++[.ref t]))):=(qQ.of s5).trans (qQ.upd Mj);have NC:(upd H5 LA (.lst (bv.map V.ref++[.ref t]))) SA=some (.lst (bu.map V.ref)):=by rw[ak VY];exact s5 _ _ g1
   have PZ:(upd H5 LA (.lst (bv.map V.ref++[.ref t]))) LA=some (.lst ((bv++[t]).map V.ref)):=by rw[af,cD];rfl
   have SF:(upd H5 LA (.lst (bv.map V.ref++[.ref t]))) t=some (.tup (SV gs)):=qQ.upd Mj _ _ ht;generalize upd H5 LA (.lst (bv.map V.ref++[.ref t]))=H6 at *;have ll:(bv++[t]).length=L+1:=by rw[cr,g4.1];rfl
   have Qd:ft ((bv++[t]).map V.ref) (-1)=some (.ref t):=by rw[mH ll,j8 g4.1,ao rfl]
   refine⟨_,rfl,.inl ⟨rfl,_,aU.of NC⟩,_,rfl,_,rfl,_,rfl,SA,_,_,_,rfl,rfl,aU.of NC,mH g3.1,_,rfl,_,rfl,LA,_,_,_,rfl,rfl,aU.of PZ,Qd,a,t,_,hs,gs,rfl,Cn _ _ ha,SF,by lia,by lia,fun r2 H7 s7 Nf=>?_⟩;have SG:=s7 _ _ NC;refine⟨SA,_,_,rfl,rfl,SG,by rw[aO,g3.1];exact bV (show L+1<62 by lia) (by decide),?_⟩;have Mc:aE H (upd H7 SA (.lst (bu.map V.ref++[.ref r2]))):=dD.bD (Cn.trans s7) SE;have kt8:qQ H4 (upd H7 SA (.lst (bu.map V.ref++[.ref r2]))):=(kt6.trans (qQ.of s7)).trans (qQ.upd SG);have VH:(upd H7 SA (.lst (bu.map V.ref++[.ref r2]))) SA=some (.lst ((bu++[r2]).map V.ref)):=by rw[af,cD];rfl
   have hL8:(upd H7 SA (.lst (bu.map V.ref++[.ref r2]))) LA=some (.lst ((bv++[t]).map V.ref)):=by rw[ak VY.symm];exact s7 _ _ PZ
   have ht8:(upd H7 SA (.lst (bu.map V.ref++[.ref r2]))) t=some (.tup (SV gs)):=qQ.upd SG _ _ (s7 _ _ SF);have hr8:(upd H7 SA (.lst (bu.map V.ref++[.ref r2]))) r2=some (.tup (SV (bh hs gs))):=qQ.upd SG _ _ Nf;generalize upd H7 SA (.lst (bu.map V.ref++[.ref r2]))=H8 at *;have mv:=Hd.moves G RC;have R5:dZ n g (bh hs gs):=Hd.right G RC u9 (fun i=>JE i);have bl:(bh hs gs).length=s.length:=by rw[u9];exact gl
   exact⟨⟨_,rfl⟩,Mc,_,_,L+1,_,_,by lia,cI.push ⟨g1,g2,g3,g4,g5,g6⟩ kt8 VH hL8 ht8 hr8 bl mv,by rw[i7];exact R5,LN.push G RC Hd nf⟩
  .rintro σ Hc ⟨⟨v6,rfl⟩,sc,bu,bv,L,ss,ls,hL,LG,RC,LN⟩;refine⟨_,rfl,_,rfl,by show 2<=sizeLine;decide,fun t ht=>?_⟩;have st:=aj (o:=.tup [.ref SA,.ref LA]) ht;exact q t SA LA bu bv L ss ls _ af (LG.same st) LN hL (sc.trans st) SE Qb
end
abbrev VZ:Stmt:=gw 50
theorem w5{hs:List Int}{ls:Nat->List (Option Nat)}{nx:Nat->Nat->Nat}{k b c:Nat}(h:kZ hs (ls b) c=true):wX hs ls nx (k+1) b c=some [c]:=ao h
theorem w6{hs:List Int}{ls:Nat->List (Option Nat)}{nx:Nat->Nat->Nat}{k b c:Nat}(h:kZ hs (ls b) c≠true):wX hs ls nx (k+1) b c=(wX hs ls nx k (b+1) (nx (b+1) c)).map (c::·):=ap h
theorem w9{o:Option (List Nat)}{zs:List Nat}{c:Nat}:(o.map (c::·)).map (zs++·)=o.map ((zs++[c])++·):=by
 cases o with
 |none=>rfl
 |some l=>show some (zs++(c::l))=some ((zs++[c])++l);rw[i_];rfl
theorem w_{hs:List Int}{l:List (Option Nat)}{c:Nat}:decide (jo (l.getD c none)=V.int (hs.getD c 0))=kZ hs l c:=by
 unfold kZ;cases l.getD c none with
 |none=>exact cE fun z=>by cases z
 |some o=>exact oV
section
variable {P:Program} {w:World} {K:PySem.W.Frag} {mg:Str->Option Value} {base:Heap}
theorem B9:aG ["_law_outs","_law_fars_here","_law_homes","_law_stands","_law_log_here","_law_i","_law_beat","_law_found","_law_one","_law_at","_law_stand"] ["_law_outs","_law_fars_here","_law_homes","_law_stands","_law_log_here","_law_i","_law_beat"] (am VZ):=⟨rfl,rfl,rfl,by decide +kernel,rfl,by decide +kernel,by decide +kernel⟩
def H_:Sp:=fun vs H Q _=>∃ (O r a SA LA:Addr) (as ds bu bv:List Addr) (n L:Nat) (g:Nat->List Nat) (hs ns:List Int) (ss ls:Nat->List (Option Nat)) (i b:Nat),vs=[.ref O,.ref r,.ref a,.ref SA,.ref LA,.int i,.int b]/\fm H O as n g/\eV H r ds n g/\gc n g/\eG n (ba n g)/\H a=some (.tup (HV hs))/\hs.length<=16/\cI H SA LA bu bv hs.length L ss ls/\gv n g hs L ss ls ns/\L<=60/\i<hs.length/\b<L/\
 ∀ (v:V) (H':Hp),aE H H'->E5 H H' v (AF n g hs L ss ls b i)->Q v H'
theorem Qe{f:Addr}{fd:FuncData}(F:fQ K "_law_blame" "_law_blame" VZ f fd)(B:Bl mg)(LE:b_ P w K mg base aZ 1 "_law_is_led" ["_law_fars_here","_law_homes","_law_stand","_law_gone","_law_i"] EW)(TR:b_ P w K mg base aZ 1 "_law_taker" ["_law_stand","_law_gone","_law_i","_law_house"] L3)(GO:b_ P w K mg base aZ 1 "_law_goods" ["_law_outs","_law_fars_here","_law_home","_law_house"] HP):br P w K mg base aZ 2 f fd ["_law_outs","_law_fars_here","_law_homes","_law_stands","_law_log_here","_law_i","_law_beat"] H_:=by
 refine F.ok B9 (fun vs H Q E h=>?_) (fun dL A outer s0 H vs Q E hr h=>?_)
 .obtain⟨O,r,a,SA,LA,as,ds,bu,bv,n,L,g,hs,ns,ss,ls,i,b,rfl,_⟩:=h;rfl
 .obtain⟨O,r,a,SA,LA,as,ds,bu,bv,n,L,g,hs,ns,ss,ls,i,b,rfl,OF,FR,G,Fi,ha,B_,LG,LN,zx,hi,hb,q⟩:=h;have h1:bW 1 _:=hr.mono (by decide);refine⟨_,(ah (bx (dU (dA (aD LE h1 aQ (aa (pv 1) (aa (pv 2) (aa (au az (pv 3) (pv 6) (fun _ _=>rfl)) (aa (au az (pv 4) (pv 6) (fun _ _=>rfl)) (aa (pv 5) ag)))))))) (al (aF ce)) aR)
   (ah (aP (i:=7) B9.nd rfl (Or.inl rfl) (dX ag))
   (ah (aP (i:=8) B9.nd rfl (Or.inl rfl) (pv 5))
   (ah (dM eM rfl (rT rfl B.range (aa (pv 6) (aa (aA aH (by rfl) B.len cG (aa (pv 4) ag)) ag))) (aB (i:=9) B9.nd rfl (Or.inl rfl))
    (ah (aP (i:=10) B9.nd rfl (Or.inl rfl) (au az (pv 3) (pv 9) (fun _ _=>rfl)))
    (ah (bx (dA (aD LE h1 aQ (aa (pv 1) (aa (pv 2) (aa (pv 10) (aa (au az (pv 4) (pv 9) (fun _ _=>rfl)) (aa (pv 8) ag))))))) (al (aP (i:=8) B9.nd rfl (Or.inl rfl) (aD TR h1 aQ (aa (pv 10) (aa (au az (pv 4) (pv 9) (fun _ _=>rfl)) (aa (pv 8) (aa (au az (aD GO h1 aQ (aa (pv 0) (aa (pv 1) (aa (au aV (pv 2) (pv 8) (fun _ _=>rfl)) (aa (au aV (pv 10) (pv 8) (fun _ _=>rfl)) ag))))) aq (fun _ _=>rfl)) ag))))))) aR)
    (ah (cP (iy ij kJ kI dh (pv 7) (aa (pv 8) ag)))
    (al (bx (aN eO (au aV (au az (pv 4) (pv 9) (fun _ _=>rfl)) (pv 8) (fun _ _=>rfl)) (au aV (pv 2) (pv 8) (fun _ _=>rfl)) (aM _)) (al (aF (pv 7))) aR))))))
   (al (aF ce)))))),?_⟩
  obtain⟨g1,g2,g3,g4,g5,g6⟩:=LG;have LG:cI H SA LA bu bv hs.length L ss ls:=⟨g1,g2,g3,g4,g5,g6⟩
  have YK:∀c,c<L->cZ g (ss c) (ls c):=LN.r.tie;have Nw:∀c,c<=L->∀i h,(ss c).getD i none=some h->h<n:=fun c hc=>LN.r.lt c hc;refine⟨_,rfl,_,rfl,_,rfl,_,rfl,SA,_,_,_,rfl,rfl,aU.of g1,eJ (by rw[g3.1];lia),_,rfl,_,rfl,LA,_,_,_,rfl,rfl,aU.of g2,eJ (by rw[g4.1];exact hb),_,rfl,r,a,bu.getD b 0,bv.getD b 0,ds,n,g,hs,ss b,ls b,i,rfl,FR,ha,g3.2 b (by lia),g4.2 b hb,g5 b (by lia),YK b hb,G,Nw b (by lia),LN.hm,hi,_,rfl,?_⟩;unfold AF at q;refine bL (fun e=>?_) (fun e=>?_)
  .have e':gK n g hs (ss b) (ls b) i=false:=by simpa using e
   rw[ap (fun z=>by rw[e'] at z;cases z.2)] at q;exact q .bH H (aE.refl _) rfl
  have e':gK n g hs (ss b) (ls b) i=true:=by simpa using e
  rw[ao ⟨hb,e'⟩] at q;refine⟨by show 0<=sizeLine;decide,fun Fo V0=>?_⟩;have sF:=aj (o:=.lst []) V0;have LJ:(((bv.map V.ref).length:Nat):Int)=(L:Int):=by rw[aO,g4.1]
  refine⟨_,rfl,_,rfl,_,rfl,LA,_,rfl,.inl (aU.of (sF _ _ g2)),b,L,by rw[LJ],⟨by lia,by lia,by lia,by lia⟩,?_⟩;have en:((L:Int)-(b:Int)).toNat=L-b:=by lia
  rw[en];refine eW (n:=L-b) (lo:=(b:Int)) (fun k σ Hc=>∃ (one:Nat) (zs:List Nat),(∃v9 FI,σ=[some (.ref O),some (.ref r),some (.ref a),some (.ref SA),some (.ref LA),some (.int i),some (.int b),some (.ref Fo),some (.int one),v9,FI])/\aE H Hc/\Hc Fo=some (.lst (NV zs))/\zs.length=k/\one<hs.length/\
    wX hs ls (jV n g hs ss ls) (L-b) b (jV n g hs ss ls b i)=(wX hs ls (jV n g hs ss ls) (L-b-k) (b+k) (jV n g hs ss ls (b+k) one)).map (zs++·)) ⟨i,[],⟨_,_,rfl⟩,sF,af,rfl,hi,?_⟩ ?_ ?_
  .show _=(wX hs ls (jV n g hs ss ls) (L-b) b (jV n g hs ss ls b i)).map ([]++·);cases wX hs ls (jV n g hs ss ls) (L-b) b (jV n g hs ss ls b i) <;> rfl
  .rintro k σ Hc hk ⟨one,zs,⟨v9,FI,rfl⟩,sc,YL,zl,ol,ch⟩;have FN:b+k<L:=by lia
   have V1:=LG.same sc;obtain⟨c1,c2,c3,c4,c5,c6⟩:=V1;have SI:(b:Int)+(k:Int)=((b+k:Nat):Int):=by lia
   have rS:ft (bu.map V.ref) ((b:Int)+(k:Int))=some (.ref (bu.getD (b+k) 0)):=by rw[SI];exact eJ (by rw[c3.1];lia)
   have rL:ft (bv.map V.ref) ((b:Int)+(k:Int))=some (.ref (bv.getD (b+k) 0)):=by rw[SI];exact eJ (by rw[c4.1];exact FN)
   have V2:=c3.2 (b+k) (by lia);have YM:=c4.2 (b+k) FN;have Hd:=YK _ FN;refine⟨_,rfl,_,rfl,SA,_,_,_,rfl,rfl,aU.of c1,rS,?_⟩;refine⟨_,rfl,_,rfl,_,rfl,_,rfl,_,rfl,LA,_,_,_,rfl,rfl,aU.of c2,rL,_,rfl,r,a,bu.getD (b+k) 0,bv.getD (b+k) 0,ds,n,g,hs,ss (b+k),ls (b+k),one,rfl,FR.same sc,sc _ _ ha,V2,YM,g5 _ (by lia),Hd,G,Nw _ (by lia),LN.hm,ol,_,rfl,?_⟩;refine Em (fun σ Hx=>σ=[some (.ref O),some (.ref r),some (.ref a),some (.ref SA),some (.ref LA),some (.int i),some (.int b),some (.ref Fo),some (.int ((jV n g hs ss ls (b+k) one:Nat):Int)),some (.int ((b:Int)+(k:Int))),some (.ref (bu.getD (b+k) 0))]/\aE Hc Hx/\jV n g hs ss ls (b+k) one<hs.length) ?_ (fun led kc=>?_) (fun nl=>?_)
   .rintro σ Hx ⟨rfl,sx,nl⟩;have YN:=sx _ _ YL;refine⟨_,rfl,.inl ⟨rfl,_,aU.of YN⟩,_,rfl,Fo,_,_,rfl,rfl,YN,by rw[aO,zl];exact bV (show k<61 by lia) (by decide),?_⟩;have s2:aE H (upd Hx Fo (.lst (NV zs++[.int ((jV n g hs ss ls (b+k) one:Nat):Int)]))):=dD.bD (sc.trans sx) V0;have YO:(upd Hx Fo (.lst (NV zs++[.int ((jV n g hs ss ls (b+k) one:Nat):Int)]))) Fo=some (.lst (NV (zs++[jV n g hs ss ls (b+k) one]))):=by rw[af,gJ]
    generalize upd Hx Fo (.lst (NV zs++[.int ((jV n g hs ss ls (b+k) one:Nat):Int)]))=H2 at *;generalize jV n g hs ss ls (b+k) one=Qf at *;have VU:=LG.same s2;obtain⟨d1,d2,d3,d4,d5,d6⟩:=VU;have Yv:(ls (b+k)).length=hs.length:=by rw[Hd.len];exact g5 _ (by lia)
    refine⟨_,rfl,_,rfl,LA,_,_,_,rfl,rfl,aU.of d2,rL,_,rfl,bv.getD (b+k) 0,_,_,_,rfl,rfl,cx.of (d4.2 (b+k) FN),dv (by lia),_,rfl,_,rfl,a,_,_,_,rfl,rfl,cx.of (s2 _ _ ha),hU nl,kq,_,rfl,?_⟩;rw[w_];rw[show L-b-k=(L-b-(k+1))+1 by lia] at ch;refine bL (fun hm=>?_) (fun hm=>?_)
    .rw[w5 hm] at ch;rw[ch] at q;exact⟨_,rfl,q _ H2 s2 ⟨Fo,rfl,V0,YO⟩⟩
    .refine⟨Qf,zs++[Qf],⟨_,_,rfl⟩,s2,YO,by rw[cr,zl];rfl,nl,?_⟩;rw[w6 hm,w9] at ch;exact ch
   .obtain⟨h,o',o,l,j,f1,f2,f3,f4,f5,f6,f7,f8,f9,_⟩:=LN.taker Fi FN led;obtain⟨kk,Sy,ek,Cp⟩:=mK LN.hm ol;have kE:ft (SV (ss (b+k))) (one:Int)=some (.int (h:Int)):=by rw[dv (by rw[g5 _ (by lia)];exact ol),f1];rfl
    have jl:j<hs.length:=by have:=(aS f7).1;rw[g5 _ (by lia)] at this;exact this
    have Ma:(g h).filter (fun o=>decide (far (ba n g) o kk<far (ba n g) h kk))=dw n g hs one h:=by unfold dw dH;rw[Cp]
    refine⟨_,rfl,_,rfl,_,rfl,LA,_,_,_,rfl,rfl,aU.of c2,rL,_,rfl,_,rfl,_,rfl,_,rfl,_,rfl,a,_,_,_,rfl,rfl,cx.of (sc _ _ ha),hU ol,_,rfl,_,rfl,bu.getD (b+k) 0,_,_,_,rfl,rfl,cx.of V2,kE,O,r,as,ds,n,g,kk,h,by rw[ek];rfl,OF.same sc,FR.same sc,G,Sy,f4,fun D H6 s6 hD DZ=>?_⟩;rw[Ma,f5] at DZ;refine⟨D,_,_,_,rfl,rfl,aU.of DZ,bf (j:=0) rfl,bu.getD (b+k) 0,bv.getD (b+k) 0,g,ss (b+k),ls (b+k),one,h,o,j,rfl,s6 _ _ V2,s6 _ _ YM,by rw[g5 _ (by lia)];exact B_,Hd,f1,f7,f8,fun H7 s7=>?_⟩;refine kc _ _ ⟨?_,s6.trans s7,by rw[f6];exact jl⟩;rw[f6];rfl
   .refine⟨?_,aE.refl _,?_⟩ <;> (unfold jV;rw[ap nl])
    .rfl
    .exact ol
  .rintro σ Hc ⟨one,zs,⟨v9,FI,rfl⟩,sc,YL,zl,ol,ch⟩;rw[show L-b-(L-b)=0 by lia] at ch;have e0:wX hs ls (jV n g hs ss ls) (L-b) b (jV n g hs ss ls b i)=none:=ch;rw[e0] at q;exact q .bH Hc sc rfl
end
end vx
namespace L2
open PySem PySem.Spec PyProof.Rows
def cz(cells:List (Str×Addr))(a:Addr):Prop:=∃x,cells.lookup x=some a
abbrev ji(h0:Heap)(b:Addr):HO:=.ext fun h=>h.get? b=h0.get? b
open Classical in
noncomputable def iD(S:Addr->Prop)(h0:Heap)(H:Hp):Hp:=fun b=>if S b then some (ji h0 b) else H b
open Classical in
noncomputable def AK(S:Addr->Prop)(H:Hp):Hp:=fun b=>if S b then none else H b
section
variable {S:Addr->Prop} {h0 h h':Heap} {H H':Hp} {b:Addr} {P:Program} {w:World} {fs:List Addr}
theorem mN(e:S b):iD S h0 H b=some (ji h0 b):=ao e
theorem bE(e:¬ S b):iD S h0 H b=H b:=ap e
theorem nY(e:S b):AK S H b=none:=ao e
theorem eD(e:¬ S b):AK S H b=H b:=ap e
theorem gP(e:H b=none):AK S H b=none:=by
 by_cases c:S b
 .exact nY c
 .rw[eD c];exact e
theorem AL(x:iM P w H h)(l:∀a,S a->H a=some (ji h0 a)):iM P w (AK S H) h:=fun a o e=>by
 by_cases c:S a
 .rw[nY c] at e;cases e
 .rw[eD c] at e;exact(x a o e).oC (fun _ _ _ q=>q) (fun d q=>by rw[eD fun z=>by rw[l d z] at q;cases q];exact q) fun d xs q=>by rw[eD fun z=>by rw[l d z] at q;cases q];exact q
theorem xa(x:iM P w H h)(l:∀a,S a->H a=none/\h.get? a=h0.get? a/\∃o,h0.get? a=some o):iM P w (iD S h0 H) h:=fun a o e=>by
 by_cases c:S a
 .rw[mN c] at e;cases e;obtain⟨_,e1,o,e2⟩:=l a c;exact⟨e1,⟨o,e1.trans e2⟩,fun h1 h2 z k=>(k o (z.trans e2)).trans e2.symm⟩
 .rw[bE c] at e;exact(x a o e).oC (fun _ _ _ q=>q) (fun d q=>by rw[bE fun z=>by rw[(l d z).1] at q;cases q];exact q) fun d xs q=>by rw[bE fun z=>by rw[(l d z).1] at q;cases q];exact q
theorem Ml(u:Un fs [] (iD S h0 H) H' h h')(l:∀a,S a->H a=none/\h.get? a=h0.get? a/\a∉fs)(l':∀a,S a->h'.get? a=h0.get? a):Un fs [] H (AK S H') h h' where
 keep:=fun b o e n hb hx=>by
  by_cases c:S b
  .rw[l' b c,<-(l b c).2.1];exact e
  .exact u.keep b o e (by rw[bE c];exact n) hb hx
 slot:=fun b o e n hb hx=>u.slot b o e (by rw[bE fun z=>(l b z).2.2 hb];exact n) hb hx
 free:=fun b o e n hx=>by
  by_cases c:S b
  .exact nY c
  .exact gP (u.free b o e (by rw[bE c];exact n) hx)
 there:=u.there
 lF:=fun b xs e=>by
  have c:¬ S b:=fun z=>by rw[(l b z).1] at e;cases e
  rw[eD c];exact u.lF b xs (by rw[bE c];exact e)
 m8:=fun b o v e=>by
  have c:¬ S b:=fun z=>by rw[(l b z).1] at e;cases e
  rw[eD c];exact u.m8 b o v (by rw[bE c];exact e)
 m9:=fun b ps e=>by
  have c:¬ S b:=fun z=>by rw[(l b z).1] at e;cases e
  rw[eD c];exact u.m9 b ps (by rw[bE c];exact e)
theorem Ib(u:Un fs [] (AK S H) H' h h')(l:∀a,S a->H a=some (ji h0 a)):Un fs [] H (iD S h0 H') h h' where
 keep:=fun b o e n hb hx=>u.keep b o e (gP n) hb hx
 slot:=fun b o e n hb hx=>u.slot b o e (gP n) hb hx
 free:=fun b o e n hx=>by
  have c:¬ S b:=fun z=>by rw[l b z] at n;cases n
  rw[bE c];exact u.free b o e (gP n) hx
 there:=u.there
 lF:=fun b xs e=>by
  have c:¬ S b:=fun z=>by rw[l b z] at e;cases e
  rw[bE c];exact u.lF b xs (by rw[eD c];exact e)
 m8:=fun b o v e=>by
  have c:¬ S b:=fun z=>by rw[l b z] at e;cases e
  rw[bE c];exact u.m8 b o v (by rw[eD c];exact e)
 m9:=fun b ps e=>by
  have c:¬ S b:=fun z=>by rw[l b z] at e;cases e
  rw[bE c];exact u.m9 b ps (by rw[eD c];exact e)
end
structure xb(cells:List (Str×Addr))(h0:Heap)(H:Hp):Prop where
 inj:∀x y c,cells.lookup x=some c->cells.lookup y=some c->x=y
 at_:∀a,cz cells a->H a=some (ji h0 a)
 cell:∀x c,cells.lookup x=some c->∃v,h0.IsCell c v
theorem xb.mono{cells:List (Str×Addr)}{h0:Heap}{H H':Hp}(l:xb cells h0 H)(s:∀a,cz cells a->H a=some (ji h0 a)->H' a=some (ji h0 a)):xb cells h0 H':=⟨l.inj,fun a c=>s a c (l.at_ a c),l.cell⟩
def qW(cells:List (Str×Addr))(h0:Heap)(x:Str)(v:V):Prop:=∃u c,be v u/\cells.lookup x=some c/\h0.IsCell c (some u)
def Mm(X:Cx)(sp:Sp)(t:TA):TE:=fun σ H Q=>t σ H fun vs H1=>(∀a,cz X.env.cells a->H1 a=none)->∀h0:Heap,xb X.env.cells h0 (iD (cz X.env.cells) h0 H1)->(∀ (i:Nat) (x:Str) (v:V),X.N[i]?=some x->σ[i]?=some (some v)->X.env.scope.names.lookup x=some .cell->qW X.env.cells h0 x v)->
 sp vs (iD (cz X.env.cells) h0 H1) (fun v H'=>(∀a,cz X.env.cells a->H' a=some (ji h0 a))/\Q v (AK (cz X.env.cells) H')) E0
section
variable {X:Cx} {k:Nat} {x:Str} {ps:List Str} {sp:Sp} {e:Expr} {es:List Expr} {t:TA} {p pos:Pos}
theorem Ic(C:b_ X.prog X.w X.K X.mg X.base aZ k x ps sp)(hr:bW k X.A)(NP:X.fn=fun _=>true)(YQ:X.ex=[])(ha:PA X (e::es) t)(hg:Gl X x:=by rfl)(Ba:(x==("__debug__":Str))=false:=by decide)(he:starEach (e::es) X.env=(false,eval e X.env)::starEach es X.env:=by rfl)(xk:(backTo pos (starEach es X.env)).any (·.1)=false:=by rfl):
  PE X (.Call (.Name x p) (e::es) [] pos) (Mm X sp t):=by
 obtain⟨f,fd,hm,hk,hb,F⟩:=C.ex;intro ae s σ H Q I h;refine lc (oU I hg hm ?_ Ba);refine tP (h₀:=X.base) I.ok.mod.M8 hk (bZ (ha pos ae s σ H _ I h) fun us s1 ⟨vs,H1,I1,r,q⟩=>⟨I1.ng,?_⟩) he xk;have cF:∀a,cz X.env.cells a->H1 a=none/\(∃o,s1.heap.get? a=some o)/\a∉A5 X.stack/\X.base.get? a=none:=fun a ⟨y,ey⟩=>by
  obtain⟨v,o,ho,hd⟩:=I1.cell y a ey;have ab:=I1.ok.M9 y a (by rw[NP]) ey;refine⟨I1.jD y a ey,⟨o,ho⟩,fun oI=>?_,k_ (bB I1.ok.Cg ab)⟩;rcases bK.mp (I1.pY a oI) with z|z
  .exact I1.IT y a ey z
  .obtain⟨_,o',CK,_⟩:=I1.ok.m_.mem z;exact absurd (bV (aY CK) ab) (jg _)
 have L:xb X.env.cells s1.heap (iD (cz X.env.cells) s1.heap H1):=⟨I1.ok.inj,fun a c=>mN c,I1.cell⟩
 have q':=q (fun a c=>(cF a c).1) s1.heap L fun i y v h1 h2 h3=>by
  obtain⟨m,_,hl⟩:=I1.loc;obtain⟨u,ru,lk⟩:=hl i y v h1 h2 (.inr (.inl h3));rcases lk with ⟨z,_⟩|⟨_,c,e1,e2⟩
  .have z:X.env.scope.names.lookup y=some .local:=z;rw[h3] at z;cases z
  .exact⟨u,c,ru,e1,e2⟩
 have E0':vL X.prog X.w X.K X.mg X.base X.A X.stack s1 (iD (cz X.env.cells) s1.heap H1):=by
  obtain⟨e1,e2,e3,e4,e5,e6,e7,e8⟩:=I1.Kr;refine⟨e1,e2,fun b o eb=>⟨(e3 b o eb).1,?_⟩,e4,e5,fun b oI=>?_,xa e7 fun a c=>⟨(cF a c).1,rfl,(cF a c).2.1⟩,e8⟩
  .rw[bE fun z=>by rw[(cF b z).2.2.2] at eb;cases eb];exact(e3 b o eb).2
  .rw[bE fun z=>(cF b z).2.2.1 oI];exact e6 b oI
 have hl:us.length=ps.length:=by rw[<-r.length];exact F.len _ _ _ _ q'
 have oI:=hb s1 us I1.ng (by rw[mZ];exact hl);rw[mZ] at oI;refine m4 (lA (F.run X.A X.stack s1 _ ⟨us,[]⟩ us vs _ E0 hr E0' oI r q') fun rr s' hq=>?_);cases rr with
 |error e=>exact hq.elim
 |ok fl=>
  cases fl with
  |ret u=>
   obtain⟨v,H',os,bare,un,bA,rv,k1,k2⟩:=hq;have l':∀a,cz X.env.cells a->s'.heap.get? a=s1.heap.get? a:=fun a c=>(bA a _ (k1 a c)).1;exact I1.after ⟨v,AK _ H',os,bare,Ml un (fun a c=>⟨(cF a c).1,rfl,(cF a c).2.2.1⟩) l',AL bA k1,rv,k2⟩
  |next=>exact False.elim hq
  |brk=>exact False.elim hq
  |cont=>exact False.elim hq
end
def vn(scope:Scope)(dk:List (Str×Addr))(qual:Str)(f c L:Addr):Env:=
 { scope:=scope,locals:=L,globals:=mainGlobals,cells:=dk,qual:=qual++".<locals>.",func:=some f,code:=.ref c,frame:=some L,builtins:=builtinsNs }
def zz(X:Cx)(NB:List Str)(scope:Scope)(dk:List (Str×Addr))(qual:Str)(f c:Addr)(s:Shared)(H:Hp):Cx:=
 { X with A:=X.A.deeper (vn scope dk qual f c s.heap.objs.size),N:=NB,s₀:=s,H₀:=H,env:=vn scope dk qual f c s.heap.objs.size,outer:=X.stack,stack:=vn scope dk qual f c s.heap.objs.size::X.stack,ex:=[],fn:=fun _=>false,pn:=[],xe:=fun _ _=>False }
structure AM(NB:List Str)(nP:Nat)(scope:Scope)(qual:Str)(params:Arguments)(body:Expr):Prop where
 kind:scope.kind=.function
 nd:NB.Nodup
 bind:∀dk pm c uK us,us.length=nP->bindArgs (PySem.W.kla_fn "<lambda>" qual params body scope dk pm (.ref c) uK) ⟨us,[]⟩=pure ((NB.take nP).zip us)
 par:∀x∈NB.take nP,scope.names.lookup x=some .local
 fr:∀i x,nP<=i->NB[i]?=some x->scope.names.lookup x=some .free
 uL:∀z∈scope.names,z.2≠.cell
 co:scope.isCoroutine=false
 gen:scope.isGenerator=false
theorem xc{x:Str}{v:Value}:∀ {l:List (Str×Value)},(l.map (·.1)).Nodup->(x,v)∈l->l.lookup x=some v
 |(y,u)::l,nd,h=>by
  obtain⟨n1,n2⟩:=dQ.mp nd;rcases bK.mp h with z|z
  .injection z with z1 z2;rw[z1,z2,fu,beq_self_eq_true]
  .have ne:x≠y:=fun e=>n1 (by rw[<-e];exact bP.mpr ⟨_,z,rfl⟩);rw[fu,show (x==y)=false by simpa using ne];exact xc n2 z
theorem E6{x:Str}{v:Value}{l:List Str}{us:List Value}{i:Nat}(nd:l.Nodup)(hl:l.length<=us.length)(h1:l[i]?=some x)(h2:us[i]?=some v):(l.zip us).reverse.lookup x=some v:=by
 refine xc ?_ (List.mem_reverse.mpr (dP (i:=i) ?_))
 .rw[List.map_reverse,List.map_fst_zip hl];exact(List.reverse_perm l).nodup_iff.mpr nd
 .rw[List.getElem?_zip_eq_some];exact⟨h1,h2⟩
section
variable {X:Cx} {ae:List (Addr×Obj)} {σ:St} {H:Hp} {s:Shared} {NB:List Str} {nP:Nat} {scope:Scope} {qual:Str} {params:Arguments} {body:Expr} {dk cells:List (Str×Addr)} {f c:Addr} {h₁ h0:Heap} {t₁:Nat} {vs ws:List V} {us:List Value}
theorem E7(I:aK X ae σ H s)(S:AM NB nP scope qual params body)(hd:X.A.handled=none)(SJ:X.calm=true)(c1:∀x c,dk.lookup x=some c->cells.lookup x=some c)(c2:∀x,(x,NameKind.free)∈scope.names->∃c,dk.lookup x=some c)(L:xb cells h0 H)(hw:∀ (i:Nat) (x:Str) (v:V),NB[nP+i]?=some x->ws[i]?=some v->qW cells h0 x v)(hn:h₁.Ns s.heap.objs.size (fun x=>((NB.take nP).zip us).reverse.lookup x))(hk:∀b o,s.heap.get? b=some o->h₁.get? b=some o)(rv:aW vs us)(hv:vs.length=nP)(dY:nP+ws.length=NB.length):
  aK (zz X NB scope dk qual f c s (AK (cz cells) H)) [] ((vs++ws).map some) (AK (cz cells) H) { s with heap:=h₁,toks:=t₁ }:=by
 have inS:∀ {x c},dk.lookup x=some c->cz cells c:=fun {x c} e=>⟨x,c1 x c e⟩
 have LL:∀a,cz cells a->s.heap.get? a=h0.get? a:=fun a z=>(I.bA a _ (L.at_ a z)).1;have qd:∀x c v,cells.lookup x=some c->h0.IsCell c v->h₁.IsCell c v:=fun x c v e ⟨o,ho,J9⟩=>⟨o,hk _ _ ((LL c ⟨x,e⟩).trans ho),J9⟩
 refine⟨⟨I.ok.mod,S.kind,rfl,rfl,aL _,fun x y c e1 e2=>L.inj x y c (c1 x c e1) (c1 y c e2),fun x hx=>?_,(fun x c z e=>by cases z),fun _=>hd,Around.frames_deeper I.ok.frames,.inr ⟨rfl,rfl⟩,(fun b hb=>by cases hb),fun b o e=>⟨(I.bs b o e).1,gP (I.bs b o e).2⟩,bB I.ok.Cg I.sz,(fun b o e hb=>by cases hb),(fun b hb=>by cases hb),I.stack,fun b hb=>gP (I.oT b hb)⟩,
  rfl,I.bare,Un.kept hk,⟨_,hn,fun i x w e1 e2 e3=>?_⟩,fun x c e=>?_,gP (I.bA.fresh (aL _)),fun x c e=>nY (inS e),fun p hp=>absurd (show p∈([]:List (Addr×Obj)) from hp) (by simp),(AL I.bA L.at_).kept hk,?_⟩
 .have hx:scope.names.lookup x=some .cell\/scope.names.lookup x=some .free:=hx;rcases hx with z|z
  .exact absurd rfl (S.uL _ (jp z))
  .exact c2 x (jp z)
 .have e1:NB[i]?=some x:=e1;have e2:(vs++ws)[i]?=some w:=by
   rw[bn] at e2;obtain⟨w',h1,h2⟩:=pj.mp e2;rw[h1];exact h2
  by_cases hi:i<nP
  .rw[i8 (by rw[hv];exact hi)] at e2;obtain⟨u,hu,ru⟩:=rv.get e2;have hp:(NB.take nP)[i]?=some x:=by rw[xA hi];exact e1
   have hx:x∈NB.take nP:=dP hp;refine⟨u,ru,.inl ⟨S.par x hx,?_⟩⟩;exact E6 (S.nd.sublist (tQ _ _)) (by rw[<-rv.length,hv];exact xM _ _) hp hu
  .rw[nZ (by rw[hv];lia),hv] at e2;obtain⟨u,c',ru,ec,hc⟩:=hw (i-nP) x w (by rw[show nP+(i-nP)=i by lia];exact e1) e2;have hF:=S.fr i x (by lia) e1;obtain⟨SK,Qg⟩:=c2 x (jp hF);have:SK=c':=by have:=c1 x SK Qg;rw[ec] at this;exact(bR this).symm
   subst this;exact⟨u,ru,.inr ⟨.inr hF,SK,Qg,qd x SK _ ec hc⟩⟩
 .obtain⟨v,yt⟩:=L.cell x c (c1 x c e);exact⟨v,qd x c v (c1 x c e) yt⟩
 .show ((vs++ws).map some).length=NB.length;rw[aO,cr,hv];exact dY
def E8(nP:Nat)(scope:Scope)(qual:Str)(params:Arguments)(body:Expr)(NB:List Str)(te:TE)(f:Addr)(vs:List V)(H:Hp)(Q:VK):Prop:=∃ (cells:List (Str×Addr)) (c:Addr) (h0:Heap) (ws:List V),H f=some (qk f qual params body scope cells c)/\H c=some (oq c qual)/\vs.length=nP/\nP+ws.length=NB.length/\xb cells h0 H/\
 (∀ (i:Nat) (x:Str) (v:V),NB[nP+i]?=some x->ws[i]?=some v->qW cells h0 x v)/\te ((vs++ws).map some) (AK (cz cells) H) fun v H'=>(∀a,cz cells a->H' a=none)->Q v (iD (cz cells) h0 H')
theorem Ie{te:TE}{Q:VK}{k:Nat}(hr:bW k X.A)(SJ:X.calm=true)(S:AM NB nP scope qual params body)(I:aK X ae σ H s)(rv:aW vs us)(hb:∀dk c s H,PE (zz X NB scope dk qual f c s H) body te)(h:E8 nP scope qual params body NB te f vs H Q):
  wpAny (model X.prog X.w) X.A (call (.ref f) us) (EP X ae σ Q) X.xe s:=by
 obtain⟨cells,c,h0,ws,hf,hc,hv,dY,L,hw,h⟩:=h;obtain⟨dk,pm,uK,c1,c2,KA⟩:=(I.bA f _ hf).1;have Ut:s.heap.CodeRec (.ref c) qual:=(I.bA c _ hc).1;have Ds:X.A.depth<recursionLimit:=by have:=hr.dp;lia
 have hul:us.length=nP:=by rw[<-rv.length];exact hv
 refine m4 (PySem.W.kla_callFunE Ds KA rfl S.co S.gen rfl Ut ?_);rw[S.bind _ _ _ _ _ hul];refine wpAny_pure (wpAny_newFunctionEnv S.uL (fun x hx=>?_) (fun h₁ KO ON=>⟨I.nolimit.fresh _ ON,?_⟩) S.kind)
 .exact S.par _ (mY hx).1
 have KP:∀b o,s.heap.get? b=some o->h₁.get? b=some o:=fun b o e=>ON.extBut b o (aX (aY e)) (cq _ e);refine PySem.W.kla_codeExpr ?_;have J:=E7 (f:=f) (c:=c) (t₁:=s.toks+((NB.take nP).zip us).length) I S hr.hd SJ c1 c2 L hw KO KP rv hv dY;refine h9 (hb dk c s _ [] _ _ _ _ J h) (fun w s' ⟨v',H',J',r',q'⟩=>?_) fun _ _ z=>z.elim;have kp:∀a,cz cells a->H' a=none/\s'.heap.get? a=h0.get? a/\∃o,h0.get? a=some o:=fun a z=>by
  obtain⟨y,ey⟩:=id z;have e0:s.heap.get? a=h0.get? a:=(I.bA a _ (L.at_ a z)).1;obtain⟨v,o,ho,_⟩:=L.cell y a ey;have es:s.heap.get? a=some o:=e0.trans ho;refine⟨J'.base.free a o es (nY z) (by intro z;cases z),?_,o,ho⟩;rw[ho];exact J'.base.keep a o es (nY z) (fun oI=>by have:=I.oT a oI;rw[L.at_ a z] at this;cases this) (by intro z;cases z)
 exact⟨v',iD (cz cells) h0 H',I.IY (ch:=[]) J'.os (Ib J'.base L.at_) (xa J'.bA kp) J'.bare (fun b hb=>by cases hb),r',q' fun a z=>(kp a z).1⟩
def Qh(i:Nat)(nP:Nat)(scope:Scope)(qual:Str)(params:Arguments)(body:Expr)(NB:List Str)(te:TE)(t:TA):TE:=fun σ H Q=>∃f,σ[i]?=some (some (.ref f))/\(∃cells c,H f=some (qk f qual params body scope cells c))/\t σ H fun vs H1=>E8 nP scope qual params body NB te f vs H1 Q
theorem AN{te:TE}{k i:Nat}{x:Str}{e:Expr}{es:List Expr}{t:TA}{p pos:Pos}(hr:bW k X.A)(SJ:X.calm=true)(S:AM NB nP scope qual params body)(hx:PE X (.Name x p) (bb i))(ha:PA X (e::es) t)(hb:∀f dk c s H,PE (zz X NB scope dk qual f c s H) body te)(he:starEach (e::es) X.env=(false,eval e X.env)::starEach es X.env:=by rfl)(xk:(backTo pos (starEach es X.env)).any (·.1)=false:=by rfl):
  PE X (.Call (.Name x p) (e::es) [] pos) (Qh i nP scope qual params body NB te t):=by
 intro ae s σ H Q I h;obtain⟨f,hσ,⟨cells,c,hf⟩,h⟩:=h;have fn:∀ {s:Shared} {H:Hp} {cells:List (Str×Addr)} {c:Addr},iM X.prog X.w H s.heap->H f=some (qk f qual params body scope cells c)->PySem.W.FnAt f s.heap:=fun {s H cells c} bA hf=>by
  obtain⟨dk,pm,uK,_,_,e⟩:=(bA f _ hf).1;exact⟨_,_,_,_,e⟩
 refine lc (bZ (hx ae s σ H (fun v H1=>v=.ref f/\H1=H) I ⟨_,hσ,rfl,rfl⟩) fun u s1 ⟨v,H1,I1,r1,ev,eH⟩=>?_);subst ev;subst eH;cases r1;refine PySem.W.callWith_F (fn I1.bA hf) (bZ (ha pos ae s1 σ H1 _ I1 h) fun us s2 ⟨vs,H2,I2,r,q⟩=>⟨?_,?_⟩) he xk
 .obtain⟨V3,c',_,_,Br,_⟩:=id q;exact fn I2.bA Br
 .exact Ie hr SJ S I2 r (hb f) q
end
end L2
namespace dD
open PySem L2 rF
theorem wJ{xs:List Nat}{i:Nat}{x:V}(h:(NV xs)[i]?=some x):∃z,xs[i]?=some z/\x=.int (z:Nat):=by
 rw[bn] at h;obtain⟨z,hz,rfl⟩:=pj.mp h;exact⟨z,hz,rfl⟩
theorem Ig{xs ys:List Nat}:NV (xs++ys)=NV xs++NV ys:=cD
theorem U9:(["other","self","home","own"]:List Str).Nodup:=by decide +kernel
noncomputable def AO(n:Nat)(ts:Ts)(i j:Nat):List Nat:=(eY n ts i).filter fun o=>decide (far ts o j<far ts i j)
theorem JM(n:Int)(tl ol ds:Addr):(oN n tl ol ds).lookup ("good":Str)=none:=u0 n tl ol ds (by decide +kernel) (by decide +kernel) (by decide +kernel) (by decide +kernel)
section
variable {P:Program} {w:World} {K:PySem.W.Frag} {mg:Str->Option Value} {base:Heap}
theorem E9:aG ["self","house","home","own"] ["self","house","home"] (am DU):=⟨rfl,rfl,rfl,by decide +kernel,rfl,by decide +kernel,by decide +kernel⟩
def ph(C:Addr):Sp:=fun vs H Q _=>∃ (L:Addr->Prop) (p:Addr) (n:Nat) (ts:Ts) (i j:Nat),vs=[.ref p,.int i,.int j]/\cS C H L p n ts/\i<n/\j<n/\∀r H',aE H H'->H r=none->H' r=some (.lst (NV (AO n ts i j)))->Q (.ref r) H'
theorem E_{f C:Addr}{fd:FuncData}(F:fQ K "good" "Net.good" DU f fd)(T:NT K mg C)(M:mC P w K mg base aZ 5 C "far" ["self","one","other"] (nQ C)):
  br P w K mg base aZ 6 f fd ["self","house","home"] (ph C):=by
 obtain⟨fM,fdM,mM,bM,GM⟩:=M.ex;refine F.ok E9 (fun vs H Q E h=>?_) (fun dL A outer s H vs Q E hr h=>?_)
 .obtain⟨L,p,n,ts,i,j,rfl,_⟩:=h;rfl
 .obtain⟨L,p,n,ts,i,j,rfl,N,hi,hj,k2⟩:=h;obtain⟨dx,tl,ol,ds,h1,_,_,RO,R,_⟩:=N.ob;have fi:=N.i6;have n2:=fi.n2;refine'⟨_,ah (aP (i:=3) E9.nd rfl (Or.inr rfl) (iR (pv 0) T.cl mM GM hr bM .nil aQ (aa (pv 1) (aa (pv 2) ag))))
   (al (aF ?c)),?_⟩
  case c=>
   refine' cR (g:=bC 0) (tt:=md (l_ (Ci fun i j=>.bl (decide (i<j))) (l_ (Bd K) (l_ (Bd K) (Ko K (bb 1) "distances") (bb 0)) (bb 2)) (bb 3))) (te:=bb 0) (NB:=["other","self","home","own"]) (src:=[none,some 0,some 2,some 3]) (cg (by kernel_rfl)) rfl (cf (au az (nw (pv 0) rfl) (pv 1) (fun _ _=>rfl))) ?g ?t ?e;case g=>exact fun cl C s₃ H₃ fp=>aB (i:=0) U9 rfl (Or.inl rfl) (Or.inr rfl)
   case t=>exact fun cl C s₃ H₃ fp=>fg (aN qb (au az (au az (nw (pv 1) rfl) (pv 0) (fun _ _=>rfl)) (pv 2) (fun _ _=>rfl)) (pv 3) (aM _))
   case e=>exact fun cl C s₃ H₃ fp=>pv 0
  refine⟨_,rfl,p,dx,_,rfl,h1,BY _ _ _ _,_,rfl,_,rfl,L,p,n,ts,i,j,rfl,N,hi,hj,?_⟩;obtain⟨bs,b,r1,r2,r3,_⟩:=RO.row hi;refine⟨_,rfl,p,C,dx,_,_,rfl,h1,T.cl,T.nO,G6 _ _ _ _,_,rfl,ol,_,_,_,rfl,rfl,aU.of r1,bf r2,b,rfl,⟨_,aU.of r3⟩,fun D hD=>?_⟩;have nb:b≠D:=ai r3 hD;refine eX (xs:=NV (eY n ts i)) (fun m ys σ H2=>(∃a,σ=[a,some (.ref p),some (.int (j:Int)),some (.int ((far ts i j:Nat):Int))])/\ys=NV (((eY n ts i).take m).filter fun o=>decide (far ts o j<far ts i j))/\H2=upd H D (.lst ys)) ⟨⟨_,rfl⟩,by simp,rfl⟩ (fun m ys σ H2 _ ⟨_,_,e⟩=>by rw[e];exact aU.of (by rw[ak nb];exact r3)) ?_ ?_
  .rintro m x ys σ H2 Kt Kf hx ⟨⟨a,rfl⟩,ey,rfl⟩ kt kf;obtain⟨v,hv,rfl⟩:=wJ hx;have R9:v∈eY n ts i:=dP hv;have D9:v<n:=As fi hi R9;have sm:aE H (upd H D (.lst ys)):=aj hD;obtain⟨bs2,b2,q1,q2,q3,_⟩:=R.row D9;have hg:(NV ((List.range n).map (far ts v)))[j]?=some (.int (far ts v j:Nat)):=by
    rw[bn,bn,k9 hj];rfl
   have tk:(eY n ts i).take (m+1)=(eY n ts i).take m++[v]:=by rw[io,hv];rfl
   have hm:m<(eY n ts i).length:=(cK.mp hv).1;refine⟨_,rfl,p,C,dx,_,_,rfl,sm _ _ h1,T.cl,T.nD,Au _ _ _ _,_,rfl,ds,_,_,_,rfl,rfl,aU.of (sm _ _ q1),bf q2,_,rfl,b2,_,_,_,rfl,rfl,aU.of (sm _ _ q3),bf hg,_,rfl,_,_,rfl,rfl,_,rfl,?_⟩;refine bL (fun e=>?_) (fun e=>?_)
   .refine⟨_,rfl,kt _ _ _ af ?_ ⟨⟨_,rfl⟩,?_,by rw[gY]⟩⟩
    .rw[ey,qM];refine gg (n5 _ _) (gg (xM _ _) (bV (show m<33 from ?_) (by decide)));have:(eY n ts i).length<=n:=bB (n5 _ _) (by simp);lia
    .have:decide (far ts v j<far ts i j)=true:=by simp at e |-;lia
     rw[ey,tk,jq,Ig];simp[jt,this]
   .refine kf _ _ ⟨⟨_,rfl⟩,?_,rfl⟩;have:decide (far ts v j<far ts i j)=false:=by simp at e |-;lia
    rw[ey,tk,jq];simp[jt,this]
  .rintro ys σ H2 ⟨_,ey,rfl⟩;rw[qM,gy] at ey;refine k2 D _ (aj hD) hD ?_;rw[af,ey];rfl
end
theorem Fa{ts AQ:Ts}(p:ts.Perm AQ){a b:Nat}:T ts a b↔T AQ a b:=p.mem_iff
theorem ky{ts AQ:Ts}(p:ts.Perm AQ):∀ {k a b:Nat},dj ts k a b->dj AQ k a b
 |0,_,_,e=>e
 |k+1,a,b,⟨c,w,t⟩=>⟨c,ky p w,(Fa p).mp t⟩
theorem sZ{n:Nat}{ts AQ:Ts}(p:ts.Perm AQ)(F:eG n ts):eG n AQ:=by
 refine⟨F.n1,F.n2,p.nodup_iff.mp F.nd,fun t ht=>F.rg t (p.mem_iff.mpr ht),fun t ht=>F.ne t (p.mem_iff.mpr ht),fun h=>?_,fun h=>?_,fun a b ha hb=>?_⟩
 .rw[<-(p.filter _).length_eq,<-(p.filter _).length_eq];exact F.Jt h
 .rw[<-(p.filter _).length_eq];exact F.most h
 .obtain⟨k,w⟩:=F.con a b ha hb;exact⟨k,ky p w⟩
theorem Fb{n:Nat}{ts AQ:Ts}(p:ts.Perm AQ)(F:eG n ts){a b:Nat}(ha:a<n)(hb:b<n):far AQ a b=far ts a b:=by
 have h:=F.GY ha hb;exact qI ⟨ky p h.1,fun k w=>h.2 k (ky p.symm w)⟩
theorem ig.Qi{H:Hp}{L:Addr->Prop}{l:Addr}{n:Nat}{r r':Nat->List Nat}(R:ig H L l n r)(e:∀h,h<n->r' h=r h):ig H L l n r':=
 let ⟨bs,a,b,c⟩:=R
 ⟨bs,a,b,c.1,fun j hj=>by
  show _=some (HO.lst (NV (r' j)));rw[e j hj];exact c.2 j hj⟩
theorem cS.perm{C:Addr}{H:Hp}{L:Addr->Prop}{p:Addr}{n:Nat}{ts AQ:Ts}(N:cS C H L p n ts)(pm:ts.Perm AQ):cS C H L p n AQ:=by
 obtain⟨dx,tl,ol,ds,a,l1,l2,b,c,l3,zs,d1,d2,d3,d4,d5⟩:=N.ob;refine⟨sZ pm N.i6,dx,tl,ol,ds,a,l1,l2,b.Qi fun h hh=>?_,c.Qi fun h hh=>?_,l3,zs,d1,d2,d3,d4.trans pm,d5⟩
 .unfold eY;exact xT fun o _=>mU.mpr (Fa pm).symm
 .exact i9 fun x hx=>Fb pm N.i6 hh (bN.mp hx)
end dD
namespace vx
open PySem L2 rF
open dD (cS NT mC BY JM AO nQ ph)
abbrev Mn:Stmt:=gw 14
abbrev V4:Stmt:=gw 2
abbrev V5:Stmt:=gw 19
abbrev V6:Stmt:=gw 20
abbrev SL:Stmt:=gw 18
def sk(n:Nat)(g:Nat->List Nat):Prop:=∀h,h<n->eY n (ba n g) h=g h
theorem Mo{n:Nat}{g:Nat->List Nat}(G:gc n g):sk n (gr n g):=by
 intro h hh;obtain⟨m,rfl⟩:∃m,n=m+1:=⟨n-1,by lia⟩
 have nh:¬ T (ba (m+1) (gr (m+1) g)) h h:=fun t=>((Ay G).lt h hh h (wS.mp t).2).2 rfl;unfold eY;have e0:(h+0) % (m+1)=h:=jv hh;rw[tw,cW,e0,List.filter_cons_of_neg (by simpa using nh),fL];show _=B1 (m+1) g h m;unfold B1;have e:((fun s=>(h+s) % (m+1)) ∘ Nat.succ)=fun s=>(h+(1+s)) % (m+1):=funext fun s=>by
  show (h+(s+1)) % (m+1)=_;rw[Nat.add_comm s 1]
 rw[e];refine xT fun o _=>mU.mpr ?_;rw[wS];exact⟨fun z=>(gu G hh).mem_iff.mp z.2,fun z=>⟨hh,(gu G hh).mem_iff.mpr z⟩⟩
section
variable {P:Program} {w:World} {K:PySem.W.Frag} {mg:Str->Option Value} {base:Heap}
theorem JN:aG ["stand","handing","house","goes","letter"] ["stand","handing","house","goes"] (am Mn):=⟨rfl,rfl,rfl,by decide +kernel,rfl,by decide +kernel,by decide +kernel⟩
def Fc:Sp:=fun vs H Q _=>∃ (S G:Addr) (g:Nat->List Nat) (s l:List (Option Nat)) (h o j:Nat),vs=[.ref S,.ref G,.int h,.int o]/\H S=some (.tup (SV s))/\H G=some (.tup (SV l))/\s.length<=16/\cZ g s l/\s.getD j none=some h/\l.getD j none=some o/\Q (.int j) H
theorem Mp{f:Addr}{fd:FuncData}(F:fQ K "taker" "taker" Mn f fd)(B:Bl mg):br P w K mg base aZ 1 f fd ["stand","handing","house","goes"] Fc:=by
 refine F.ok JN (fun vs H Q E h=>?_) (fun dL A outer s0 H vs Q E hr h=>?_)
 .obtain⟨S,G,g,s,l,h,o,j,rfl,_⟩:=h;rfl
 .obtain⟨S,G,g,s,l,h,o,j,rfl,hS,hG,LI,Hd,e1,e2,q⟩:=h;refine⟨_,(ah (dM eM rfl (d_ rfl B.range (aa (aA aH (by rfl) B.len cG (aa (pv 0) ag)) ag)) (aB (i:=4) JN.nd rfl (Or.inl rfl))
    (al (bx (PW.pt (yk (aN eO (au aV (pv 0) (pv 4) (fun _ _=>rfl)) (pv 2) (aM _)) (ug (aN eO (au aV (pv 1) (pv 4) (fun _ _=>rfl)) (pv 3) (aM _))))) (al (aF (pv 4))) aR)))
   (al (aF ce))),?_⟩
  have jl:=(aS e1).1;refine⟨_,rfl,S,_,rfl,.inr (cx.of hS),(s.length:Nat),by rw[aO],by lia,by lia,?_⟩;refine eW (n:=s.length) (lo:=0) (fun k σ Hc=>(∃v,σ=[some (.ref S),some (.ref G),some (.int h),some (.int o),v])/\Hc=H/\k<=j) ⟨⟨_,rfl⟩,rfl,df _⟩ ?_ ?_
  .rintro k σ Hc hk ⟨⟨v,rfl⟩,rfl,kj⟩;rw[lx];refine⟨_,rfl,_,rfl,S,_,_,_,rfl,rfl,cx.of hS,dv hk,_,rfl,kq,_,rfl,?_⟩;have d1:decide (jo (s.getD k none)=V.int (h:Int))=decide (s.getD k none=some h):=vj (b:=some h);rw[d1];refine bL (fun a1=>?_) (fun a1=>?_)
   .refine⟨_,rfl,_,rfl,G,_,_,_,rfl,rfl,cx.of hG,dv (by rw[Hd.len];exact hk),_,rfl,kq,_,rfl,?_⟩;have d2:decide (jo (l.getD k none)=V.int (o:Int))=decide (l.getD k none=some o):=vj (b:=some o);rw[d2];refine bL (fun a2=>?_) (fun a2=>?_)
    .have:=Hd.Sh k j h o (bU a1) e1 (bU a2) e2;subst this;exact⟨_,rfl,q⟩
    .refine⟨⟨_,rfl⟩,rfl,?_⟩;rcases Nat.lt_or_eq_of_le kj with z|z
     .exact z
     .exact absurd (bJ (by rw[z];exact e2)) a2
   .refine sR ⟨⟨_,rfl⟩,rfl,?_⟩;rcases Nat.lt_or_eq_of_le kj with z|z
    .exact z
    .exact absurd (bJ (by rw[z];exact e1)) a1
  .rintro σ Hc ⟨_,_,kj⟩;exact absurd jl (by lia)
theorem Mq:aG ["net","homes","stand","handing","letter","house","goes"] ["net","homes","stand","handing","letter"] (am V4):=⟨rfl,rfl,rfl,by decide +kernel,rfl,by decide +kernel,by decide +kernel⟩
def Fd(C:Addr):Sp:=fun vs H Q _=>∃ (Lp:Addr->Prop) (p a S G:Addr) (n:Nat) (g:Nat->List Nat) (hs:List Int) (s l:List (Option Nat)) (i:Nat),vs=[.ref p,.ref a,.ref S,.ref G,.int i]/\cS C H Lp p n (ba n g)/\H a=some (.tup (HV hs))/\H S=some (.tup (SV s))/\H G=some (.tup (SV l))/\s.length=hs.length/\cZ g s l/\gc n g/\(∀i h,s.getD i none=some h->h<n)/\(∀h∈hs,0<=h/\h<n)/\i<hs.length/\Q (.bl (gK n g hs s l i)) H
theorem Mr{f C:Addr}{fd:FuncData}(F:fQ K "is_led" "is_led" V4 f fd)(T:NT K mg C)(MF:mC P w K mg base aZ 5 C "far" ["self","one","other"] (nQ C)):br P w K mg base aZ 6 f fd ["net","homes","stand","handing","letter"] (Fd C):=by
 obtain⟨fF,fdF,mF,bF,GF⟩:=MF.ex;refine F.ok Mq (fun vs H Q E h=>?_) (fun dL A outer s0 H vs Q E hr h=>?_)
 .obtain⟨Lp,p,a,S,G,n,g,hs,s,l,i,rfl,_⟩:=h;rfl
 .obtain⟨Lp,p,a,S,G,n,g,hs,s,l,i,rfl,N,ha,hS,hG,sl,Hd,Gd,Nw,hm,hi,q⟩:=h;have h5:bW 5 _:=hr;refine⟨_,(ah (aP (i:=5) Mq.nd rfl (Or.inl rfl) (au aV (pv 2) (pv 4) (fun _ _=>rfl)))
   (ah (aP (i:=6) Mq.nd rfl (Or.inl rfl) (au aV (pv 3) (pv 4) (fun _ _=>rfl)))
   (ah (bx (PW.pt (n9 (aN iQ (pv 6) ce (aM _)) (lG (aN eO (pv 6) (pv 5) (aM _))))) (al (aF fO)) aR)
   (al (aF (cY CV (iR (pv 0) T.cl mF GF h5 bF .nil aQ (aa (pv 6) (aa (au aV (pv 1) (pv 4) (fun _ _=>rfl)) ag))) (iR (pv 0) T.cl mF GF h5 bF .nil aQ (aa (pv 5) (aa (au aV (pv 1) (pv 4) (fun _ _=>rfl)) ag))) (aM _))))))),?_⟩
  have kE:ft (SV s) (i:Int)=some (jo (s.getD i none)):=dv (by lia);have wR:ft (SV l) (i:Int)=some (jo (l.getD i none)):=dv (by rw[Hd.len];lia);refine⟨_,rfl,_,rfl,S,_,_,_,rfl,rfl,cx.of hS,kE,?_⟩;refine⟨_,rfl,_,rfl,G,_,_,_,rfl,rfl,cx.of hG,wR,?_⟩;refine⟨_,rfl,rfl,_,rfl,?_⟩;cases es:s.getD i none with
  |none=>
   rw[Hd.bH i es];refine bL (fun _=>?_) (fun e=>absurd (bJ rfl) e);have e2:gK n g hs s l i=false:=by unfold gK;rw[es]
   rw[e2] at q;exact kW q
  |some h=>
   obtain⟨o,eo,mo⟩:=Hd.tie i h es;rw[eo];have hn:=Nw i h es;obtain⟨on,one⟩:=Gd.lt h hn o mo;obtain⟨k,hk,ek,Cp⟩:=mK hm hi;refine bL (fun e=>absurd (bU e) (by intro z;cases z)) (fun _=>?_);refine⟨_,rfl,_,rfl,rfl,_,rfl,?_⟩;refine bL (fun e=>absurd (dR (V.int.inj (bU e))) one) (fun _=>?_);obtain⟨dx,tl,ol,ds,hp,_⟩:=N.ob;have NG:ft (HV hs) (i:Int)=some (.int (k:Int)):=by rw[hU hi,ek]
   refine⟨_,rfl,p,dx,_,rfl,hp,BY _ _ _ _,_,rfl,_,rfl,_,rfl,a,_,_,_,rfl,rfl,cx.of ha,NG,Lp,p,n,ba n g,o,k,rfl,N,on,hk,?_⟩;refine⟨_,rfl,p,dx,_,rfl,hp,BY _ _ _ _,_,rfl,_,rfl,_,rfl,a,_,_,_,rfl,rfl,cx.of ha,NG,Lp,p,n,ba n g,h,k,rfl,N,hn,hk,?_⟩;refine⟨_,_,rfl,rfl,?_⟩;rw[jW es eo] at q;unfold dH at q;rw[Cp] at q;have e3:decide (((far (ba n g) h k:Nat):Int)<=((far (ba n g) o k:Nat):Int))=decide (far (ba n g) h k<=far (ba n g) o k):=mU.mpr (by lia);show Q (V.bl (decide (((far (ba n g) h k:Nat):Int)<=((far (ba n g) o k:Nat):Int)))) H;rw[e3];exact q
theorem Qj:aG ["net","homes","stand","handing","letter","house"] ["net","homes","stand","handing","letter"] (am V5):=⟨rfl,rfl,rfl,by decide +kernel,rfl,by decide +kernel,by decide +kernel⟩
noncomputable def Fe(n:Nat)(g:Nat->List Nat)(hs:List Int)(ss ls:Nat->List (Option Nat))(b i:Nat):V:=if gK n g hs (ss b) (ls b) i=true then .int ((jV n g hs ss ls b i:Nat):Int) else .bH
def Ih(C:Addr):Sp:=fun vs H Q _=>∃ (Lp:Addr->Prop) (p a S G:Addr) (n L:Nat) (g:Nat->List Nat) (hs ns:List Int) (ss ls:Nat->List (Option Nat)) (b i:Nat),vs=[.ref p,.ref a,.ref S,.ref G,.int i]/\cS C H Lp p n (ba n g)/\sk n g/\gc n g/\H a=some (.tup (HV hs))/\H S=some (.tup (SV (ss b)))/\H G=some (.tup (SV (ls b)))/\gv n g hs L ss ls ns/\b<L/\i<hs.length/\hs.length<=16/\∀H',aE H H'->Q (Fe n g hs ss ls b i) H'
theorem Qk{f C:Addr}{fd:FuncData}(F:fQ K "good_tie_taker" "good_tie_taker" V5 f fd)(T:NT K mg C)(IL:b_ P w K mg base aZ 6 "is_led" ["net","homes","stand","handing","letter"] (Fd C))(TA:b_ P w K mg base aZ 1 "taker" ["stand","handing","house","goes"] Fc)(MG:mC P w K mg base aZ 6 C "good" ["self","house","home"] (ph C)):br P w K mg base aZ 7 f fd ["net","homes","stand","handing","letter"] (Ih C):=by
 obtain⟨fG,fdG,mG,bG,GG⟩:=MG.ex;refine F.ok Qj (fun vs H Q E h=>?_) (fun dL A outer s0 H vs Q E hr h=>?_)
 .obtain⟨Lp,p,a,S,G,n,L,g,hs,ns,ss,ls,b,i,rfl,_⟩:=h;rfl
 .obtain⟨Lp,p,a,S,G,n,L,g,hs,ns,ss,ls,b,i,rfl,N,Rn,Gd,ha,hS,hG,LN,hb,hi,B_,q⟩:=h;have h1:bW 1 _:=hr.mono (by decide);have h6:bW 6 _:=hr;refine⟨_,(ah (bx (dU (dA (aD IL h6 aQ (aa (pv 0) (aa (pv 1) (aa (pv 2) (aa (pv 3) (aa (pv 4) ag)))))))) (al (aF ce)) aR)
   (ah (aP (i:=5) Qj.nd rfl (Or.inl rfl) (au aV (pv 2) (pv 4) (fun _ _=>rfl)))
   (al (aF (aD TA h1 aQ (aa (pv 2) (aa (pv 3) (aa (pv 5) (aa (au az (iR (pv 0) T.cl mG GG h6 bG .nil aQ (aa (pv 5) (aa (au aV (pv 1) (pv 4) (fun _ _=>rfl)) ag))) aq (fun _ _=>rfl)) ag))))))))),?_⟩
  have Hd:=LN.r.tie b hb;have sl:=LN.sl b (dG hb);refine⟨_,rfl,_,rfl,_,rfl,_,rfl,_,rfl,Lp,p,a,S,G,n,g,hs,ss b,ls b,i,rfl,N,ha,hS,hG,sl,Hd,Gd,LN.r.lt b (dG hb),LN.hm,hi,_,rfl,?_⟩;unfold Fe at q;refine bL (fun e=>?_) (fun e=>?_)
  .have e':gK n g hs (ss b) (ls b) i=false:=by simpa using e
   rw[ap (by rw[e'];decide)] at q;exact q H (aE.refl _)
  have led:gK n g hs (ss b) (ls b) i=true:=by simpa using e
  rw[ao led] at q;obtain⟨h,o',o,l,j,f1,f2,f3,f4,f5,f6,f7,f8,f9,_⟩:=LN.taker N.i6 hb led;obtain⟨k,hk,ek,Cp⟩:=mK LN.hm hi;have kE:ft (SV (ss b)) (i:Int)=some (.int (h:Int)):=by rw[dv (by lia),f1];rfl
  have NG:ft (HV hs) (i:Int)=some (.int (k:Int)):=by rw[hU hi,ek]
  obtain⟨dx,tl,ol,ds,hp,_⟩:=N.ob;refine⟨_,rfl,_,rfl,S,_,_,_,rfl,rfl,cx.of hS,kE,?_⟩;refine⟨_,rfl,_,rfl,_,rfl,_,rfl,p,dx,_,rfl,hp,JM _ _ _ _,_,rfl,_,rfl,_,rfl,a,_,_,_,rfl,rfl,cx.of ha,NG,Lp,p,n,ba n g,h,k,rfl,N,f4,hk,fun D H1 s1 hD K1=>?_⟩;have ge:AO n (ba n g) h k=o::l:=by
   unfold AO;rw[Rn h f4,<-f5];unfold dw dH;rw[Cp]
  rw[ge] at K1;refine⟨D,_,_,_,rfl,rfl,aU.of K1,bf (j:=0) rfl,S,G,g,ss b,ls b,h,o,j,rfl,s1 _ _ hS,s1 _ _ hG,by lia,Hd,f7,f8,?_⟩;rw[f6] at q;exact q H1 s1
end
open dD (cS NT mC cy)
theorem _root_.L2.jK.not{lp:Pos}{q:Str}{Pt:Addr}{H:Hp}(t:jK lp q Pt H){b:Addr}{o:HO}(h:H b=some o)(n:∀ps,o≠.m6 ps):b≠Pt:=by
 rintro rfl;rcases t with z|⟨c,z,_⟩ <;> · rw[h] at z;exact n _ (bR z)
theorem _root_.L2.jK.keep{lp:Pos}{q:Str}{Pt:Addr}{H H':Hp}(t:jK lp q Pt H)(e:∀b o,H b=some o->(b=Pt\/∃p,o=.ext p)->H' b=some o):jK lp q Pt H':=by
 rcases t with z|⟨c,z,y⟩
 .exact .inl (e _ _ z (.inl rfl))
 .exact .inr ⟨c,e _ _ z (.inl rfl),e _ _ y (.inr ⟨_,rfl⟩)⟩
theorem s_{S:Addr->Prop}{h0:Heap}{H1 H:Hp}(n:∀a,S a->H1 a=none)(s:aE (iD S h0 H1) H):aE H1 (AK S H):=fun b o e=>by
 have c:¬ S b:=fun z=>by rw[n b z] at e;cases e
 rw[eD c];exact s b o (by rw[bE c];exact e)
theorem Ff{S:Addr->Prop}{h0:Heap}{H H':Hp}(n:∀a,S a->H a=some (ji h0 a))(s:aE (AK S H) H'):aE H (iD S h0 H'):=fun b o e=>by
 by_cases c:S b
 .rw[mN c,<-e,n b c]
 .rw[bE c];exact s b o (by rw[eD c];exact e)
theorem Ii{S:Addr->Prop}{h0:Heap}{H:Hp}{b:Addr}{o:HO}(n:∀a,S a->H a=some (ji h0 a))(e:H b=some o)(x:∀p,o≠.ext p):AK S H b=some o:=by
 rw[eD fun z=>by rw[n b z] at e;exact x _ (bR e).symm];exact e
def SN:Expr:=match (bT SL).getD 0 (.Pass ⟨0,0,0,0⟩) with
 |.Return (some (.Call _ (_::_::_::_::_::k::_) _ _)) _=>k
 |_=>.Name "x" ⟨0,0,0,0⟩
def zA:Arguments:=match SN with
 |.Lambda a _ _ _=>a
 |_=>{ posonlyargs:=[],args:=[],vararg:=none,kwonlyargs:=[],kw_defaults:=[],kwarg:=none,defaults:=[] }
def zB:Expr:=match SN with
 |.Lambda _ b _ _=>b
 |e=>e
def Ms:Scope:=match SN with
 |.Lambda _ _ s _=>s
 |_=>{ kind:=.function,names:=[],isGenerator:=false,isCoroutine:=false }
def Ql:Pos:=match SN with
 |.Lambda _ _ _ p=>p
 |_=>⟨0,0,0,0⟩
def Qm:Str:=("blame":Str)++".<locals>."++"<lambda>"
abbrev jX(Pb:Addr)(H:Hp):Prop:=jK Ql Qm Pb H
abbrev YR:List Str:=["one","at","net","homes","stands","log"]
theorem JO:AM YR 2 Ms Qm zA zB:=by
 refine⟨rfl,by decide +kernel,fun dk pm c uK us hl=>?_,by decide +kernel,fun i x hi hx=>?_,by decide +kernel,rfl,rfl⟩
 .match us,hl with
  |[_,_],_=>rfl
 .match i,hi,hx with
  |2,_,hx=>cases hx;rfl
  |3,_,hx=>cases hx;rfl
  |4,_,hx=>cases hx;rfl
  |5,_,hx=>cases hx;rfl
theorem cS.qX{C p Pb:Addr}{H H':Hp}{L:Addr->Prop}{n:Nat}{ts:Ts}{lp:Pos}{qq:Str}(h:cS C H L p n ts)(nL:¬ L Pb)(t:jK lp qq Pb H)(s:cy Pb H H'):cS C H' L p n ts:=by
 obtain⟨dx',tl,ol,ds,e,_⟩:=h.ob;exact h.keep (fun b o lb e=>s _ _ e (by rintro rfl;exact nL lb)) (fun o e'=>s _ _ e' (t.not e (by intro ps z;cases z)))
theorem cI.qX{Pb SA LA:Addr}{H H':Hp}{bu bv:List Addr}{m L:Nat}{ss ls:Nat->List (Option Nat)}{lp:Pos}{qq:Str}(h:cI H SA LA bu bv m L ss ls)(t:jK lp qq Pb H)(s:cy Pb H H'):cI H' SA LA bu bv m L ss ls:=by
 obtain⟨g1,g2,g3,g4,g5,g6⟩:=h;exact⟨s _ _ g1 (t.not g1 (by intro ps z;cases z)),s _ _ g2 (t.not g2 (by intro ps z;cases z)),g3.mono fun j _ e=>s _ _ e (t.not e (by intro ps z;cases z)),g4.mono fun j _ e=>s _ _ e (t.not e (by intro ps z;cases z)),g5,g6⟩
structure Ca(C:Addr)(H1:Hp)(Lp:Addr->Prop)(p a SA LA f c:Addr)(bu bv:List Addr)(n L:Nat)(g:Nat->List Nat)(hs ns:List Int)(ss ls:Nat->List (Option Nat))(cells:List (Str×Addr))(h0:Heap):Prop where
 nS:∀x,cz cells x->H1 x=none
 le:xb cells h0 (iD (cz cells) h0 H1)
 cn:qW cells h0 "net" (.ref p)
 ch:qW cells h0 "homes" (.ref a)
 cs:qW cells h0 "stands" (.ref SA)
 cl:qW cells h0 "log" (.ref LA)
 net:cS C H1 Lp p n (ba n g)
 rn:sk n g
 gd:gc n g
 hH:H1 a=some (.tup (HV hs))
 lg:cI H1 SA LA bu bv hs.length L ss ls
 ln:gv n g hs L ss ls ns
 B_:hs.length<=16
 zx:L<=60
 hf:H1 f=some (qk f Qm zA zB Ms cells c)
 hc:H1 c=some (oq c Qm)
abbrev V7(K:PySem.W.Frag)(C:Addr):TE:=rY (Ih C) [] E0 (cH (bb 2) (cH (bb 3) (cH (l_ (Bd K) (bb 4) (bb 1)) (cH (l_ (Bd K) (bb 5) (bb 1)) (cH (bb 0) lH)))))
theorem Ca.call{K:PySem.W.Frag}{C:Addr}{H1:Hp}{Lp:Addr->Prop}{p a SA LA f c:Addr}{bu bv:List Addr}{n L:Nat}{g:Nat->List Nat}{hs ns:List Int}{ss ls:Nat->List (Option Nat)}{cells:List (Str×Addr)}{h0:Heap}(X:Ca C H1 Lp p a SA LA f c bu bv n L g hs ns ss ls cells h0){Hc:Hp}{Q:VK}{one b:Nat}(s:aE (iD (cz cells) h0 H1) Hc)(ho:one<hs.length)(hb:b<L)(q:∀H',aE Hc H'->Q (Fe n g hs ss ls b one) H'):E8 2 Ms Qm zA zB YR (V7 K C) f [.int one,.int b] Hc Q:=by
 have inj:aE H1 (iD (cz cells) h0 H1):=fun b o e=>by rw[bE fun z=>by rw[X.nS b z] at e;cases e];exact e
 have nk:∀a,cz cells a->Hc a=some (ji h0 a):=fun a z=>s _ _ (mN z);have su:=s_ X.nS s;obtain⟨g1,g2,g3,g4,g5,g6⟩:=X.lg;refine⟨cells,c,h0,[.ref p,.ref a,.ref SA,.ref LA],s _ _ (inj _ _ X.hf),s _ _ (inj _ _ X.hc),rfl,rfl,X.le.mono (fun a _ e=>s _ _ e),fun i x v h1 h2=>?_,?_⟩
 .match i,h1,h2 with
  |0,h1,h2=>cases h1;cases h2;exact X.cn
  |1,h1,h2=>cases h1;cases h2;exact X.ch
  |2,h1,h2=>cases h1;cases h2;exact X.cs
  |3,h1,h2=>cases h1;cases h2;exact X.cl
 .exact⟨_,rfl,_,rfl,_,rfl,_,rfl,SA,_,_,_,rfl,rfl,aU.of (su _ _ g1),eJ (by rw[g3.1];lia),_,rfl,_,rfl,LA,_,_,_,rfl,rfl,aU.of (su _ _ g2),eJ (by rw[g4.1];exact hb),_,rfl,Lp,p,a,bu.getD b 0,bv.getD b 0,n,L,g,hs,ns,ss,ls,b,one,rfl,X.net.same su,X.rn,X.gd,su _ _ X.hH,su _ _ (g3.2 b (by lia)),su _ _ (g4.2 b hb),X.ln,hb,ho,X.B_,fun H4 s4 n4=>q _ (Ff nk s4)⟩
section
variable {P:Program} {w:World} {K:PySem.W.Frag} {mg:Str->Option Value} {base:Heap}
theorem Cb:aG ["homes","stands","log","letter","beat","instead_of","going","chain","other"] ["homes","stands","log","letter","beat","instead_of"] (am V6):=⟨rfl,rfl,rfl,by decide +kernel,rfl,by decide +kernel,by decide +kernel⟩
def Mt(C:Addr):Sp:=fun vs H Q _=>∃ (H1:Hp) (Lp:Addr->Prop) (p a SA LA f c:Addr) (bu bv:List Addr) (n L:Nat) (g:Nat->List Nat) (hs ns:List Int) (ss ls:Nat->List (Option Nat)) (cells:List (Str×Addr)) (h0:Heap) (i b:Nat),vs=[.ref a,.ref SA,.ref LA,.int i,.int b,.ref f]/\H=iD (cz cells) h0 H1/\
 Ca C H1 Lp p a SA LA f c bu bv n L g hs ns ss ls cells h0/\i<hs.length/\∀v H',aE H H'->E5 H H' v (AF n g hs L ss ls b i)->Q v H'
theorem Qn{f C:Addr}{fd:FuncData}(F:fQ K "chain_along" "chain_along" V6 f fd)(B:Bl mg)(HO:b_ P w K mg base aZ 3 "is_handed_on" ["stands","log","letter","beat"] jT)(GT:b_ P w K mg base aZ 7 "good_tie_taker" ["net","homes","stand","handing","letter"] (Ih C)):
  br P w K mg base aZ 9 f fd ["homes","stands","log","letter","beat","instead_of"] (Mt C):=by
 refine F.ok Cb (fun vs H Q E h=>?_) (fun dL A outer s H vs Q E hr h=>?_)
 .obtain⟨H1,Lp,p,a,SA,LA,f',c,bu,bv,n,L,g,hs,ns,ss,ls,cells,h0,i,b,rfl,_⟩:=h;rfl
 .obtain⟨H1,Lp,p,a,SA,LA,f',c,bu,bv,n,L,g,hs,ns,ss,ls,cells,h0,i,b,rfl,rfl,X,hi,q⟩:=h;have h3:bW 3 _:=hr.mono (by decide);have inj:aE H1 (iD (cz cells) h0 H1):=fun b o e=>by rw[bE fun z=>by rw[X.nS b z] at e;cases e];exact e
  refine⟨_,(ah (bx (dU (dA (aD HO h3 aQ (aa (pv 1) (aa (pv 2) (aa (pv 3) (aa (pv 4) ag))))))) (al (aF ce)) aR)
   (ah (aP (i:=6) Cb.nd rfl (Or.inl rfl) (AN (te:=V7 K C) (i:=5) hr rfl JO (pv 5) (aa (pv 3) (aa (pv 4) ag)) (fun f dk c s H=>aD GT (hr.deeper _) aQ (aa (pv 2) (aa (pv 3) (aa (au az (pv 4) (pv 1) (fun _ _=>rfl)) (aa (au az (pv 5) (pv 1) (fun _ _=>rfl)) (aa (pv 0) ag))))))))
   (ah (bx (aN iQ (pv 6) ce (aM _)) (al (aF ce)) aR)
   (ah (aP (i:=7) Cb.nd rfl (Or.inl rfl) (dX (aa (pv 6) ag)))
   (ah (p9 eM (aN rV (au aV (au az (pv 2) (pv 4) (fun _ _=>rfl)) (pv 6) (fun _ _=>rfl)) (au aV (pv 0) (pv 6) (fun _ _=>rfl)) (aM _)) (ah (CL (i:=4) Cb.nd rfl (Or.inl rfl) aq CM)
    (ah (bx (aN eO (pv 4) (aA aH (by rfl) B.len cG (aa (pv 2) ag)) (aM _)) (al (aF ce)) aR)
    (ah (aP (i:=8) Cb.nd rfl (Or.inl rfl) (AN (te:=V7 K C) (i:=5) hr rfl JO (pv 5) (aa (pv 6) (aa (pv 4) ag)) (fun f dk c s H=>aD GT (hr.deeper _) aQ (aa (pv 2) (aa (pv 3) (aa (au az (pv 4) (pv 1) (fun _ _=>rfl)) (aa (au az (pv 5) (pv 1) (fun _ _=>rfl)) (aa (pv 0) ag))))))))
    (ah (aP (i:=6) Cb.nd rfl (Or.inl rfl) (vE (aN iQ (pv 8) ce (aM _)) (pv 6) (pv 8)))
    (al (cP (iy ij kJ kI dh (pv 7) (aa (pv 6) ag)))))))))
   (al (aF (pv 7)))))))),?_⟩
  have YS:=X.lg.same inj;have LN:=X.ln;have zx:=X.zx;refine⟨_,rfl,_,rfl,_,rfl,_,rfl,SA,LA,bu,bv,hs.length,L,ss,ls,i,b,rfl,YS,_,rfl,?_⟩;refine bL (fun e=>?_) (fun e=>?_)
  .have e':dS hs.length L ss i b=false:=by simpa using e
   have n0:AF n g hs L ss ls b i=none:=by
    unfold AF;refine ap ?_;rintro⟨hb,led⟩;obtain⟨h,o,f1,f2⟩:=sW led;rw[iq hi hb f1] at e';cases e'
   exact q .bH _ (aE.refl _) (by rw[n0];rfl)
  have e':dS hs.length L ss i b=true:=by simpa using e
  obtain⟨i',b',h,ei,eb,_,hb,_⟩:=gI e';obtain rfl:b=b':=dR eb;refine⟨f',rfl,⟨cells,c,inj _ _ X.hf⟩,_,rfl,_,rfl,X.call (aE.refl _) hi hb fun H2 s2=>?_⟩;unfold AF at q;unfold Fe;by_cases led:gK n g hs (ss b) (ls b) i=true
  rotate_left
  .rw[ap led];rw[ap (fun z=>led z.2)] at q;exact⟨_,rfl,rfl,_,rfl,kW (q .bH H2 s2 rfl)⟩
  rw[ao led];rw[ao ⟨hb,led⟩] at q;obtain⟨_,_,_,_,j,_,_,_,_,_,f6,f7,_⟩:=LN.taker X.net.i6 hb led;have jl:j<hs.length:=by have:=(aS f7).1;rw[LN.sl b (dG hb)] at this;exact this
  rw[f6] at q |-;refine⟨_,rfl,rfl,_,rfl,sR ?_⟩;refine⟨_,rfl,by show 1<=sizeLine;decide,fun Z hZ=>?_⟩;have V8:(iD (cz cells) h0 H1) Z=none:=s2.free hZ;refine⟨fun m σ Hc=>∃ (k one:Nat) (zs:List Nat),m=L-(b+k)/\(∃v8,σ=[some (.ref a),some (.ref SA),some (.ref LA),some (.int i),some (.int ((b+k:Nat):Int)),some (.ref f'),some (.int one),some (.ref Z),v8])/\aE (iD (cz cells) h0 H1) Hc/\Hc Z=some (.lst (NV (zs++[one])))/\zs.length=k/\one<hs.length/\b+k<L/\
    wX hs ls (jV n g hs ss ls) (L-b) b j=(wX hs ls (jV n g hs ss ls) (L-(b+k)) (b+k) one).map (zs++·),⟨_,0,j,[],rfl,⟨_,rfl⟩,s2.trans (aj hZ),af,rfl,jl,hb,?_⟩,?_⟩
  .show _=(wX hs ls (jV n g hs ss ls) (L-b) b j).map ([]++·);cases wX hs ls (jV n g hs ss ls) (L-b) b j <;> rfl
  rintro m σ Hc ⟨k,one,zs,rfl,⟨v8,rfl⟩,sc,YT,zl,ol,FN,ch⟩;have V1:=YS.same sc;obtain⟨c1,c2,c3,c4,c5,c6⟩:=V1;have Hd:=LN.r.tie _ FN;have Yv:(ls (b+k)).length=hs.length:=by rw[Hd.len];exact LN.sl _ (dG FN)
  refine⟨_,rfl,_,rfl,LA,_,_,_,rfl,rfl,aU.of c2,eJ (by rw[c4.1];exact FN),_,rfl,bv.getD (b+k) 0,_,_,_,rfl,rfl,cx.of (c4.2 (b+k) FN),dv (by lia),_,rfl,_,rfl,a,_,_,_,rfl,rfl,cx.of (sc _ _ (inj _ _ X.hH)),hU ol,kq,_,rfl,?_⟩;rw[w_];rw[show L-(b+k)=(L-(b+(k+1)))+1 by lia] at ch;cases hm:kZ hs (ls (b+k)) one with
  |true=>
   rw[w5 hm] at ch;rw[ch] at q;exact sR ⟨_,rfl,q _ Hc sc ⟨Z,rfl,V8,YT⟩⟩
  |false=>
   rw[w6 (by rw[hm];decide),w9] at ch;refine kW ⟨_,fun σ' H' z=>z,?_⟩;refine⟨_,rfl,_,_,rfl,rfl,?_⟩;have SI:(((b+k:Nat):Int)+1)=((b+(k+1):Nat):Int):=by lia
   change bC 4 (V.int (((b+k:Nat):Int)+1)) _ _ _;rw[SI];refine⟨_,rfl,_,rfl,LA,_,rfl,.inl (aU.of c2),rfl,_,rfl,?_⟩;rw[aO,c4.1];refine bL (fun e2=>?_) (fun e2=>?_)
   .have e3:b+(k+1)=L:=by have:=V.int.inj (bU e2);lia
    rw[show L-(b+(k+1))=0 by lia] at ch;have e0:wX hs ls (jV n g hs ss ls) (L-b) b j=none:=ch;rw[e0] at q;exact q .bH Hc sc rfl
   .have Ll:b+(k+1)<L:=by
     have:¬ (((b+(k+1):Nat):Int)=(L:Int)):=fun z=>e2 (bJ (by show V.int _=V.int _;rw[z]));lia
    refine⟨f',rfl,⟨cells,c,sc _ _ (inj _ _ X.hf)⟩,_,rfl,_,rfl,X.call sc ol Ll fun H3 s3=>?_⟩;have SO:=s3 _ _ YT;unfold Fe;by_cases Ij:gK n g hs (ss (b+(k+1))) (ls (b+(k+1))) one=true
    .obtain⟨_,_,_,_,j2,_,_,_,_,_,k6,k7,_⟩:=LN.taker X.net.i6 Ll Ij;have jl2:j2<hs.length:=by have:=(aS k7).1;rw[LN.sl _ (dG Ll)] at this;exact this
     rw[ao Ij,k6];rw[show jV n g hs ss ls (b+k+1) one=j2 from k6] at ch;refine⟨_,rfl,rfl,_,rfl,sR ⟨_,rfl,?_⟩⟩;refine⟨_,rfl,.inl ⟨rfl,_,aU.of SO⟩,_,rfl,Z,_,_,rfl,rfl,SO,by rw[aO,cr,zl];exact bV (show k+1<62 by lia) (by decide),?_⟩;exact⟨L-(b+(k+1)),by lia,k+1,j2,zs++[one],rfl,⟨_,rfl⟩,dD.bD (sc.trans s3) V8,by rw[af];exact congrArg (fun z=>some (L2.HO.lst z)) gJ.symm,by rw[cr,zl];rfl,jl2,Ll,ch⟩
    .have k6:jV n g hs ss ls (b+(k+1)) one=one:=by unfold jV;rw[ap Ij]
     rw[ap Ij];rw[show jV n g hs ss ls (b+k+1) one=one from k6] at ch;refine⟨_,rfl,rfl,_,rfl,kW ⟨_,rfl,?_⟩⟩;refine⟨_,rfl,.inl ⟨rfl,_,aU.of SO⟩,_,rfl,Z,_,_,rfl,rfl,SO,by rw[aO,cr,zl];exact bV (show k+1<62 by lia) (by decide),?_⟩;exact⟨L-(b+(k+1)),by lia,k+1,one,zs++[one],rfl,⟨_,rfl⟩,dD.bD (sc.trans s3) V8,by rw[af];exact congrArg (fun z=>some (L2.HO.lst z)) gJ.symm,by rw[cr,zl];rfl,ol,Ll,ch⟩
theorem V9:aG ["net","homes","stands","log","letter","beat"] ["net","homes","stands","log","letter","beat"] (am SL):=⟨rfl,rfl,rfl,by decide +kernel,rfl,by decide +kernel,by decide +kernel⟩
def Ik(C Pb:Addr):Sp:=fun vs H Q _=>∃ (Lp:Addr->Prop) (p a SA LA:Addr) (bu bv:List Addr) (n L:Nat) (g:Nat->List Nat) (hs ns:List Int) (ss ls:Nat->List (Option Nat)) (i b:Nat),vs=[.ref p,.ref a,.ref SA,.ref LA,.int i,.int b]/\cS C H Lp p n (ba n g)/\¬ Lp Pb/\sk n g/\gc n g/\H a=some (.tup (HV hs))/\cI H SA LA bu bv hs.length L ss ls/\gv n g hs L ss ls ns/\hs.length<=16/\L<=60/\i<hs.length/\jX Pb H/\
 ∀v H',jX Pb H'->cy Pb H H'->E5 H H' v (AF n g hs L ss ls b i)->Q v H'
theorem Qo{f c C Pb:Addr}{fd:FuncData}(F:wg K "blame" "blame" SL f fd c)(kb:K.In base)(hb:rD mg base)(hc:PySem.W.codeHdIn K c Pb=true)(CA:b_ P w K mg base aZ 9 "chain_along" ["homes","stands","log","letter","beat","instead_of"] (Mt C)):br P w K mg base aZ 10 f fd ["net","homes","stands","log","letter","beat"] (Ik C Pb):=by
 refine F.ok V9 (fun vs H Q E h=>?_) (fun A outer s H vs Q E hr h=>?_)
 .obtain⟨Lp,p,a,SA,LA,bu,bv,n,L,g,hs,ns,ss,ls,i,b,rfl,_⟩:=h;rfl
 .obtain⟨Lp,p,a,SA,LA,bu,bv,n,L,g,hs,ns,ss,ls,i,b,rfl,N,nL,Rn,G,ha,LG,LN,B_,zx,hi,tb,q⟩:=h;refine⟨_,(al (aF (Ic CA hr rfl rfl (aa (pv 1) (aa (pv 2) (aa (pv 3) (aa (pv 4) (aa (pv 5) (aa (Dq (NB:=["one","at","net","homes","stands","log"]) (src:=[none,none,some 0,some 1,some 2,some 3]) (Ac kb hb hc) (cg (by kernel_rfl))) ag))))))))),?_⟩;refine⟨_,rfl,_,rfl,_,rfl,_,rfl,_,rfl,tb,fun f' c' H2 UO old FT Br nS h0 LE cv=>?_⟩;have t2:jX Pb H2:=UO;refine⟨H2,Lp,p,a,SA,LA,f',c',bu,bv,n,L,g,hs,ns,ss,ls,_,h0,i,b,rfl,rfl,⟨nS,LE,cv 0 "net" _ rfl rfl rfl,cv 1 "homes" _ rfl rfl rfl,cv 2 "stands" _ rfl rfl rfl,cv 3 "log" _ rfl rfl rfl,cS.qX N nL tb old,Rn,G,old _ _ ha (tb.not ha (by intro ps z;cases z)),LG.qX tb old,LN,B_,zx,Br,FT⟩,hi,fun v H' s' tl=>?_⟩;have nk:∀a,cz _ a->H' a=some (ji h0 a):=fun a z=>s' _ _ (mN z);have su:=s_ nS s';refine⟨nk,q v _ (t2.keep fun b o e _=>su _ _ e) (fun b o e n=>su _ _ (old b o e n)) ?_⟩;cases hz:AF n g hs L ss ls b i with
  |none=>rw[hz] at tl;exact tl
  |some zs=>
   rw[hz] at tl;obtain⟨D,rfl,nD,hD⟩:=tl;have V_:H2 D=none:=by
    cases z:H2 D with
    |none=>rfl
    |some o=>
     have:¬ cz _ D:=fun y=>by rw[nS D y] at z;cases z
     rw[bE this,z] at nD;cases nD
   refine⟨D,rfl,?_,Ii nk hD (by intro p z;cases z)⟩;cases z:H D with
   |none=>rfl
   |some o=>
    by_cases hP:D=Pb
    .rcases t2 with y|⟨_,y,_⟩ <;> · rw[<-hP,V_] at y;cases y
    .rw[old D o z hP] at V_;cases V_
end
abbrev Wa:Stmt:=gw 55
structure Ev(C Pb:Addr)(Lp:Addr->Prop)(p O r a SA LA:Addr)(as ds bu bv:List Addr)(n L:Nat)(g:Nat->List Nat)(hs ns:List Int)(ss ls:Nat->List (Option Nat))(H:Hp):Prop where
 net:cS C H Lp p n (ba n g)
 nL:¬ Lp Pb
 rn:sk n g
 gd:gc n g
 rg:∃P,Rg n g P
 of:fm H O as n g
 fr:eV H r ds n g
 ha:H a=some (.tup (HV hs))
 lg:cI H SA LA bu bv hs.length L ss ls
 ln:gv n g hs L ss ls ns
 B_:hs.length<=16
 zx:L<=60
 tb:jX Pb H
theorem Ev.keep{C Pb:Addr}{Lp:Addr->Prop}{p O r a SA LA:Addr}{as ds bu bv:List Addr}{n L:Nat}{g:Nat->List Nat}{hs ns:List Int}{ss ls:Nat->List (Option Nat)}{H H':Hp}(E:Ev C Pb Lp p O r a SA LA as ds bu bv n L g hs ns ss ls H)(s:cy Pb H H')(t:jX Pb H'):Ev C Pb Lp p O r a SA LA as ds bu bv n L g hs ns ss ls H':=by
 have up:∀ {b o},H b=some o->(∀ps,o≠.m6 ps)->H' b=some o:=fun e n=>s _ _ e (E.tb.not e n);refine⟨cS.qX E.net E.nL E.tb s,E.nL,E.rn,E.gd,E.rg,⟨?_,E.of.rows.mono fun j _ e=>up e (by intro ps z;cases z),E.of.inj⟩,⟨?_,fun j hj=>?_⟩,up E.ha (by intro ps z;cases z),E.lg.qX E.tb s,E.ln,E.B_,E.zx,t⟩
 .obtain⟨o,ks,x,y⟩:=E.of.dict;exact⟨o,ks,x,up y (by intro ps z;cases z)⟩
 .obtain⟨ks,x,y⟩:=E.fr.dict;exact⟨ks,x,up y (by intro ps z;cases z)⟩
 .obtain⟨R,x,y⟩:=E.fr.rows j hj;exact⟨R,up x (by intro ps z;cases z),y⟩
theorem pi{Pb:Addr}{H H':Hp}(t:jX Pb H)(s:aE H H'):jX Pb H':=t.keep fun b o e _=>s b o e
theorem Ev.same{C Pb:Addr}{Lp:Addr->Prop}{p O r a SA LA:Addr}{as ds bu bv:List Addr}{n L:Nat}{g:Nat->List Nat}{hs ns:List Int}{ss ls:Nat->List (Option Nat)}{H H':Hp}(E:Ev C Pb Lp p O r a SA LA as ds bu bv n L g hs ns ss ls H)(s:aE H H'):Ev C Pb Lp p O r a SA LA as ds bu bv n L g hs ns ss ls H':=E.keep (cy.of s) (pi E.tb s)
theorem AR{zs:List Nat}(h:zs≠[]):ft (NV zs) (-1)=some (.int ((zs.getD (zs.length-1) 0:Nat):Int)):=by
 have:=vd (zs:=IN zs) (by intro z;exact h (List.map_eq_nil_iff.mp z));rw[zh,aO,ku] at this;exact this
section
variable {P:Program} {w:World} {K:PySem.W.Frag} {mg:Str->Option Value} {base:Heap}
theorem Mu:aG ["_law_net","_law_outs","_law_fars_here","_law_homes","_law_stands","_law_log_here","_law_i","_law_beat","_law_due","_law_told"] ["_law_net","_law_outs","_law_fars_here","_law_homes","_law_stands","_law_log_here","_law_i","_law_beat"] (am Wa):=⟨rfl,rfl,rfl,by decide +kernel,rfl,by decide +kernel,by decide +kernel⟩
def Mv(C Pb:Addr):Sp:=fun vs H Q _=>∃ (Lp:Addr->Prop) (p O r a SA LA:Addr) (as ds bu bv:List Addr) (n L:Nat) (g:Nat->List Nat) (hs ns:List Int) (ss ls:Nat->List (Option Nat)) (i b:Nat),vs=[.ref p,.ref O,.ref r,.ref a,.ref SA,.ref LA,.int i,.int b]/\Ev C Pb Lp p O r a SA LA as ds bu bv n L g hs ns ss ls H/\i<hs.length/\b<L/\
 ∀H',jX Pb H'->cy Pb H H'->Q (.bl true) H'
theorem Qp{f C Pb:Addr}{fd:FuncData}(F:fQ K "_law_told_right" "_law_told_right" Wa f fd)(B:Bl mg)(LB:b_ P w K mg base aZ 2 "_law_blame" ["_law_outs","_law_fars_here","_law_homes","_law_stands","_law_log_here","_law_i","_law_beat"] H_)(BL:b_ P w K mg base aZ 10 "blame" ["net","homes","stands","log","letter","beat"] (Ik C Pb))(IS:b_ P w K mg base aZ 1 "_law_is_list" ["_law_found","_law_due"] Mh)(CH:b_ P w K mg base aZ 5 "is_chain" ["homes","stands","log","letter","beat","thing"] pe)(ST:b_ P w K mg base aZ 6 "is_straight" ["net","homes","stands","log","letter","beat","chain"] (EU C)):
  br P w K mg base aZ 11 f fd ["_law_net","_law_outs","_law_fars_here","_law_homes","_law_stands","_law_log_here","_law_i","_law_beat"] (Mv C Pb):=by
 refine F.ok Mu (fun vs H Q E h=>?_) (fun dL A outer s0 H vs Q E hr h=>?_)
 .obtain⟨Lp,p,O,r,a,SA,LA,as,ds,bu,bv,n,L,g,hs,ns,ss,ls,i,b,rfl,_⟩:=h;rfl
 .obtain⟨Lp,p,O,r,a,SA,LA,as,ds,bu,bv,n,L,g,hs,ns,ss,ls,i,b,rfl,X,hi,hb,q⟩:=h;have h1:bW 1 _:=hr.mono (by decide);have h2:bW 2 _:=hr.mono (by decide);have h5:bW 5 _:=hr.mono (by decide);have h6:bW 6 _:=hr.mono (by decide);have mP:=hr.u (n:=1);refine⟨_,(ah (aP (i:=8) Mu.nd rfl (Or.inl rfl) (aD LB h2 aQ (aa (pv 1) (aa (pv 2) (aa (pv 3) (aa (pv 4) (aa (pv 5) (aa (pv 6) (aa (pv 7) ag)))))))))
   (ah (aP (i:=9) Mu.nd rfl (Or.inl rfl) (aD BL hr aQ (aa (pv 0) (aa (pv 3) (aa (pv 4) (aa (pv 5) (aa (pv 6) (aa (pv 7) ag))))))))
   (ah (bx (aN iQ (pv 8) ce (aM _)) (al (aF (cY iQ (pv 9) ce (aM _)))) aR)
   (ah (bx (PW.pt (n9 (dU (dA (aD IS h1 aQ (aa (pv 9) (aa (pv 8) ag))))) (lG (aN qb (bY mP (bY mP (pv 2) (au aV (pv 3) (au az (pv 8) (n_ jH aq) (fun _ _=>rfl)) (fun _ _=>rfl)) (fun _ _=>rfl)) (au aV (au az (pv 5) (pv 7) (fun _ _=>rfl)) (pv 6) (fun _ _=>rfl)) (fun _ _=>rfl)) (aA aH (by rfl) B.len cG (aa (pv 8) ag)) (aM _))))) (al (aF fO)) aR)
   (ah (bx (aN zO (aA aH (by rfl) B.len cG (aa (pv 9) ag)) (bY mP (bY mP (pv 2) (au aV (pv 3) (au az (pv 8) aq (fun _ _=>rfl)) (fun _ _=>rfl)) (fun _ _=>rfl)) (au aV (au az (pv 4) (pv 7) (fun _ _=>rfl)) (pv 6) (fun _ _=>rfl)) (fun _ _=>rfl)) (aM _)) (al (aF fO)) aR)
   (ah (bx (aN sV (aD CH h5 aQ (aa (pv 3) (aa (pv 4) (aa (pv 5) (aa (pv 6) (aa (pv 7) (aa (pv 8) ag))))))) fO (aM _)) (al (aF fO)) aR)
   (ah (bx (aN sV (aD ST h6 aQ (aa (pv 0) (aa (pv 3) (aa (pv 4) (aa (pv 5) (aa (pv 6) (aa (pv 7) (aa (pv 8) ag)))))))) fO (aM _)) (al (aF fO)) aR)
   (ah (cP (iy ij kJ kI dh (pv 9) (aa (pv 6) ag)))
   (al (aF (cY (HZ (d:=0) hr.u) (aD BL hr aQ (aa (pv 0) (aa (pv 3) (aa (pv 4) (aa (pv 5) (aa (pv 6) (aa (pv 7) ag))))))) (pv 8) (aM _)))))))))))),?_⟩
  refine⟨_,rfl,_,rfl,_,rfl,_,rfl,_,rfl,_,rfl,_,rfl,O,r,a,SA,LA,as,ds,bu,bv,n,L,g,hs,ns,ss,ls,i,b,rfl,X.of,X.fr,X.gd,X.net.i6,X.ha,X.B_,X.lg,X.ln,X.zx,hi,hb,fun v H1 s1 tl=>?_⟩;have X1:=X.same s1;refine⟨_,rfl,_,rfl,_,rfl,_,rfl,_,rfl,_,rfl,Lp,p,a,SA,LA,bu,bv,n,L,g,hs,ns,ss,ls,i,b,rfl,X1.net,X1.nL,X1.rn,X1.gd,X1.ha,X1.lg,X1.ln,X1.B_,X1.zx,hi,X1.tb,fun v2 H2 xp s2 SS=>?_⟩;have X2:=X1.keep s2 xp;have Qq:cy Pb H H2:=(cy.of s1).trans s2;cases hz:AF n g hs L ss ls b i with
  |none=>
   rw[hz] at tl SS;obtain rfl:v=.bH:=tl;obtain rfl:v2=.bH:=SS;refine⟨_,rfl,rfl,_,rfl,?_⟩;refine bL (fun _=>?_) (fun e=>absurd (bJ rfl) e);exact⟨_,rfl,rfl,q H2 xp Qq⟩
  |some zs=>
   rw[hz] at tl SS;obtain⟨Du,rfl,nDu,Qr⟩:=tl;obtain⟨To,rfl,YU,YV⟩:=SS;obtain⟨Pp,R⟩:=X.rg;obtain⟨h,o',e,d,qq,c,_,_,f1,f2,hn,on,en,SU,ed,dl,he,Il,ec,cl,hq,qn,aad,AA⟩:=AG X.ln X.net.i6 R hz;have Qs:H2 Du=some (.lst (NV zs)):=s2 _ _ Qr (X1.tb.not Qr (by intro ps z;cases z));have zl:zs.length<=60:=by
    have:=Il;rw[gL R X.net.i6 on en] at this;have hl:=R.lt e en;have ho:=R.lt o' on;have n2:=X.net.i6.n2;unfold rd vx.fd at this;split at this <;> split at this <;> lia
   refine⟨_,rfl,rfl,_,rfl,?_⟩;refine bL (fun e=>absurd (bU e) (by intro z;cases z)) (fun _=>?_);refine⟨_,rfl,_,rfl,To,Du,zs,rfl,YV,Qs,by lia,fun H3 s3=>⟨_,rfl,?_⟩⟩;refine bL (fun e=>absurd e (by decide)) (fun _=>?_);have X3:=X2.same s3;have Fg:=s3 _ _ Qs;have Qt:=s3 _ _ YV;obtain⟨g1,g2,g3,g4,g5,g6⟩:=X3.lg;have Hd:=X.ln.r.tie b hb;have sl:=X.ln.sl b (dG hb);have ats:ft (SV (ss b)) (i:Int)=some (.int (h:Int)):=by rw[dv (by lia),f1];rfl
   have atl:ft (SV (ls b)) (i:Int)=some (.int (o':Int)):=by rw[dv (by rw[Hd.len];lia),f2];rfl
   have NG:ft (HV hs) ((zs.getD (zs.length-1) 0:Nat):Int)=some (.int (e:Int)):=by rw[ed,hU dl,he]
   have Wb:ft (HV hs) ((zs.getD 0 0:Nat):Int)=some (.int (qq:Int)):=by rw[ec,hU cl,hq]
   have LL:ft (NV zs) 0=some (.int ((zs.getD 0 0:Nat):Int)):=wJ (k:=0) (pK.mpr AA);have rS:ft (bu.map V.ref) (b:Int)=some (.ref (bu.getD b 0)):=eJ (by rw[g3.1];lia);have rL:ft (bv.map V.ref) (b:Int)=some (.ref (bv.getD b 0)):=eJ (by rw[g4.1];exact hb);refine⟨_,rfl,_,rfl,_,rfl,_,rfl,Du,_,_,_,rfl,rfl,aU.of Fg,AR AA,a,_,_,_,rfl,rfl,cx.of X3.ha,NG,r,_,rfl,X3.fr.get en,_,rfl,_,rfl,LA,_,_,_,rfl,rfl,aU.of g2,rL,_,rfl,bv.getD b 0,_,_,_,rfl,rfl,cx.of (g4.2 b hb),atl,_,_,rfl,(X3.fr.rows e en).get on,_,rfl,Du,_,rfl,.inl (aU.of Fg),_,_,rfl,rfl,_,rfl,?_⟩;refine bL (fun z=>absurd (bU z) (by rw[aO];lia)) (fun _=>?_);refine⟨_,rfl,To,_,rfl,.inl (aU.of Qt),_,rfl,_,rfl,_,rfl,Du,_,_,_,rfl,rfl,aU.of Fg,LL,a,_,_,_,rfl,rfl,cx.of X3.ha,Wb,r,_,rfl,X3.fr.get qn,_,rfl,_,rfl,SA,_,_,_,rfl,rfl,aU.of g1,rS,_,rfl,bu.getD b 0,_,_,_,rfl,rfl,cx.of (g3.2 b (by lia)),ats,_,_,rfl,(X3.fr.rows qq qn).get hn,_,_,rfl,rfl,_,rfl,?_⟩;refine bL (fun z=>absurd (bU z) (by rw[aO];lia)) (fun _=>?_);have Qu:H3 Du=some (.lst (HV (IN zs))):=by rw[zh];exact Fg
   refine⟨_,rfl,_,rfl,_,rfl,_,rfl,_,rfl,_,rfl,a,SA,LA,Du,bu,bv,hs.length,L,ss,ls,hs,IN zs,i,b,rfl,X3.ha,rfl,X3.lg,Qu,fun H4 s4=>?_⟩;rw[SU];refine⟨true,true,rfl,rfl,_,rfl,?_⟩;refine bL (fun z=>absurd z (by decide)) (fun _=>?_);have X4:=X3.same s4;refine⟨_,rfl,_,rfl,_,rfl,_,rfl,_,rfl,_,rfl,_,rfl,p,a,SA,LA,Du,bu,bv,hs.length,L,ss,ls,hs,IN zs,ns,i,b,n,g,Lp,rfl,X4.ha,rfl,X4.lg,X.ln.r,s4 _ _ Qu,hi,X4.net,SU,fun bt H5 s5 hbt=>?_⟩;have ebt:bt=true:=by
    rw[hbt d o' e (by rw[aO,ku,ed]) f2 he,aO];exact bJ Il
   subst ebt;refine⟨true,true,rfl,rfl,_,rfl,?_⟩;refine bL (fun z=>absurd z (by decide)) (fun _=>?_);have SW:=s4.trans s5;have X5:=X3.same SW;have Im:=SW _ _ Qt;have Wc:=SW _ _ Fg;have nTD:Du≠To:=fun z=>by rw[z] at Qr;rw[YU] at Qr;cases Qr
   have Wd:H To=none:=s1.free YU;refine⟨_,rfl,.inl ⟨rfl,_,aU.of Im⟩,_,rfl,To,_,_,rfl,rfl,Im,by rw[aO];exact bV (show zs.length<61 by lia) (by decide),?_⟩;have s6:cy Pb H (upd H5 To (.lst (NV zs++[.int (i:Int)]))):=fun x o ex nx=>by
    rw[ak (ai ex Wd)];exact SW _ _ (s3 _ _ (Qq _ _ ex nx))
   have YW:jX Pb (upd H5 To (.lst (NV zs++[.int (i:Int)]))):=by
    have t5:=X5.tb;refine t5.keep fun x o ex cs=>?_;have:x≠To:=by
     rintro rfl;rw[Im] at ex;rcases cs with cs|⟨_,cs⟩
     .exact(t5.not Im (by intro ps z;cases z)) cs
     .rw[cs] at ex;cases ex
    rw[ak this];exact ex
   have Qv:(upd H5 To (.lst (NV zs++[.int (i:Int)]))) Du=some (.lst (NV zs)):=by rw[ak nTD];exact Wc
   generalize upd H5 To (.lst (NV zs++[.int (i:Int)]))=H6 at *;have X6:=X.keep s6 YW;refine⟨_,rfl,_,rfl,_,rfl,_,rfl,_,rfl,_,rfl,Lp,p,a,SA,LA,bu,bv,n,L,g,hs,ns,ss,ls,i,b,rfl,X6.net,X6.nL,X6.rn,X6.gd,X6.ha,X6.lg,X6.ln,X6.B_,X6.zx,hi,X6.tb,fun v3 H7 tb7 s7 YX=>?_⟩;rw[hz] at YX;obtain⟨D3,rfl,nD3,kD⟩:=YX;have We:=s7 _ _ Qv (YW.not Qv (by intro ps z;cases z));exact⟨_,rfl,D3,Du,_,_,rfl,rfl,aU.of kD,aU.of We,rfl,E4,q H7 tb7 (s6.trans s7)⟩
end
end vx
namespace L2
open PySem PySem.Spec PyProof.Rows
theorem Cc{X:Cx}(hc:X.calm=true):eN X (.type "set") (fun xs H Q=>∃ (l:Addr) (ns:List Int),xs=[.ref l]/\aU X.K H l (ns.map V.int)/\ns.length<=100/\∀D S,H D=none->Q (.ref D) (upd H D (.set S (firstMet (fun i=>ns.getD i 0) ns.length).length))):=by
 intro ae s σ H xs us Q I r h;obtain⟨l,ns,rfl,hl,Us,q⟩:=h;obtain⟨u1,rfl,r1⟩:=r.one;obtain rfl:u1=Value.ref l:=r1;obtain⟨its,rv,pl,_⟩:=I.list hl;have ia:=yA rv;have il:its.length=ns.length:=ia.length;refine call_set_list (I.ok.hd hc) pl.isList (by simpa using ia) (by rw[cu,il];exact gg (show ns.length+1<=101 by lia) (by decide)) fun h' tk S' k=>?_;have e2:its.toArray.size=ns.length:=by rw[cu,il]
 rw[e2] at S';exact⟨.ref s.heap.objs.size,_,I.vW (t':=tk) (o:=.set _ _) (fun b u e=>k b u (aY e) e) (k_ (aL _)) S',rfl,q _ _ I.fresh⟩
theorem Cd{X:Cx}:eN X (.builtin "len") (fun xs H Q=>∃D S n,xs=[.ref D]/\H D=some (.set S n)/\n<=4000/\Q (.int n) H):=by
 intro ae s σ H xs us Q I r h;obtain⟨D,S,n,rfl,e,hn,q⟩:=h;obtain⟨u1,rfl,r1⟩:=r.one;obtain rfl:u1=Value.ref D:=r1;obtain⟨o,es,ep,t,q1,YQ,hd,_,_,_,hf,hz⟩:=(show s.heap.SetOf (intKind X.prog X.w) D S n from I.bA D _ e)
 exact call_len_set q1 YQ hd hf (by rw[hz];lia) ⟨.int n,H,I.tok _,⟨_,by rw[hz]⟩,q⟩
theorem AS{val:Nat->Int}:∀ {m:Nat},((List.range m).map val).Nodup->(firstMet val m).length=m
 |0,_=>rfl
 |m+1,h=>by
  rw[jx,cD] at h;obtain⟨n1,n2,n3⟩:=jr.mp h;rw[firstMet_succ];unfold step_dedup;by_cases c:(firstMet val m).any (·==val m)=true
  .rw[firstMet_any] at c;obtain⟨x,hx,e⟩:=List.any_eq_true.mp c;exact absurd (eq_of_beq e) (n3 x hx (val m) (by simp))
  .rw[ap c,cr,pH,AS n1]
end L2
namespace vx
open PySem L2 rF
open dD (cS NT mC cy)
abbrev Wf:Stmt:=gw 56
theorem Fh{es:List Nat}(nd:es.Nodup):(PyProof.Rows.firstMet (fun i=>(IN es).getD i 0) (IN es).length).length=es.length:=by
 rw[L2.AS,aO];have e:(List.range (IN es).length).map (fun i=>(IN es).getD i 0)=IN es:=by
  refine List.ext_getElem (by rw[aO,fK]) fun i h1 h2=>?_;rw[xY,List.getElem_range,bO,cm h2];rfl
 rw[e];exact ip.mpr (nd.imp fun {a b} h z=>h (dR z))
section
variable {P:Program} {w:World} {K:PySem.W.Frag} {mg:Str->Option Value} {base:Heap}
theorem Io:aG ["_law_net","_law_outs","_law_fars_here","_law_homes","_law_stands","_law_log_here","_law_i","_law_ends","_law_beat","_law_chain"] ["_law_net","_law_outs","_law_fars_here","_law_homes","_law_stands","_law_log_here","_law_i"] (am Wf):=⟨rfl,rfl,rfl,by decide +kernel,rfl,by decide +kernel,by decide +kernel⟩
def Mw(C Pb:Addr):Sp:=fun vs H Q _=>∃ (Lp:Addr->Prop) (p O r a SA LA:Addr) (as ds bu bv:List Addr) (n L:Nat) (g:Nat->List Nat) (hs ns:List Int) (ss ls:Nat->List (Option Nat)) (i:Nat),vs=[.ref p,.ref O,.ref r,.ref a,.ref SA,.ref LA,.int i]/\Ev C Pb Lp p O r a SA LA as ds bu bv n L g hs ns ss ls H/\i<hs.length/\
 ∀H',jX Pb H'->cy Pb H H'->Q (.bl true) H'
theorem Qw{f C Pb:Addr}{fd:FuncData}(F:fQ K "_law_letter_right" "_law_letter_right" Wf f fd)(B:Bl mg)(Gp:mg "set"=none)(TD:b_ P w K mg base aZ 11 "_law_told_right" ["_law_net","_law_outs","_law_fars_here","_law_homes","_law_stands","_law_log_here","_law_i","_law_beat"] (Mv C Pb))(LB:b_ P w K mg base aZ 2 "_law_blame" ["_law_outs","_law_fars_here","_law_homes","_law_stands","_law_log_here","_law_i","_law_beat"] H_)(BL:b_ P w K mg base aZ 10 "blame" ["net","homes","stands","log","letter","beat"] (Ik C Pb)):
  br P w K mg base aZ 12 f fd ["_law_net","_law_outs","_law_fars_here","_law_homes","_law_stands","_law_log_here","_law_i"] (Mw C Pb):=by
 refine F.ok Io (fun vs H Q E h=>?_) (fun dL A outer s0 H vs Q E hr h=>?_)
 .obtain⟨Lp,p,O,r,a,SA,LA,as,ds,bu,bv,n,L,g,hs,ns,ss,ls,i,rfl,_⟩:=h;rfl
 .obtain⟨Lp,p,O,r,a,SA,LA,as,ds,bu,bv,n,L,g,hs,ns,ss,ls,i,rfl,X,hi,q⟩:=h;have h2:bW 2 _:=hr.mono (by decide);have h10:bW 10 _:=hr.mono (by decide);refine⟨_,(ah (aP (i:=7) Io.nd rfl (Or.inl rfl) (dX ag))
   (ah (dM eM rfl (d_ rfl B.range (aa (aA aH (by rfl) B.len cG (aa (pv 5) ag)) ag)) (aB (i:=8) Io.nd rfl (Or.inl rfl))
    (ah (bx (dU (dA (aD TD hr aQ (aa (pv 0) (aa (pv 1) (aa (pv 2) (aa (pv 3) (aa (pv 4) (aa (pv 5) (aa (pv 6) (aa (pv 8) ag))))))))))) (al (aF fO)) aR)
    (ah (aP (i:=9) Io.nd rfl (Or.inl rfl) (aD LB h2 aQ (aa (pv 1) (aa (pv 2) (aa (pv 3) (aa (pv 4) (aa (pv 5) (aa (pv 6) (aa (pv 8) ag)))))))))
    (al (bx (aN uq (pv 9) ce (aM _)) (al (cP (iy ij kJ kI dh (pv 7) (aa (au az (pv 9) (n_ jH aq) (fun _ _=>rfl)) ag)))) aR)))))
   (al (aF (fc (cY eO (aA Cd (by rfl) B.len cG (aa (dg (Cc rfl) (by rfl) Gp PyProof.Rows.boot_set (aa (pv 7) ag)) ag)) (aA aH (by rfl) B.len cG (aa (pv 7) ag)) (aM _)) (fc (cY uz (pv 6) (pv 7) rfl) (fX (cY iQ (aD BL h10 aQ (aa (pv 0) (aa (pv 3) (aa (pv 4) (aa (pv 5) (aa (pv 6) (aa (aA aH (by rfl) B.len cG (aa (pv 5) ag)) ag))))))) ce (aM _))))))))),?_⟩
  refine⟨by show 0<=sizeLine;decide,fun En YY=>?_⟩;have Wg:=aj (o:=.lst []) YY;obtain⟨g1,g2,g3,g4,g5,g6⟩:=X.lg;have LJ:(((bv.map V.ref).length:Nat):Int)=(L:Int):=by rw[aO,g4.1]
  have zx:=X.zx;have LN:=X.ln;have Fi:=X.net.i6;have nEP:∀ {Hc:Hp} {xs:List V},jX Pb Hc->Hc En=some (.lst xs)->En≠Pb:=fun t e=>t.not e (by intro ps z;cases z);refine⟨_,rfl,LA,_,rfl,.inl (aU.of (Wg _ _ g2)),L,by rw[LJ],by lia,by lia,?_⟩;refine eW (n:=L) (lo:=0) (fun b σ Hc=>(∃v8 v9,σ=[some (.ref p),some (.ref O),some (.ref r),some (.ref a),some (.ref SA),some (.ref LA),some (.int i),some (.ref En),v8,v9])/\cy Pb H Hc/\jX Pb Hc/\∃es:List Nat,Hc En=some (.lst (NV es))/\es.length<=b/\es.Nodup/\∀d∈es,d≠i/\∃c M o h0,c<b/\Nt n g hs hs.length L ss ls i c M d o h0/\∀e:Nat,hs.getD d 0=(e:Int)->M<=far (ba n g) o e)
   ⟨⟨_,_,rfl⟩,cy.of Wg,pi X.tb Wg,[],af,aL _,jf,fun d hd=>nomatch hd⟩ ?_ ?_
  .rintro b σ Hc hb ⟨⟨v8,v9,rfl⟩,sc,tb,es,hE,esl,nd,SX⟩;rw[lx];have Xc:=X.keep sc tb;refine⟨_,rfl,_,rfl,_,rfl,_,rfl,_,rfl,_,rfl,_,rfl,_,rfl,Lp,p,O,r,a,SA,LA,as,ds,bu,bv,n,L,g,hs,ns,ss,ls,i,b,rfl,Xc,hi,hb,fun H1 Hk s1=>⟨_,rfl,lJ ?_⟩⟩;have X1:=Xc.keep s1 Hk;have HW:=s1 _ _ hE (nEP tb hE);refine⟨_,rfl,_,rfl,_,rfl,_,rfl,_,rfl,_,rfl,_,rfl,O,r,a,SA,LA,as,ds,bu,bv,n,L,g,hs,ns,ss,ls,i,b,rfl,X1.of,X1.fr,X1.gd,Fi,X1.ha,X1.B_,X1.lg,LN,zx,hi,hb,fun v H2 s2 tl=>?_⟩;have Qq:cy Pb H H2:=(sc.trans s1).trans (cy.of s2);have xp:=pi Hk s2;have Qx:=s2 _ _ HW;have old:∀d∈es,d≠i/\∃c M o h0,c<b+1/\Nt n g hs hs.length L ss ls i c M d o h0/\∀e:Nat,hs.getD d 0=(e:Int)->M<=far (ba n g) o e:=fun d hd=>
    let ⟨x,c,M,o,h0,y,z⟩:=SX d hd
    ⟨x,c,M,o,h0,by lia,z⟩
   refine⟨_,rfl,rfl,_,rfl,?_⟩;cases hz:AF n g hs L ss ls b i with
   |none=>
    rw[hz] at tl;obtain rfl:v=.bH:=tl;refine bL (fun e=>absurd e (by rw[bJ rfl];decide)) (fun _=>?_);exact⟨⟨_,_,rfl⟩,Qq,xp,es,Qx,by lia,nd,old⟩
   |some zs=>
    rw[hz] at tl;obtain⟨Dz,rfl,nDz,hDz⟩:=tl;obtain⟨Pp,R⟩:=X.rg;obtain⟨h,o',e,d,qq,c,_,_,f1,f2,hn,on,en,SU,ed,dl,he,Il,_,_,_,_,_,AA⟩:=AG LN Fi R hz;obtain⟨d',o,h0,zd,aae,Ch⟩:=zm LN.r SU;rw[aO] at Ch;obtain rfl:d=d':=by rw[aO,ku,ed] at zd;exact dR zd
    obtain rfl:o'=o:=by have:=Ch.o0;rw[f2] at this;exact bR this
    have di:d≠i:=fun z=>by
     subst z;obtain⟨e',w1,w2,w3⟩:=EM LN.r Fi Ch;obtain rfl:e=e':=by rw[he] at w1;exact(dR w1).symm
     lia
    have de:d∉es:=fun z=>by
     obtain⟨_,c',M',o2,h02,w0,C',str⟩:=SX d z;obtain⟨e',w1,w2,w3⟩:=HF LN.r Fi C' Ch w0;have:=str e' w1.symm;lia
    refine bL (fun _=>?_) (fun e=>absurd (by rw[cE (by intro z;cases z)];rfl) e);refine⟨_,rfl,.inl ⟨rfl,_,aU.of Qx⟩,_,rfl,_,rfl,Dz,_,_,_,rfl,rfl,aU.of hDz,AR AA,En,_,_,rfl,rfl,Qx,by rw[aO];exact bV (show es.length<61 by lia) (by decide),?_⟩;rw[ed];refine⟨⟨_,_,rfl⟩,fun x o ex nx=>?_,?_,es++[d],by rw[af];exact congrArg (fun z=>some (HO.lst z)) gJ.symm,by rw[cr,pH];lia,jr.mpr ⟨nd,dQ.mpr ⟨(fun z=>nomatch z),jf⟩,fun u hu v hv z=>de (by rw[bS] at hv;rw[<-hv,<-z];exact hu)⟩,fun x hx=>?_⟩
    .rw[ak (ai ex YY)];exact Qq _ _ ex nx
    .refine xp.keep fun x o ex cs=>?_;have:x≠En:=by
      rintro rfl;rw[Qx] at ex;rcases cs with cs|⟨_,cs⟩
      .exact(xp.not Qx (by intro ps z;cases z)) cs
      .rw[cs] at ex;cases ex
     rw[ak this];exact ex
    .rcases bp.mp hx with m|m
     .exact old x m
     .rw[bS.mp m];refine⟨di,b,zs.length,o',h0,by lia,Ch,fun e' YZ=>?_⟩;obtain rfl:e=e':=by rw[he] at YZ;exact dR YZ
      exact Il
  .rintro σ Hc ⟨⟨v8,v9,rfl⟩,sc,tb,es,hE,esl,nd,SX⟩;have hEI:Hc En=some (.lst ((IN es).map V.int)):=by
    have e:=zh (js:=es);unfold HV at e;rw[e];exact hE
   refine⟨_,rfl,En,IN es,rfl,aU.of hEI,by rw[aO];lia,fun D S hD=>⟨D,_,_,rfl,af,?_,?_⟩⟩
   .rw[Fh nd];lia
   rw[Fh nd];have sD:=aj (o:=.set S es.length) hD;have HW:=sD _ _ hE;have Hk:=pi tb sD;have X1:=X.keep (sc.trans (cy.of sD)) Hk;generalize upd Hc D (.set S es.length)=H1 at *;refine⟨_,rfl,En,_,rfl,.inl (aU.of HW),rfl,_,rfl,?_⟩;refine bL (fun _=>?_) (fun e=>absurd (bJ (by rw[aO])) e);have nin:C6 (.int (i:Int)) (NV es)=false:=by
    rw[o_];exact cE fun z=>(SX i z).1 rfl
   refine⟨_,rfl,_,rfl,En,NV es,rfl,.inl (aU.of HW),rfl,qO,_,rfl,?_⟩;rw[ao rfl,nin];refine bL (fun _=>?_) (fun e=>absurd rfl e);obtain⟨c1,c2,_⟩:=X1.lg;refine⟨_,rfl,_,rfl,_,rfl,_,rfl,_,rfl,_,rfl,LA,_,rfl,.inl (aU.of c2),Lp,p,a,SA,LA,bu,bv,n,L,g,hs,ns,ss,ls,i,L,by rw[LJ];rfl,X1.net,X1.nL,X1.rn,X1.gd,X1.ha,X1.lg,LN,X1.B_,zx,hi,Hk,fun v H2 xp s2 tl=>?_⟩;have e0:AF n g hs L ss ls L i=none:=by unfold AF;exact ap fun z=>absurd z.1 (jg _)
   rw[e0] at tl;obtain rfl:v=.bH:=tl;exact⟨rfl,q H2 xp ((sc.trans (cy.of sD)).trans s2)⟩
end
open dD (cS NT o9 u6 fk zr zp PO Zs cy kT)
abbrev zC:Stmt:=gw 57
section
variable {P:Program} {w:World} {K:PySem.W.Frag} {mg:Str->Option Value} {base:Heap}
def JP(K:PySem.W.Frag)(H:Hp)(a:Addr)(xs:List V):Prop:=(∃o,H a=some (.iF o (.lst xs)))\/(∀H':Hp,aU K H' a xs)
theorem JP.seq{H:Hp}{a:Addr}{xs:List V}(h:JP K H a xs):aU K H a xs:=by
 rcases h with ⟨o,h⟩|h
 .exact .inl (.inr ⟨o,h⟩)
 .exact h H
theorem JP.mono{H H':Hp}{a:Addr}{xs:List V}(h:JP K H a xs)(e:∀o u,H a=some (.iF o (.lst u))->H' a=some (.iF o (.lst u))):JP K H' a xs:=by
 rcases h with ⟨o,h⟩|h
 .exact .inl ⟨o,e _ _ h⟩
 .exact .inr h
def LD(H:Hp)(q:Addr):Prop:=(∃xs,H q=some (.lst xs))\/∃k,H q=some (.dK k)
theorem LD.ne{H:Hp}{q b:Addr}{o:HO}(h:LD H q)(e:H b=some o)(h1:∀xs,o≠.lst xs)(h2:∀k,o≠.dK k):b≠q:=by
 rintro rfl;rcases h with ⟨xs,z⟩|⟨k,z⟩
 .rw[e] at z;exact h1 _ (bR z)
 .rw[e] at z;exact h2 _ (bR z)
structure Kp(K:PySem.W.Frag)(Pt Pb a:Addr)(xs:List V)(H:Hp):Prop where
 s:JP K H a xs
 t:o9 Pt H
 b:jX Pb H
theorem Kp.of{Pt Pb a:Addr}{xs:List V}{H H':Hp}(k:Kp K Pt Pb a xs H)(f:∀o u,H a=some (.iF o (.lst u))->H' a=some (.iF o (.lst u)))(up:∀b o,H b=some o->(b=Pt\/b=Pb\/∃p,o=.ext p)->H' b=some o):Kp K Pt Pb a xs H':=
 ⟨k.s.mono f,k.t.keep fun b o e z=>up b o e (z.elim .inl fun y=>.inr (.inr y)),k.b.keep fun b o e z=>up b o e (z.elim (fun y=>.inr (.inl y)) fun y=>.inr (.inr y))⟩
theorem Kp.m6{Pt Pb a:Addr}{xs:List V}{H:Hp}(k:Kp K Pt Pb a xs H){b:Addr}{o:HO}(e:H b=some o)(z:b=Pt\/b=Pb\/∃p,o=.ext p):(∀xs,o≠.lst xs)/\∀k,o≠.dK k:=by
 rcases z with rfl|rfl|⟨p,rfl⟩
 .rcases k.t with y|⟨c,y,_⟩ <;> (rw[e] at y;cases y;exact⟨fun _ z=>(by cases z),fun _ z=>(by cases z)⟩)
 .rcases k.b with y|⟨c,y,_⟩ <;> (rw[e] at y;cases y;exact⟨fun _ z=>(by cases z),fun _ z=>(by cases z)⟩)
 .exact⟨fun _ z=>(by cases z),fun _ z=>(by cases z)⟩
theorem Kp.gm{Pt Pb a q:Addr}{xs:List V}{H H':Hp}(k:Kp K Pt Pb a xs H)(s:a_ q H H')(hq:LD H q):Kp K Pt Pb a xs H':=
 k.of (fun o u z=>s _ _ z (hq.ne z (by intro x y;cases y) (by intro x y;cases y))) fun b o e z=>s _ _ e (hq.ne e (k.m6 e z).1 (k.m6 e z).2)
theorem Kp.same{Pt Pb a:Addr}{xs:List V}{H H':Hp}(k:Kp K Pt Pb a xs H)(s:aE H H'):Kp K Pt Pb a xs H':=k.of (fun o u z=>s _ _ z) fun b o e _=>s _ _ e
theorem Kp.qX{Pt Pb a:Addr}{xs:List V}{H H':Hp}(k:Kp K Pt Pb a xs H)(NH:Pt≠Pb)(s:cy Pb H H')(t:jX Pb H'):Kp K Pt Pb a xs H':=by
 refine⟨k.s.mono fun o u z=>s _ _ z (k.b.not z (by intro ps z;cases z)),k.t.keep fun b o e z=>s _ _ e ?_,t⟩;rcases z with rfl|⟨p,rfl⟩
 .exact NH
 .exact k.b.not e (by intro ps z;cases z)
theorem bj.ld{H:Hp}{p:Addr}(h:bj H p):LD H p:=let ⟨a,b,e,_⟩:=h;.inl ⟨_,e⟩
theorem iE:aG ["_law_script","_law_k","_law_pot_here","_law_outs","_law_fars_here","_law_homes","_law_stand","_law_stands","_law_log_here","_law_net","_law_i"] ["_law_script"] (am zC):=⟨rfl,rfl,rfl,by decide +kernel,rfl,by decide +kernel,by decide +kernel⟩
def AT(K:PySem.W.Frag)(Pt Pb:Addr):Sp:=fun vs H Q _=>∃ (a:Addr) (ns:List Int),vs=[.ref a]/\JP K H a (ns.map V.int)/\ns.length<=63/\o9 Pt H/\jX Pb H/\∀H',Q (.bl true) H'
theorem Mx{f C Pt Pb fI:Addr}{fd Y0:FuncData}(F:fQ K "law" "law" zC f fd)(NH:Pt≠Pb)(B:Bl mg)(T:NT K mg C)(PO':b_ P w K mg base aZ 1 "_law_pot" ["_law_script","_law_k"] (Ef K))(TK:b_ P w K mg base aZ 1 "_law_take" ["_law_pot_here","_law_many"] lT)(RG:b_ P w K mg base aZ 3 "_law_ring" ["_law_pot_here","_law_many"] L4)(GR:b_ P w K mg base aZ 1 "_law_going_round" ["_law_outs"] Lx)(FA:b_ P w K mg base aZ 2 "_law_fars" ["_law_outs"] zn)(LE:b_ P w K mg base aZ 2 "_law_letters" ["_law_pot_here","_law_outs","_law_most"] Ep)(LO:b_ P w K mg base aZ 3 "_law_log" ["_law_outs","_law_fars_here","_law_homes","_law_stand"] zy)(CU:b_ P w K mg base aZ 2 "_law_cut" ["_law_pot_here","_law_stands","_law_log_here"] Mg)(TI:b_ P w K mg base aZ 1 "_law_ties" ["_law_outs"] vg)(M:Mk K C fI)(bI:jI K Y0 ["self","many","ties"] [])(GI:br P w K mg base aZ 7 fI Y0 ["self","many","ties"] (u6 C Pt))(LR:b_ P w K mg base aZ 12 "_law_letter_right" ["_law_net","_law_outs","_law_fars_here","_law_homes","_law_stands","_law_log_here","_law_i"] (Mw C Pb)):
  br P w K mg base aZ 13 f fd ["_law_script"] (AT K Pt Pb):=by
 refine F.ok iE (fun vs H Q E h=>?_) (fun dL A outer s0 H vs Q E hr h=>?_)
 .obtain⟨a,ns,rfl,_⟩:=h;rfl
 .obtain⟨a,ns,rfl,hS,KO,tb,tbb,q⟩:=h;have h1:bW 1 _:=hr.mono (by decide);have h2:bW 2 _:=hr.mono (by decide);have h3:bW 3 _:=hr.mono (by decide);have h8:bW 8 _:=hr.mono (by decide);refine⟨_,ah (dM eM rfl (d_ rfl B.range (aa (aA (rW rfl) (by rfl) B.max PyProof.Rows.boot_max (aa aq (aa (aA (A8 rfl) (by rfl) B.min PyProof.Rows.boot_min (aa (aA aH (by rfl) B.len cG (aa (pv 0) ag)) (aa aq ag))) ag))) ag)) (aB (i:=1) iE.nd rfl (Or.inl rfl))
    (ah (aP (i:=2) iE.nd rfl (Or.inl rfl) (aD PO' h1 aQ (aa (pv 0) (aa (pv 1) ag))))
    (ah (aP (i:=3) iE.nd rfl (Or.inl rfl) (aD GR h1 aQ (aa (aD RG h3 aQ (aa (pv 2) (aa (bo dB aq (aD TK h1 aQ (aa (pv 2) (aa aq ag)))) ag))) ag)))
    (ah (aP (i:=4) iE.nd rfl (Or.inl rfl) (aD FA h2 aQ (aa (pv 3) ag)))
    (ah (iO (aD LE h2 aQ (aa (pv 2) (aa (pv 3) (aa aq ag)))) (fA (n:=2) rfl (a9 (aB (i:=5) iE.nd rfl (Or.inl rfl)) (a9 (aB (i:=6) iE.nd rfl (Or.inl rfl)) d9))))
    (ah (iO (aD LO h3 aQ (aa (pv 3) (aa (pv 4) (aa (pv 5) (aa (pv 6) ag))))) (fA (n:=2) rfl (a9 (aB (i:=7) iE.nd rfl (Or.inl rfl)) (a9 (aB (i:=8) iE.nd rfl (Or.inl rfl)) d9))))
    (ah (iO (aD CU h2 aQ (aa (pv 2) (aa (pv 7) (aa (pv 8) ag)))) (fA (n:=2) rfl (a9 (aB (i:=7) iE.nd rfl (Or.inl rfl)) (a9 (aB (i:=8) iE.nd rfl (Or.inl rfl)) d9))))
    (ah (aP (i:=9) iE.nd rfl (Or.inl rfl) (F5 M GI h8 rfl T.mgC bI .nil aQ (aa (aA sQ (by rfl) B.len cG (aa (pv 3) ag)) (aa (aD TI h1 aQ (aa (pv 3) ag)) ag))))
    (al (dM eM rfl (d_ rfl B.range (aa (aA aH (by rfl) B.len cG (aa (pv 5) ag)) ag)) (aB (i:=10) iE.nd rfl (Or.inl rfl))
     (al (bx (dU (dA (aD LR hr aQ (aa (pv 9) (aa (pv 3) (aa (pv 4) (aa (pv 5) (aa (pv 7) (aa (pv 8) (aa (pv 10) ag)))))))))) dJ aR))))))))))))
   (al (aF fO)),?_⟩
  refine⟨_,rfl,a,_,rfl,.inl hS.seq,_,_,rfl,_,_,rfl,_,rfl,?_,?_,?_⟩
  .split <;> split <;> lia
  .split <;> split <;> lia
  have Wi:(if (if (3:Int)<(((ns.map V.int).length:Nat):Int) then 3 else (((ns.map V.int).length:Nat):Int)) > 1 then (if (3:Int)<(((ns.map V.int).length:Nat):Int) then 3 else (((ns.map V.int).length:Nat):Int)) else 1).toNat<=3:=by split <;> split <;> lia
  refine eW (lo:=0) (fun k σ Hc=>(∃v1 v2 v3 v4 v5 v6 v7 v8 v9 FI,σ=[some (.ref a),v1,v2,v3,v4,v5,v6,v7,v8,v9,FI])/\Kp K Pt Pb a (ns.map V.int) Hc) ⟨⟨_,_,_,_,_,_,_,_,_,_,rfl⟩,hS,tb,tbb⟩ ?_ ?_
  .rintro k σ Hc hk ⟨⟨v1,v2,v3,v4,v5,v6,v7,v8,v9,FI,rfl⟩,kp⟩;have k3:k<3:=bV hk Wi;rw[lx];refine⟨_,rfl,_,rfl,a,ns,k,rfl,kp.s.seq,by lia,fun p H1 sm1 XX ND=>?_⟩;have kp1:=kp.same sm1;refine⟨_,rfl,_,rfl,p,30,rfl,by decide,by decide,ND,fun d ya yb d0 d1 a0 b0 b1=>⟨_,_,rfl,rfl,?_⟩⟩;have My:bj (upd H1 p (.lst [.int ya,.int yb])) p:=bj.upd a0 b0 b1;have Wj:Kp K Pt Pb a (ns.map V.int) (upd H1 p (.lst [.int ya,.int yb])):=kp1.gm a_.upd ND.ld;generalize upd H1 p (.lst [.int ya,.int yb])=H1' at *;obtain⟨n,hn⟩:∃n:Nat,(n:Int)=3+d:=⟨(3+d).toNat,by lia⟩
   refine⟨p,n,by rw[hn];rfl,My,by lia,by lia,fun O as g H2 NN rg0 Es wN=>?_⟩;have kp2:=Wj.gm Es My.ld;obtain⟨G,n2,FG,hO,hO1,aaf,gC⟩:=NN;refine⟨O,as,n,g,rfl,G,gC,n2,FG,hO,fun O' mQ g' H3 NN3 eg Ss LM=>?_⟩;obtain⟨ks0,_,hd0⟩:=hO.dict;have kp3:=kp2.gm Ss (.inr ⟨_,hd0⟩);obtain⟨G',_,_,Y1,aag,Wk,gC'⟩:=NN3;have npO:p≠O:=by rintro rfl;exact My.some hO1
   have Jz:bj H3 p:=by obtain⟨u,v,e,z⟩:=wN;exact⟨u,v,Ss _ _ e npO,z⟩
   have Er:U8 mQ n p:=fun h hh z=>by
    have:=Wk h hh;rw[<-z] at this;exact wN.some this
   have Fi:=HC G' gC' n2 FG;have Rn:sk n g':=by rw[eg];exact Mo G
   have RGx:∃P,Rg n g' P:=by obtain⟨P0,R0⟩:=rg0;rw[eg];exact⟨P0,R0.gr G⟩
   refine⟨_,rfl,O',mQ,n,g',rfl,Y1,Fi,fun r ds H4 FR4 Y2 Nx Sb=>?_⟩;obtain⟨ks1,_,Ps⟩:=Y1.dict;have kp4:=kp3.gm Nx (.inr ⟨_,Ps⟩);have Wl:p≠O':=by rintro rfl;obtain⟨u,v,e,_⟩:=Jz;rw[e] at Ps;cases Ps
   have FK:bj H4 p:=by obtain⟨u,v,e,z⟩:=Jz;exact⟨u,v,Nx _ _ e Wl,z⟩
   refine⟨_,rfl,_,rfl,p,O',mQ,n,g',rfl,FK,Y2,Er,n2,FG,fun t a4 b4 hs s H5 ht ha hb hl LI R BH P1 SY=>?_⟩;have kp5:=kp4.gm P1 FK.ld;have Y3:=Y2.gm P1 FK Er;have FL:=FR4.gm P1 FK;refine⟨t,_,rfl,cx.of ht,rfl,_,_,rfl,_,_,rfl,rfl,?_⟩;refine⟨_,rfl,_,rfl,_,rfl,_,rfl,O',r,a4,b4,mQ,ds,n,g',hs,s,rfl,Y3,FL,G',ha,hb,hl.symm,LI,R,BH,fun t5 Y4 Y5 Wm Wn L0 ss ls H6 VB LG0 LN0 L60 s6 Wo Wp=>?_⟩;have kp6:=kp5.same s6;have OF6:=Y3.same s6;have FR6:=FL.same s6;have SZ:=SY.same s6;have nS0:Y4≠p:=by rintro rfl;exact SY.some Wo
   have nL0:Y5≠p:=by rintro rfl;exact SY.some Wp
   refine⟨t5,_,rfl,cx.of VB,rfl,_,_,rfl,_,_,rfl,rfl,?_⟩;refine⟨_,rfl,_,rfl,_,rfl,p,Y4,Y5,Wm,Wn,s.length,L0,ss,ls,rfl,SZ,LG0,nS0,nL0,L60,fun t6 SA LA bu bv L S0 SF LG hLL SC SD Ip aah=>?_⟩;have LN:=LN0.cut hLL;have Fj:=kp6.gm Ip SZ.ld;have Iq:=OF6.gm Ip SZ Er;have Qy:=FR6.gm Ip SZ;have Wq:a4≠p:=by rintro rfl;obtain⟨u,v,e,_⟩:=SY;rw[e] at ha;cases ha
   have ha6:=Ip _ _ (s6 _ _ ha) Wq;refine⟨t6,_,rfl,cx.of SF,rfl,_,_,rfl,_,_,rfl,rfl,?_⟩;obtain⟨oo,ks,OK,Y6⟩:=Iq.dict;refine⟨_,rfl,O',_,rfl,⟨oo,Y6⟩,_,rfl,O',mQ,n,g',rfl,Iq,G',FG,fun l zs H7 s7 hl7 hz7 po7 ez=>fun px dx nx ndx nex=>?_⟩;have kp7:=Fj.same s7;have sN:aE H7 (upd (upd H7 dx (.own px)) px (.ins C dx [])):=(aj (o:=.own px) ndx).trans (aj (D:=px) (o:=.ins C dx []) (by rw[ak nex.symm];exact nx));have gpx:(upd (upd H7 dx (.own px)) px (.ins C dx [])) px=some (.ins C dx []):=af;have pxN:S0 px=none:=s7.free nx;generalize upd (upd H7 dx (.own px)) px (.ins C dx [])=HM at *;have Y7:=kp7.same sN;have sM:aE S0 HM:=s7.trans sN;have FiZ:eG n (zp zs):=dD.sZ ez.symm Fi;have TM:fk HM l n zs:=⟨FiZ,sN _ _ hz7,fun z hz=>sN _ _ (po7 z hz)⟩
   refine⟨px,dx,n,l,zs,by rw[cp,OK.len];rfl,gpx,TM,Y7.t,fun H8 N8 t8 s8=>⟨rfl,?_⟩⟩;have N8':=N8.perm ez;have Y8:∀b o,S0 b=some o->b≠Pt->H8 b=some o:=fun b o e z=>s8 _ _ (sM _ _ e) (ai e pxN) z;have FO:∀b o,S0 b=some o->(∀ps,o≠.m6 ps)->H8 b=some o:=fun b o e z=>Y8 b o e (Fj.t.not e z);have Wr:jX Pb H8:=Fj.b.keep fun b o e z=>Y8 b o e (by
    rcases z with rfl|⟨p,rfl⟩
    .exact NH.symm
    .exact Fj.t.not e (by intro ps w;cases w))
   obtain⟨g1,g2,g3,g4,g5,g6⟩:=LG;have LG8:cI H8 SA LA bu bv hs.length L ss ls:=⟨FO _ _ g1 (by intro ps w;cases w),FO _ _ g2 (by intro ps w;cases w),g3.mono fun j _ e=>FO _ _ e (by intro ps w;cases w),g4.mono fun j _ e=>FO _ _ e (by intro ps w;cases w),fun b hb=>by rw[hl];exact g5 b hb,g6⟩
   have Ws:¬ (HM Pb=none):=by
    have:=Y7.b;intro z;rcases this with y|⟨_,y,_⟩ <;> (rw[z] at y;cases y)
   have X8:Ev C Pb (fun b=>HM b=none) px O' r a4 SA LA mQ ds bu bv n L g' hs [] ss ls H8:=by
    refine⟨N8',Ws,Rn,G',RGx,⟨⟨oo,ks,OK,FO _ _ Y6 (by intro ps w;cases w)⟩,Iq.rows.mono fun j _ e=>FO _ _ e (by intro ps w;cases w),Iq.inj⟩,⟨?_,fun j hj=>?_⟩,FO _ _ ha6 (by intro ps w;cases w),LG8,LN,by lia,by lia,Wr⟩
    .obtain⟨ks2,x,y⟩:=Qy.dict;exact⟨ks2,x,FO _ _ y (by intro ps w;cases w)⟩
    .obtain⟨Rr,x,y⟩:=Qy.rows j hj;exact⟨Rr,FO _ _ x (by intro ps w;cases w),y⟩
   have kp8:Kp K Pt Pb a (ns.map V.int) H8:=⟨Fj.s.mono fun o u z=>FO _ _ z (by intro ps w;cases w),t8,Wr⟩
   refine⟨_,rfl,a4,_,rfl,.inr (cx.of X8.ha),(hs.length:Nat),by rw[aO],by lia,by lia,?_⟩;refine eW (n:=hs.length) (lo:=0) (fun i σ H9=>(∃v,σ=[some (.ref a),some (.int k),some (.ref p),some (.ref O'),some (.ref r),some (.ref a4),some (.ref b4),some (.ref SA),some (.ref LA),some (.ref px),v])/\cy Pb H8 H9/\jX Pb H9) ⟨⟨_,rfl⟩,cy.of (aE.refl _),Wr⟩ ?_ ?_
   .rintro i σ H9 hi ⟨⟨v,rfl⟩,s9,Wt⟩;rw[lx];exact⟨_,rfl,_,rfl,_,rfl,_,rfl,_,rfl,_,rfl,_,rfl,_,px,O',r,a4,SA,LA,mQ,ds,bu,bv,n,L,g',hs,[],ss,ls,i,rfl,X8.keep s9 Wt,hi,fun H10 Wu s10=>⟨_,rfl,lJ ⟨⟨_,rfl⟩,s9.trans s10,Wu⟩⟩⟩
   .rintro σ H9 ⟨⟨v,rfl⟩,s9,Wt⟩;exact⟨⟨_,_,_,_,_,_,_,_,_,_,rfl⟩,kp8.qX NH s9 Wt⟩
  .rintro σ Hc _;exact q Hc
end
open PySem L2
open dD (NT mC)
def FD(K:PySem.W.Frag)(n:Str)(st:Stmt):Prop:=∃ (f:Addr) (oc:Value) (od an:Option Addr) (sl:Array (Option Value)) (kV dc pm cd ct:Value),PySem.W.nsIn K mainGlobals n=some (some (.ref f))/\K.lookup f=some ⟨oc,od,.func (PySem.W.fnOf n n (cQ st) (bT st) (am st) .none kV dc pm an cd ct),sl⟩/\PySem.W.codeIn K cd n=true/\PySem.W.keepIn K (.ref f)=true
def FC(K:PySem.W.Frag)(n:Str)(st:Stmt)(c:Addr):Prop:=∃ (f:Addr) (oc:Value) (od an:Option Addr) (sl:Array (Option Value)) (kV dc pm ct:Value),PySem.W.nsIn K mainGlobals n=some (some (.ref f))/\K.lookup f=some ⟨oc,od,.func (PySem.W.fnOf n n (cQ st) (bT st) (am st) .none kV dc pm an (.ref c) ct),sl⟩/\PySem.W.codeIn K (.ref c) n=true/\PySem.W.keepIn K (.ref f)=true
def MD(K:PySem.W.Frag)(C:Addr)(n q:Str)(st:Stmt):Prop:=∃ (f:Addr) (oc:Value) (od an:Option Addr) (sl:Array (Option Value)) (kV dc pm cd ct:Value),PySem.W.findIn K (.ref C) n=some (some (.ref f))/\PySem.W.isFn K (.ref f)=true/\K.lookup f=some ⟨oc,od,.func (PySem.W.fnOf n q (cQ st) (bT st) (am st) .none kV dc pm an cd ct),sl⟩/\PySem.W.codeIn K cd q=true/\PySem.W.keepIn K (.ref f)=true
def MC(K:PySem.W.Frag)(C:Addr)(n q:Str)(st:Stmt)(c:Addr):Prop:=∃ (f:Addr) (oc:Value) (od an:Option Addr) (sl:Array (Option Value)) (kV dc pm ct:Value),PySem.W.findIn K (.ref C) n=some (some (.ref f))/\PySem.W.isFn K (.ref f)=true/\K.lookup f=some ⟨oc,od,.func (PySem.W.fnOf n q (cQ st) (bT st) (am st) .none kV dc pm an (.ref c) ct),sl⟩/\PySem.W.codeIn K (.ref c) q=true/\PySem.W.keepIn K (.ref f)=true
section
variable {P:Program} {w:World} {K:PySem.W.Frag} {mg:Str->Option Value} {base h:Heap} {n q:Str} {st:Stmt} {f c C:Addr} {oc kV dc pm cd ct:Value} {od an:Option Addr} {sl:Array (Option Value)} {CX:vK} {k:Nat} {ps:List Str} {sp:Sp}
theorem FD.mk(a:PySem.W.nsIn K mainGlobals n=some (some (.ref f)))(l:K.lookup f=some ⟨oc,od,.func (PySem.W.fnOf n n (cQ st) (bT st) (am st) .none kV dc pm an cd ct),sl⟩)(d:PySem.W.codeIn K cd n=true)(k:PySem.W.keepIn K (.ref f)=true):FD K n st:=⟨f,oc,od,an,sl,kV,dc,pm,cd,ct,a,l,d,k⟩
theorem FC.mk(a:PySem.W.nsIn K mainGlobals n=some (some (.ref f)))(l:K.lookup f=some ⟨oc,od,.func (PySem.W.fnOf n n (cQ st) (bT st) (am st) .none kV dc pm an (.ref c) ct),sl⟩)(d:PySem.W.codeIn K (.ref c) n=true)(k:PySem.W.keepIn K (.ref f)=true):FC K n st c:=⟨f,oc,od,an,sl,kV,dc,pm,ct,a,l,d,k⟩
theorem MD.mk(a:PySem.W.findIn K (.ref C) n=some (some (.ref f)))(i:PySem.W.isFn K (.ref f)=true)(l:K.lookup f=some ⟨oc,od,.func (PySem.W.fnOf n q (cQ st) (bT st) (am st) .none kV dc pm an cd ct),sl⟩)(d:PySem.W.codeIn K cd q=true)(k:PySem.W.keepIn K (.ref f)=true):MD K C n q st:=⟨f,oc,od,an,sl,kV,dc,pm,cd,ct,a,i,l,d,k⟩
theorem MC.mk(a:PySem.W.findIn K (.ref C) n=some (some (.ref f)))(i:PySem.W.isFn K (.ref f)=true)(l:K.lookup f=some ⟨oc,od,.func (PySem.W.fnOf n q (cQ st) (bT st) (am st) .none kV dc pm an (.ref c) ct),sl⟩)(d:PySem.W.codeIn K (.ref c) q=true)(k:PySem.W.keepIn K (.ref f)=true):MC K C n q st c:=⟨f,oc,od,an,sl,kV,dc,pm,ct,a,i,l,d,k⟩
def BD(n q:Str)(st:Stmt)(ps:List Str):Prop:=∀ (kV me pm:Value) (an:Option Addr) (dL ct:Value) (us:List Value),us.length=ps.length->bindArgs (PySem.W.fnOf n q (cQ st) (bT st) (am st) .none kV me pm an dL ct) ⟨us,[]⟩=pure (ps.zip us)
theorem FD.gQ(X:K.In h)(G:h.Ns mainGlobals mg)(D:FD K n st)(b:BD n n st ps)(o:∀ {f fd},fQ K n n st f fd->br P w K mg base CX k f fd ps sp):b_ P w K mg base CX k n ps sp:=by
 obtain⟨f,_,_,_,_,_,_,_,_,_,a,l,d,kp⟩:=D;have F:=uB (x:=n) (qual:=n) (st:=st) l d kp;exact⟨⟨f,_,lr X G a,kp,F.binds b,o F⟩⟩
theorem FC.gQ(X:K.In h)(G:h.Ns mainGlobals mg)(D:FC K n st c)(b:BD n n st ps)(o:∀ {f fd},wg K n n st f fd c->br P w K mg base CX k f fd ps sp):b_ P w K mg base CX k n ps sp:=by
 obtain⟨f,_,_,_,_,_,_,_,_,a,l,d,kp⟩:=D;have F:=Gv (x:=n) (qual:=n) (st:=st) l d kp;exact⟨⟨f,_,lr X G a,kp,F.fun.binds b,o F⟩⟩
theorem MD.gQ(D:MD K C n q st)(b:BD n q st ps)(o:∀ {f fd},fQ K n q st f fd->br P w K mg base CX k f fd ps sp):mC P w K mg base CX k C n ps sp:=by
 obtain⟨f,_,_,_,_,_,_,_,_,_,a,i,l,d,kp⟩:=D;have F:=uB (x:=n) (qual:=q) (st:=st) l d kp;exact⟨⟨f,_,⟨a,i,kp⟩,F.binds b,o F⟩⟩
end
theorem qY{α:Type}{P:List α->Prop}(h:∀a0,P [a0])(l:List α)(e:l.length=1):P l:=by
 cases l with
 |nil=>cases e
 |cons a t=>cases t with
  |nil=>exact h a
  |cons b t=>cases e
theorem hW{α:Type}{P:List α->Prop}(h:∀a0 a1,P [a0,a1])(l:List α)(e:l.length=2):P l:=by
 cases l with
 |nil=>cases e
 |cons a t=>exact qY (P:=fun t=>P (a::t)) (h a) t (lv e)
theorem jY{α:Type}{P:List α->Prop}(h:∀a0 a1 a2,P [a0,a1,a2])(l:List α)(e:l.length=3):P l:=by
 cases l with
 |nil=>cases e
 |cons a t=>exact hW (P:=fun t=>P (a::t)) (h a) t (lv e)
theorem qZ{α:Type}{P:List α->Prop}(h:∀a0 a1 a2 a3,P [a0,a1,a2,a3])(l:List α)(e:l.length=4):P l:=by
 cases l with
 |nil=>cases e
 |cons a t=>exact jY (P:=fun t=>P (a::t)) (h a) t (lv e)
theorem xf{α:Type}{P:List α->Prop}(h:∀a0 a1 a2 a3 a4,P [a0,a1,a2,a3,a4])(l:List α)(e:l.length=5):P l:=by
 cases l with
 |nil=>cases e
 |cons a t=>exact qZ (P:=fun t=>P (a::t)) (h a) t (lv e)
theorem AU{α:Type}{P:List α->Prop}(h:∀a0 a1 a2 a3 a4 a5,P [a0,a1,a2,a3,a4,a5])(l:List α)(e:l.length=6):P l:=by
 cases l with
 |nil=>cases e
 |cons a t=>exact xf (P:=fun t=>P (a::t)) (h a) t (lv e)
theorem AV{α:Type}{P:List α->Prop}(h:∀a0 a1 a2 a3 a4 a5 a6,P [a0,a1,a2,a3,a4,a5,a6])(l:List α)(e:l.length=7):P l:=by
 cases l with
 |nil=>cases e
 |cons a t=>exact AU (P:=fun t=>P (a::t)) (h a) t (lv e)
theorem Qz{α:Type}{P:List α->Prop}(h:∀a0 a1 a2 a3 a4 a5 a6 a7,P [a0,a1,a2,a3,a4,a5,a6,a7])(l:List α)(e:l.length=8):P l:=by
 cases l with
 |nil=>cases e
 |cons a t=>exact AV (P:=fun t=>P (a::t)) (h a) t (lv e)
theorem Mz{l:PySem.W.OpenLaw}{w:World}{K:PySem.W.Frag}{h:Heap}{mg:Str->Option Value}{fa:Addr}(X:K.In h)(G:h.Ns mainGlobals mg)(hfa:mg "law"=some (.ref fa)){C cO Pt cB Pb:Addr}{oO rK oP:Tok}(aC:PySem.W.nsIn K mainGlobals "Net"=some (some (.ref C)))(AW:FD K "is_whole" dD.nK)(xg:FD K "is_whole_within" dD.j_)(Ir:FD K "is_house" dD.y3)(QA:FD K "is_row" dD.Lb)(QB:FD K "are_unlike_houses" dD.Lf)(QC:FD K "is_tie" dD.Ld)(Iu:FD K "check_ties" dD.y7)(QD:FD K "check_balance" dD.Le)(MA:FC K "houses_out" dD.wI cO)(MB:FD K "distances_from" dD.D5)(Iv:FD K "check_reached" dD.y8)(Fk:FD K "is_handed_on" va)(ME:FD K "is_sent_from" EE)(Iw:FD K "is_chain" vc)(QE:FD K "is_straight" LU)(QF:FD K "taker" Mn)(QG:FD K "is_led" V4)(Wv:FD K "good_tie_taker" V5)(Ww:FD K "chain_along" V6)(Wx:FC K "blame" SL cB)(QH:FD K "_law_pot" Lu)(MH:FD K "_law_take" Ed)(MJ:FD K "_law_shuffled" Ee)(Wy:FD K "_law_ring" Vy)(Wz:FD K "_law_going_round" Sf)(Ix:FD K "_law_ties" ve)(ML:FD K "_law_far" wH)(Iy:FD K "_law_fars" EN)(QI:FD K "_law_letters" Hr)(QJ:FD K "_law_behind" LF)(QK:FD K "_law_is_led" LY)(WA:FD K "_law_goods" Vu)(WB:FD K "_law_nearest" VC)(WC:FD K "_law_taker" Vv)(WD:FD K "_law_blame" VZ)(WE:FD K "_law_cut" VN)(WF:FD K "_law_is_list" VO)(QL:FD K "_law_log" Me)(WG:FD K "_law_told_right" Wa)(WH:FD K "_law_letter_right" Wf)(QM:FD K "law" zC)(MM:MD K C "__init__" "Net.__init__" dD.At)(Iz:MD K C "check_house" "Net.check_house" dD.y6)(QN:MD K C "far" "Net.far" dD.wH)(MN:MD K C "good" "Net.good" dD.DU)(pg:PySem.W.plainGet K C Str.empty=true)(WI:PySem.W.hasDictIn K C=true)(po:PySem.W.plainOver K C=true)(sa:PySem.W.findIn K (.ref C) "__setattr__"=some (some (.builtin "object.__setattr__")))(mk:PySem.W.makesIn K C=true)(kc:PySem.W.keepIn K (.ref C)=true)(nH:PySem.W.findIn K (.ref C) "house_count"=some none)(nT:PySem.W.findIn K (.ref C) "tie_list"=some none)(nO:PySem.W.findIn K (.ref C) "out_lists"=some none)(nD:PySem.W.findIn K (.ref C) "distances"=some none)(mO:PySem.W.nsIn K mainGlobals "isinstance"=some none)(JQ:PySem.W.nsIn K mainGlobals "int"=some none)(Fl:PySem.W.nsIn K mainGlobals "bool"=some none)(Fm:PySem.W.nsIn K mainGlobals "list"=some none)(AX:PySem.W.nsIn K mainGlobals "tuple"=some none)(MO:PySem.W.nsIn K mainGlobals "dict"=some none)(JR:PySem.W.nsIn K mainGlobals "len"=some none)(AY:PySem.W.nsIn K mainGlobals "range"=some none)(xh:PySem.W.nsIn K mainGlobals "enumerate"=some none)(JS:PySem.W.nsIn K mainGlobals "all"=some none)(QO:PySem.W.nsIn K mainGlobals "abs"=some none)(JT:PySem.W.nsIn K mainGlobals "max"=some none)(JU:PySem.W.nsIn K mainGlobals "min"=some none)(MP:PySem.W.nsIn K mainGlobals "repr"=some none)(QP:PySem.W.nsIn K mainGlobals "str"=some none)(QQ:PySem.W.nsIn K mainGlobals "set"=some none)(Fn:PySem.W.nsIn K mainGlobals "sorted"=some none)(QR:PySem.W.nsIn K mainGlobals "any"=some none)(vo:PySem.W.nsIn K mainGlobals "ValueError"=some none)(oQ:PySem.W.nsIn K mainGlobals "FEWEST_HOUSES"=some (some (.int 2 oO)))(rM:PySem.W.nsIn K mainGlobals "MOST_HOUSES"=some (some (.int 32 rK)))(oR:PySem.W.nsIn K mainGlobals "MOST_TIES_OUT"=some (some (.int 8 oP)))(NH:Pt≠Pb)(MQ:PySem.W.codeHdIn K cO Pt=true)(WJ:PySem.W.codeHdIn K cB Pb=true):
  ∃fd:FuncData,(∀ (s:Shared) (v:Value),BindsTo s fd ⟨[v],[]⟩ [("_law_script",v)])/\∀base:Heap,K.In base->base.Ns mainGlobals mg->rD mg base->br l.prog w K mg base aZ 13 fa fd ["_law_script"] (AT K Pt Pb):=by
 obtain⟨Y9,oc,od,an,sl,kV,dc,pm,cd,ct,QS,QT,QU,QV⟩:=QM;have e:=hfa.symm.trans (lr X G QS);cases e;have QW:=uB (x:="law") (qual:="law") (st:=zC) QT QU QV;obtain⟨Y_,oci,odi,ani,YI,kVi,dci,pmi,cdi,cti,a_i,i_i,l_i,d_i,k_i⟩:=MM;have xi:=uB (x:="__init__") (qual:="Net.__init__") (st:=dD.At) l_i d_i k_i;have Fp:=xi.binds (ps:=["self","many","ties"]) fun _ _ _ _ _ _=>jY fun _ _ _=>rfl;have MK:Mk K C Y_:=⟨mk,a_i,i_i,kc⟩
 have B:Bl mg:=⟨cL X G mO,cL X G JQ,cL X G Fl,cL X G Fm,cL X G AX,cL X G MO,cL X G JR,cL X G AY,cL X G xh,cL X G JS,cL X G QO,cL X G JT,cL X G JU,cL X G MP⟩
 have T:NT K mg C:=⟨⟨pg,WI,po,sa⟩,nH,nT,nO,nD,lr X G aC⟩
 have FP:dD.Bl mg:=⟨cL X G mO,cL X G JQ,cL X G Fl,cL X G AX,cL X G Fm,cL X G QP,cL X G QQ,cL X G JR,cL X G AY,cL X G Fn,cL X G QR,cL X G JT,cL X G JU,cL X G vo,cL X G JS⟩
 refine⟨PySem.W.fnOf "law" "law" (cQ zC) (bT zC) (am zC) .none kV dc pm an cd ct,fun s v=>.of_eq rfl,fun base kb nb hb=>?_⟩;have IA:b_ l.prog w K mg base aZ 1 "is_whole" ["thing"] (dD.iY K):=FD.gQ X G AW (fun _ _ _ _ _ _=>qY fun _=>rfl) fun vp=>dD.qJ vp FP;have xj:b_ l.prog w K mg base aZ 2 "is_whole_within" ["thing","least","most"] (dD.fU K):=FD.gQ X G xg (fun _ _ _ _ _ _=>jY fun _ _ _=>rfl) fun q0=>dD.nM q0 IA;have AZ:b_ l.prog w K mg base aZ 3 "is_house" ["many","thing"] (dD.o8 K):=FD.gQ X G Ir (fun _ _ _ _ _ _=>hW fun _ _=>rfl) fun IC=>dD.DQ IC xj;have QX:b_ l.prog w K mg base aZ 1 "is_row" ["thing","length"] (dD.DR K):=FD.gQ X G QA (fun _ _ _ _ _ _=>hW fun _ _=>rfl) fun QY=>dD.Lc QY FP;have QZ:b_ l.prog w K mg base aZ 4 "are_unlike_houses" ["many","one","other"] dD.DV:=FD.gQ X G QB (fun _ _ _ _ _ _=>jY fun _ _ _=>rfl) fun Q0=>dD.Lg Q0 AZ;have Q3:b_ l.prog w K mg base aZ 5 "is_tie" ["many","thing"] dD.DW:=FD.gQ X G QC (fun _ _ _ _ _ _=>hW fun _ _=>rfl) fun Q4=>dD.Li Q4 QX QZ;have ID:b_ l.prog w K mg base aZ 6 "check_ties" ["many","ties"] dD.kd:=FD.gQ X G Iu (fun _ _ _ _ _ _=>hW fun _ _=>rfl) fun IE=>dD.DY IE FP ⟨_,lr X G oQ⟩ ⟨_,lr X G rM⟩ xj Q3;have Q5:b_ l.prog w K mg base aZ 1 "check_balance" ["many","ties"] dD.kd:=FD.gQ X G QD (fun _ _ _ _ _ _=>hW fun _ _=>rfl) fun Q6=>dD.Lj Q6 FP ⟨_,lr X G oR⟩;have MR:b_ l.prog w K mg base aZ 1 "houses_out" ["many","ties","house"] (dD.u3 Pt):=FC.gQ X G MA (fun _ _ _ _ _ _=>jY fun _ _ _=>rfl) fun MS=>dD.Hf MS FP kb hb MQ;have MT:b_ l.prog w K mg base aZ 1 "distances_from" ["out_lists","start"] dD.u4:=FD.gQ X G MB (fun _ _ _ _ _ _=>hW fun _ _=>rfl) fun MU=>dD.Hg MU FP;have IF:b_ l.prog w K mg base aZ 1 "check_reached" ["distances"] dD.u5:=FD.gQ X G Iv (fun _ _ _ _ _ _=>qY fun _=>rfl) fun IG=>dD.Eb IG FP;have MV:br l.prog w K mg base aZ 7 Y_ _ ["self","many","ties"] (dD.u6 C Pt):=dD.Hj xi T FP ID Q5 MR MT IF;have IH:mC l.prog w K mg base aZ 4 C "check_house" ["self","thing"] (dD.qL C):=MD.gQ Iz (fun _ _ _ _ _ _=>hW fun _ _=>rfl) fun Ce=>dD.BX Ce T AZ;have Fq:mC l.prog w K mg base aZ 5 C "far" ["self","one","other"] (dD.nQ C):=MD.gQ QN (fun _ _ _ _ _ _=>jY fun _ _ _=>rfl) fun II=>dD.G9 II T IH;have MW:mC l.prog w K mg base aZ 6 C "good" ["self","house","home"] (dD.ph C):=MD.gQ MN (fun _ _ _ _ _ _=>jY fun _ _ _=>rfl) fun Fs=>dD.E_ Fs T Fq;have Ft:b_ l.prog w K mg base aZ 1 "is_whole" ["thing"] iY:=FD.gQ X G AW (fun _ _ _ _ _ _=>qY fun _=>rfl) fun vp=>qJ vp B;have Cf:b_ l.prog w K mg base aZ 2 "is_whole_within" ["thing","least","most"] fU:=FD.gQ X G xg (fun _ _ _ _ _ _=>jY fun _ _ _=>rfl) fun q0=>nM q0 Ft;have q9:b_ l.prog w K mg base aZ 3 "is_handed_on" ["stands","log","letter","beat"] jT:=FD.gQ X G Fk (fun _ _ _ _ _ _=>qZ fun _ _ _ _=>rfl) fun Fu=>B4 Fu B Cf;have MX:b_ l.prog w K mg base aZ 4 "is_sent_from" ["stands","log","letter","beat","house"] zi:=FD.gQ X G ME (fun _ _ _ _ _ _=>xf fun _ _ _ _ _=>rfl) fun MY=>HA MY q9;have A0:b_ l.prog w K mg base aZ 5 "is_chain" ["homes","stands","log","letter","beat","thing"] pe:=FD.gQ X G Iw (fun _ _ _ _ _ _=>AU fun _ _ _ _ _ _=>rfl) fun IJ=>EH IJ B q9 MX;have Q7:b_ l.prog w K mg base aZ 6 "is_straight" ["net","homes","stands","log","letter","beat","chain"] (EU C):=FD.gQ X G QE (fun _ _ _ _ _ _=>AV fun _ _ _ _ _ _ _=>rfl) fun Q8=>LV Q8 B T A0 Fq;have Q9:b_ l.prog w K mg base aZ 1 "taker" ["stand","handing","house","goes"] Fc:=FD.gQ X G QF (fun _ _ _ _ _ _=>qZ fun _ _ _ _=>rfl) fun Q_=>Mp Q_ B;have Ra:b_ l.prog w K mg base aZ 6 "is_led" ["net","homes","stand","handing","letter"] (Fd C):=FD.gQ X G QG (fun _ _ _ _ _ _=>xf fun _ _ _ _ _=>rfl) fun Rb=>Mr Rb T Fq;have WK:b_ l.prog w K mg base aZ 7 "good_tie_taker" ["net","homes","stand","handing","letter"] (Ih C):=FD.gQ X G Wv (fun _ _ _ _ _ _=>xf fun _ _ _ _ _=>rfl) fun WL=>Qk WL T Ra Q9 MW;have WM:b_ l.prog w K mg base aZ 9 "chain_along" ["homes","stands","log","letter","beat","instead_of"] (Mt C):=FD.gQ X G Ww (fun _ _ _ _ _ _=>AU fun _ _ _ _ _ _=>rfl) fun WN=>Qn WN B q9 WK;have Re:b_ l.prog w K mg base aZ 10 "blame" ["net","homes","stands","log","letter","beat"] (Ik C Pb):=FC.gQ X G Wx (fun _ _ _ _ _ _=>AU fun _ _ _ _ _ _=>rfl) fun WO=>Qo WO kb hb WJ WM;have Rf:b_ l.prog w K mg base aZ 1 "_law_pot" ["_law_script","_law_k"] (Ef K):=FD.gQ X G QH (fun _ _ _ _ _ _=>hW fun _ _=>rfl) fun Rh=>Lv Rh B;have q_:b_ l.prog w K mg base aZ 1 "_law_take" ["_law_pot_here","_law_many"] lT:=FD.gQ X G MH (fun _ _ _ _ _ _=>hW fun _ _=>rfl) fun MZ=>Hl MZ;have M0:b_ l.prog w K mg base aZ 2 "_law_shuffled" ["_law_pot_here","_law_some"] (ze K):=FD.gQ X G MJ (fun _ _ _ _ _ _=>hW fun _ _=>rfl) fun M3=>Hm M3 B q_;have WP:b_ l.prog w K mg base aZ 3 "_law_ring" ["_law_pot_here","_law_many"] L4:=FD.gQ X G Wy (fun _ _ _ _ _ _=>hW fun _ _=>rfl) fun WQ=>PY WQ B q_ M0;have WR:b_ l.prog w K mg base aZ 1 "_law_going_round" ["_law_outs"] Lx:=FD.gQ X G Wz (fun _ _ _ _ _ _=>qY fun _=>rfl) fun WS=>Pr WS B;have IK:b_ l.prog w K mg base aZ 1 "_law_ties" ["_law_outs"] vg:=FD.gQ X G Ix (fun _ _ _ _ _ _=>qY fun _=>rfl) fun IM=>ES IM;have M4:b_ l.prog w K mg base aZ 1 "_law_far" ["_law_outs","_law_home"] AE:=FD.gQ X G ML (fun _ _ _ _ _ _=>hW fun _ _=>rfl) fun M5=>LP M5 B;have IP:b_ l.prog w K mg base aZ 2 "_law_fars" ["_law_outs"] zn:=FD.gQ X G Iy (fun _ _ _ _ _ _=>qY fun _=>rfl) fun IQ=>HK IQ B M4;have Ri:b_ l.prog w K mg base aZ 2 "_law_letters" ["_law_pot_here","_law_outs","_law_most"] Ep:=FD.gQ X G QI (fun _ _ _ _ _ _=>jY fun _ _ _=>rfl) fun Rj=>Lz Rj B q_;have Rk:b_ l.prog w K mg base aZ 1 "_law_behind" ["_law_homes","_law_stand","_law_gone"] Ew:=FD.gQ X G QJ (fun _ _ _ _ _ _=>jY fun _ _ _=>rfl) fun Rl=>LH Rl B;have Rm:b_ l.prog w K mg base aZ 1 "_law_is_led" ["_law_fars_here","_law_homes","_law_stand","_law_gone","_law_i"] EW:=FD.gQ X G QK (fun _ _ _ _ _ _=>xf fun _ _ _ _ _=>rfl) fun Ro=>LZ Ro;have Rp:b_ l.prog w K mg base aZ 1 "_law_goods" ["_law_outs","_law_fars_here","_law_home","_law_house"] HP:=FD.gQ X G WA (fun _ _ _ _ _ _=>qZ fun _ _ _ _=>rfl) fun WT=>PV WT;have WU:b_ l.prog w K mg base aZ 2 "_law_nearest" ["_law_outs","_law_fars_here","_law_homes","_law_stand"] L8:=FD.gQ X G WB (fun _ _ _ _ _ _=>qZ fun _ _ _ _=>rfl) fun WV=>P2 WV B FP.sorted Rp;have WW:b_ l.prog w K mg base aZ 1 "_law_taker" ["_law_stand","_law_gone","_law_i","_law_house"] L3:=FD.gQ X G WC (fun _ _ _ _ _ _=>qZ fun _ _ _ _=>rfl) fun WX=>PX WX B;have Rq:b_ l.prog w K mg base aZ 2 "_law_blame" ["_law_outs","_law_fars_here","_law_homes","_law_stands","_law_log_here","_law_i","_law_beat"] H_:=FD.gQ X G WD (fun _ _ _ _ _ _=>AV fun _ _ _ _ _ _ _=>rfl) fun WY=>Qe WY B Rm WW Rp;have WZ:b_ l.prog w K mg base aZ 2 "_law_cut" ["_law_pot_here","_law_stands","_law_log_here"] Mg:=FD.gQ X G WE (fun _ _ _ _ _ _=>jY fun _ _ _=>rfl) fun W0=>P_ W0 B q_;have W1:b_ l.prog w K mg base aZ 1 "_law_is_list" ["_law_found","_law_due"] Mh:=FD.gQ X G WF (fun _ _ _ _ _ _=>hW fun _ _=>rfl) fun W2=>Qa W2 B;have Rt:b_ l.prog w K mg base aZ 3 "_law_log" ["_law_outs","_law_fars_here","_law_homes","_law_stand"] zy:=FD.gQ X G QL (fun _ _ _ _ _ _=>qZ fun _ _ _ _=>rfl) fun Ru=>Mi Ru B WU Rk;have W3:b_ l.prog w K mg base aZ 11 "_law_told_right" ["_law_net","_law_outs","_law_fars_here","_law_homes","_law_stands","_law_log_here","_law_i","_law_beat"] (Mv C Pb):=FD.gQ X G WG (fun _ _ _ _ _ _=>Qz fun _ _ _ _ _ _ _ _=>rfl) fun W4=>Qp W4 B Rq Re W1 A0 Q7;have W5:b_ l.prog w K mg base aZ 12 "_law_letter_right" ["_law_net","_law_outs","_law_fars_here","_law_homes","_law_stands","_law_log_here","_law_i"] (Mw C Pb):=FD.gQ X G WH (fun _ _ _ _ _ _=>AV fun _ _ _ _ _ _ _=>rfl) fun W6=>Qw W6 B FP.set W3 Rq Re;exact Mx QW NH B T Rf q_ WP WR IP Ri Rt WZ IK MK Fp MV W5
theorem JV(h:((List.range 2000).any fun c=>PySem.W.codeHdIn K c P)=true):∃c,PySem.W.codeHdIn K c P=true:=
 let ⟨c,_,e⟩:=List.any_eq_true.mp h;⟨c,e⟩
theorem M6(hO:Aa ts H)(h:aU K H a xs):JP K H a xs:=by
 rcases h with h|h
 .rcases h with h|⟨o,h⟩
  .rcases hO.2 a with z|⟨_,z⟩|⟨o,ys,z⟩ <;> · rw[h] at z;cases z
  .exact .inl ⟨o,h⟩
 .exact .inr fun H'=>.inr h
theorem walk{l:PySem.W.OpenLaw}{q:Program}{sg:List Str}{XP:(Str->Option Value)->Heap->Prop}{YP:World->Heap->Prop}{d:DefRec}{K:Params->PySem.W.Frag}{Pb Pt:Addr}(hn:l.most=some 63)(Ol:d.params.defaults=[])(hY:∀ (w:World) (h:Heap),YP w h->(K w.params).In h)(hT:∀ (w:World) (h:Heap),YP w h->∀P∈[Pb,Pt],h.get? P=some (PySem.W.tabObj #[]))(W7:∀ (w:World),((List.range 2000).any fun c=>PySem.W.codeHdIn (K w.params) c Pb)=true)(W8:∀ (w:World),(K w.params).lookup Pb=none)(W9:∀ (w:World),((List.range 2000).any fun c=>PySem.W.codeHdIn (K w.params) c Pt)=true)(W_:∀ (w:World),(K w.params).lookup Pt=none)(F:∀ (w:World) (mg:Str->Option Value) (fa:Addr) (h:Heap),(K w.params).In h->h.Ns mainGlobals mg->mg d.name=some (.ref fa)->
   ∃fd:FuncData,(∀ (s:Shared) (u:Value),BindsTo s fd ⟨[u],[]⟩ [("_law_script",u)])/\∀base:Heap,(K w.params).In base->base.Ns mainGlobals mg->rD mg base->br l.prog w (K w.params) mg base aZ 13 fa fd ["_law_script"] (AT (K w.params) Pt Pb)):
  PySem.W.WalkO q sg XP YP l.row.toRowW d [] (fun f vs=>PySem.call f vs):=
 Dt (n:=63) (k:=13) (x:="_law_script") (ts:=[Pb,Pt]) (K:=K) (CX:=fun _=>aZ) (sp:=fun w=>(AT (K w.params) Pt Pb)) hn (by decide) Ol ⟨rfl,by decide,by decide,rfl⟩ hY hT
  (fun w P=>fun e=>(bK.mp e).elim (fun e=>by rw[e];exact JV (W7 w)) (fun e=>by rw[bS.mp e];exact JV (W9 w))) (fun w P=>fun e=>(bK.mp e).elim (fun e=>by rw[e];exact W8 w) (fun e=>by rw[bS.mp e];exact W_ w)) F
  (fun w H a ns hl hO hS=>⟨a,ns,rfl,M6 hO hS,hl,.inl (hO.1 _ (by simp)),.inl (hO.1 _ (by simp)),fun _=>rfl⟩) fun _ _ _ _ _ z=>z
end vx
open PySem PySem.W PyProof.Rows
namespace PySem.W.Fast
def tw15758709408992183152:=trivial
def tw535703454835635389:=trivial
def tw15576019780977293971:=trivial
def tw172156725164432300:=trivial
def tw11383821761694291363:=trivial
def tw16618379541093191241:=trivial
def tw14320114803784562191:=trivial
def tw2602467406966940406:=trivial
def tw1674081954252247292:=trivial
def tw5029131664516380712:=trivial
def tw3550658762580921752:=trivial
def tw6192169603889552705:=trivial
def tw12932271497759831158:=trivial
def tw16865409207511522843:=trivial
def tw2320403486555532638:=trivial
def tw15357791511425161789:=trivial
def tw5902503868015845500:=trivial
def tw5834952467461294839:=trivial
def tw11448933017010340198:=trivial
def tw12023792369374919721:=trivial
def tw10507863469270697994:=trivial
def tw338730258747743420:=trivial
def tw85578412703057086:=trivial
def tw14018536330669172898:=trivial
def tw5198951451564840657:=trivial
def tw1788428399317176038:=trivial
def tw3739984926414272841:=trivial
def tw7105903287310737159:=trivial
def tw9576929207447675386:=trivial
def tw14711620981832207731:=trivial
def tw14661678824852282544:=trivial
def tw6817082195776242393:=trivial
def tw15167188100214619715:=trivial
def tw1714547390091454237:=trivial
def tw4813044988186156741:=trivial
def tw3274553117000465527:=trivial
def tw17616666528399603778:=trivial
def tw17739788759469456383:=trivial
def tw2586284222716219874:=trivial
def tw1608940677284570516:=trivial
def tw5006283893264713572:=trivial
def tw257791448525074939:=trivial
def tw8282152897199627242:=trivial
def tw16427543839991564812:=trivial
def tw5014082186201155986:=trivial
def tw15630128893370393851:=trivial
def tw16877716556712156468:=trivial
def tw5124341874780340140:=trivial
def tw13508440921348867231:=trivial
def tw12041948925625604989:=trivial
def tw3988631872146431108:=trivial
def tw12439058069870819388:=trivial
def tw15176869033085107220:=trivial
def tw11210166834711479847:=trivial
def tw10640985383694919669:=trivial
def tw15815967662936147737:=trivial
def tw16810315216139536655:=trivial
def tw9343198338115402233:=trivial
def tw8239150119167118045:=trivial
def tw781502571896019345:=trivial
def tw10562943222884768755:=trivial
def tw13487991032089778116:=trivial
def tw8475040526427642955:=trivial
def tw10513646981381648586:=trivial
def tw12687710870631897016:=trivial
def tw2394451786875456896:=trivial
def tw2601767567601938690:=trivial
def tw4727150087637017107:=trivial
def tw6371650647418943747:=trivial
def tw17048826683253030436:=trivial
def tw3997369143482168369:=trivial
def tw6389066337241368370:=trivial
def tw8473548815326768690:=trivial
def tw15519726123385504204:=trivial
def tw15305707422530236276:=trivial
def tw3412994708862034488:=trivial
def tw35966509001566725:=trivial
def tw8010081285282447895:=trivial
def tw1964934464876213793:=trivial
def tw16455358766902264639:=trivial
def tw10797891236714593049:=trivial
def tw18279629327284307065:=trivial
def tw9998032194529511445:=trivial
def tw8399029983667591414:=trivial
def tw13421699340025157516:=trivial
def tw14506283205746098673:=trivial
def tw11213690904271044864:=trivial
def tw13881735337619009633:=trivial
def tw630974787764146689:=trivial
def tw267366299618207571:=trivial
def tw15503269446906209258:=trivial
def tw4620633002902893912:=trivial
def tw6625322084404535707:=trivial
def tw1585539040912891697:=trivial
def tw6198170672385382218:=trivial
def tw16651065174571675893:=trivial
def tw5670258431642707062:=trivial
def tw3061441506741907275:=trivial
def tw17316915467785924709:=trivial
def tw10740250872992654353:=trivial
def tw8380260346659666476:=trivial
def tw13333131658860060032:=trivial
def tw11228025557262135312:=trivial
def tw3733978881200090739:=trivial
def tw17579503614267071028:=trivial
def tw10407832913423536112:=trivial
def tw7738112173843367706:=trivial
def tw27134460763544163:=trivial
def tw6555302313709138403:=trivial
def tw5583589646736488764:=trivial
def tw8965462189920363677:=trivial
def tw9495616872432740239:=trivial
def tw11308916460563301602:=trivial
def tw7333836319134516640:=trivial
def tw6677414380131102251:=trivial
def tw11453688141842906638:=trivial
def tw1111536022296982600:=trivial
def tw3694390442000525786:=trivial
def tw17944175752687988365:=trivial
def tw8550257736488458560:=trivial
def tw12642660652563047133:=trivial
def tw6423592060212388263:=trivial
def tw6018177195570160624:=trivial
def tw10563269718785328133:=trivial
def tw13135108027762396586:=trivial
def tw13393442094846979494:=trivial
def tw8818147031453931128:=trivial
def tw12526339428107142583:=trivial
def tw2508549452176435435:=trivial
def tw15035242298196206294:=trivial
def tw6986176174122383493:=trivial
def tw215058606703536811:=trivial
def tw3559234205401742370:=trivial
def tw1991976072718138679:=trivial
def tw6966699036737595900:=trivial
def tw5985456907082529249:=trivial
def tw11693565991505736249:=trivial
def tw16522024815025532632:=trivial
def tw5084306729028544202:=trivial
def tw707497567305591497:=trivial
def tw8166558550699430506:=trivial
def tw5410488340645565056:=trivial
def tw12095965785253064749:=trivial
def tw13907819907007715171:=trivial
def tw17349553008581914742:=trivial
def tw8769433073333126803:=trivial
def tw12921667123374075509:=trivial
def tw14471054942207105147:=trivial
def tw13609228948303879767:=trivial
def tw8091676915623887329:=trivial
def tw9351331409940950552:=trivial
def tw3620329756344574992:=trivial
def tw9518989749207754175:=trivial
def tw3372254029536192020:=trivial
def tw16398042362714195744:=trivial
def tw6773738409075468526:=trivial
def tw4063264285678010934:=trivial
def tw5036612823709883653:=trivial
def tw9247571734567576945:=trivial
def tw5658803442334835811:=trivial
def tw17816792786390791466:=trivial
def tw2995424598314614843:=trivial
def tw12347457322648608866:=trivial
def tw7511455704202708605:=trivial
def tw14043910254595713889:=trivial
def tw9370239271506967517:=trivial
def tw15929656170232944552:=trivial
def tw17268162612542519310:=trivial
def tw2795363305287908578:=trivial
def tw17646759454965544733:=trivial
def tw2125041082181206204:=trivial
def tw12745055796545676459:=trivial
def tw4823416822273692003:=trivial
def tw12649306128169929663:=trivial
def tw853908513679468655:=trivial
def tw2179771261530033664:=trivial
def tw18288258149091586250:=trivial
def tw12411543002201719737:=trivial
def tw10701557203723091314:=trivial
def tw1900321727279966857:=trivial
def tw4655774641877281046:=trivial
def tw8629140612327230421:=trivial
def tw2861641324606851827:=trivial
def tw9533497904276112117:=trivial
def tw14158280613682225443:=trivial
def tw10503722463778898400:=trivial
def tw9856954669124076906:=trivial
def tw7241928102357228217:=trivial
def tw3812635334483745162:=trivial
def tw4170835606767103974:=trivial
def tw17541787183956039304:=trivial
def tw13514132882692088885:=trivial
def tw14974354160905071830:=trivial
def tw2441559243971325850:=trivial
def tw10714595366535256694:=trivial
def tw8166772676726337033:=trivial
def tw12786908587753171423:=trivial
def tw3060150574220980199:=trivial
def tw17582202412214590124:=trivial
def tw10922427731668255554:=trivial
def tw9400536899075994869:=trivial
def tw1435988917730538252:=trivial
def tw13011614257712316364:=trivial
def tw11459055950879509155:=trivial
def tw2953529222764292663:=trivial
def tw6753958527366215085:=trivial
def tw4851324888100437865:=trivial
def tw17712259047478978928:=trivial
def tw11826634679161751238:=trivial
def tw2485189597844078745:=trivial
def tw1866497729908673078:=trivial
def tw587794256730378055:=trivial
def tw8517162028412358911:=trivial
def tw15104306449164911931:=trivial
def tw17304808437833472711:=trivial
def tw15171484055994912712:=trivial
def tw16236524246775594166:=trivial
def tw300015826040338427:=trivial
def tw10769862536685220418:=trivial
def tw17978102598977645811:=trivial
def tw291977853971466351:=trivial
def tw12830640393509029922:=trivial
def tw7763966816690101122:=trivial
def tw14784987353911748642:=trivial
def tw15769875586927030158:=trivial
def tw341480682792540129:=trivial
def tw14055886544497382501:=trivial
def tw16615384290516569554:=trivial
def tw3912485323017958498:=trivial
def tw7306306874382633106:=trivial
def tw15461120120194366944:=trivial
def tw15931035389251702751:=trivial
def tw3308789952903891271:=trivial
def tw13633009759796610824:=trivial
def tw17679362639038490049:=trivial
def tw9434491795638889943:=trivial
def tw1536274565951076776:=trivial
def tw5872585018334844514:=trivial
def tw10273402096151144965:=trivial
def tw12908169683462868151:=trivial
def tw11670873193941975252:=trivial
def tw5781463966368114236:=trivial
def tw5227898470794492607:=trivial
def tw2804206442629427469:=trivial
def tw3507231760401826483:=trivial
def tw16816800621077646167:=trivial
def tw18297988696665829182:=trivial
def tw8819159828628785543:=trivial
def tw3862374502149322986:=trivial
def tw791062023834839904:=trivial
def tw3357605294429445391:=trivial
def tw1046467291465577221:=trivial
def tw8150185139282340884:=trivial
def tw11446311767287611928:=trivial
def tw2856037516925891944:=trivial
def tw15965748307674042483:=trivial
def tw11816014734233919042:=trivial
def tw9789732623919084970:=trivial
def tw1711560335567046526:=trivial
def tw11270927949023679602:=trivial
def tw3857259031925456702:=trivial
def tw13811852349809512674:=trivial
def tw6341411410860230358:=trivial
def tw9956309565054776039:=trivial
def tw10717577339979046437:=trivial
def tw14654693781904375595:=trivial
def tw12324324589072913311:=trivial
def tw4504138030970103397:=trivial
def tw12834347079729975371:=trivial
def tw11184588624703127977:=trivial
def tw677178728553806965:=trivial
def tw14116903554206374142:=trivial
def tw14728024684053660806:=trivial
def tw11211060305451984271:=trivial
def tw15166646883313010500:=trivial
def tw10863103253647188794:=trivial
def tw12531349885997850947:=trivial
def tw15394646625903233808:=trivial
def tw18058575896061914263:=trivial
def tw4001578591845381323:=trivial
def tw8656727597971320751:=trivial
def tw16831454573222337700:=trivial
def tw14443309600596928565:=trivial
def tw16234345736175574013:=trivial
def tw14132565233315541884:=trivial
def tw3003374845500024764:=trivial
def tw63949806469738450:=trivial
def tw17400761440987588342:=trivial
def tw13713815670841235707:=trivial
def tw1517231743296582682:=trivial
def tw4701852799401635713:=trivial
def tw4592784643970508824:=trivial
def tw3193502544218527004:=trivial
def tw13860568839899577788:=trivial
def tw295405497311342286:=trivial
def tw3374666132610690000:=trivial
def tw15310530543242599685:=trivial
def tw12878669639906751187:=trivial
def tw14783255723365687023:=trivial
def tw3500899296613642785:=trivial
def tw8656142965274281675:=trivial
def tw13624833801335337550:=trivial
def tw15294219093867365643:=trivial
def tw5653497580707338231:=trivial
def tw11169460012265500279:=trivial
def tw15316847083319729537:=trivial
def tw7084696078589744508:=trivial
def tw4484496547956079275:=trivial
def tw9866809092409670626:=trivial
def tw18199387667699074883:=trivial
def tw3719611263094734876:=trivial
def tw13914194627829324796:=trivial
def tw2628215629801071770:=trivial
def tw2210341840103836466:=trivial
def tw132565535410712446:=trivial
def tw15348005059034262945:=trivial
def tw16254866540452444256:=trivial
def tw16639796626616089154:=trivial
def tw10318656723536679667:=trivial
def tw2035915925125270250:=trivial
def tw6686548718370344327:=trivial
def tw10145210661605384378:=trivial
def tw16095737020766253384:=trivial
def tw2145549642825525130:=trivial
def tw18339676792431067804:=trivial
def tw12950566399058871042:=trivial
def tw2428448254060182019:=trivial
def tw9903133655579955294:=trivial
def tw5094847993261657255:=trivial
def tw6338292732058235323:=trivial
def tw5036236121467259029:=trivial
def tw2169316957649230751:=trivial
def tw2883057922631621715:=trivial
def tw4990242076863070023:=trivial
def tw14457932481926318004:=trivial
def tw16190372295041396569:=trivial
def tw3407178785398872597:=trivial
def tw12276246510350781915:=trivial
def tw4898946013476647636:=trivial
def tw11232310676465633602:=trivial
def tw14803844753405316748:=trivial
def tw5173085577385368310:=trivial
def tw17381171128843189813:=trivial
def tw1870733590955404652:=trivial
def tw11008931770638117400:=trivial
def tw14326168124309980207:=trivial
def tw5998885526429893521:=trivial
def tw10076439599798995969:=trivial
def tw9073451220851145102:=trivial
def tw5038596369813412559:=trivial
def tw9148240132574508025:=trivial
def tw9982254362308306347:=trivial
def tw10023688231591472485:=trivial
def tw594096412416193451:=trivial
def tw14150348144361318299:=trivial
def tw11238263317890162064:=trivial
def tw8144655677414816642:=trivial
def tw9266373857012388834:=trivial
def tw11252241125182565086:=trivial
def tw5621149651918359917:=trivial
end PySem.W.Fast
set_option maxRecDepth 100000 in
set_option maxHeartbeats 0 in
theorem PySem.Challenge.cw_neverwait_k64_whole_rings_by_nearest_fir_holds : PySem.Challenge.rw_neverwait_k64_whole_rings_by_nearest_fir.Holds := by
 w_on; o_law; k_head; (case hw=>w_witness2)
 k_fill
 refine vx.walk (l:=PySem.Challenge.rw_neverwait_k64_whole_rings_by_nearest_fir) (Pb:=_) (Pt:=_) rfl rfl (fun w h Y=>PySem.W.km_in_of Y) (fun w h Y=>PySem.W.km_tabs_of Y) ?cd0 ?kt0 ?cd1 ?kt1 ?F;case F =>
  intro w mg fa h KX G Om;refine' vx.Mz (Pb:=_) (Pt:=_) KX G Om ?_ ?_ ?_ ?_ ?_ ?_ ?_ ?_ ?_ ?_ ?_ ?_ ?_ ?_ ?_ ?_ ?_ ?_ ?_ ?_ ?_ ?_ ?_ ?_ ?_ ?_ ?_ ?_ ?_ ?_ ?_ ?_ ?_ ?_ ?_ ?_ ?_ ?_ ?_ ?_ ?_ ?_ ?_ ?_ ?_ ?_ ?_ ?_ ?_ ?_ ?_ ?_ ?_ ?_ ?_ ?_ ?_ ?_ ?_ ?_ ?_ ?_ ?_ ?_ ?_ ?_ ?_ ?_ ?_ ?_ ?_ ?_ ?_ ?_ ?_ ?_ ?_ ?_ ?_ ?_ ?_;all_goals first
   | (refine' vx.FD.mk ?a ?l ?d ?k; (case a=>k_is); (case l=>k_is); (case d=>k_is); (case k=>k_is))
   | (refine' vx.FC.mk ?a ?l ?d ?k; (case a=>k_is); (case l=>k_is); (case d=>k_is); (case k=>k_is))
   | (refine' vx.MD.mk ?a ?i ?l ?d ?k; (case a=>k_is); (case i=>k_is); (case l=>k_is); (case d=>k_is); (case k=>k_is))
   | (refine' vx.MC.mk ?a ?i ?l ?d ?k; (case a=>k_is); (case i=>k_is); (case l=>k_is); (case d=>k_is); (case k=>k_is))
   | k_is
   | kernel_rfl
   | decide
   | exact ⟨by kernel_rfl,by k_is,by k_is,by k_is,by k_is,by k_is,by k_is,by kernel_rfl⟩
   | skip
 case kt0=>intro w; kernel_rfl
 case cd0=>intro w; kernel_rfl
 case kt1=>intro w; kernel_rfl
 case cd1=>intro w; kernel_rfl
